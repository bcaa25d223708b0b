/- The walks of the laws HkdfTags and HkdfExtracts in the model. -/
import Derived.Test.YtlfofbkanifocaaDoorRefHmac
import Derived.Test.YtlfofbkanifocaaDoorLent
import Derived.Test.YtlfofbkanifocaaDoorKnows2
namespace Go.Proofs.YtlfofbkanifocaaDoor
open Go.RowKit
theorem bytesIn_lent {w : World} {g n cap : Nat} {bs : Nat → Nat} (hc : n ≤ cap) (h : RowAt .u8 w g 0 (n + 2) (cat n bs room)) : BytesIn w (.slice (some ⟨g, 0, none⟩) n cap) n bs :=
  .inr ⟨g, 0, cap, rfl, block_lt_of_cell (h 0 (by omega)).1, hc, fun j hj => by rw [(h j (by omega)).1, cat_left hj]⟩
theorem extract_any (v tv : Value) (n m : Nat) (bs t : Nat → Nat) (hbs : ∀ j, bs j < 256) (ht : ∀ j, t j < 256) (hnb : n < 2305843009213693000) (hm : m < 2305843009213693000) (w : World) (hT : Tab w cubeK squareK) (hv : BytesIn w v n bs) (htv : BytesIn w tv m t) :
    Calls Tryd.prog 27 #[v, tv] w fun e w' => ∃ g, e = .returned (.slice (some ⟨g, 0, none⟩) 32 32) ∧ w.heap.size ≤ g ∧ RowAt .u8 w' g 0 32 (tagH (keyB n bs) m t) ∧ Below w.heap.size w w' := by
  have c1 := hmac_any v tv n m bs t hbs ht hnb hm w hT hv htv
  obtain ⟨X, hX⟩ : ∃ X, X = tagH (keyB n bs) m t := ⟨_, rfl⟩
  rw [← hX] at c1 ⊢
  clear hX hT hv htv
  go_enter Tryd.func27, Tryd.ntmps27
  go_wp2_with (go_at_call 24; refine c1.mono ?_; clear c1; rintro e w1 ⟨g, rfl, hg, hr, hb⟩)
  go_ret
  exact ⟨g, rfl, hg, hr, hb⟩
set_option maxRecDepth 20000 in
set_option maxHeartbeats 2000000 in
theorem hkdfTags_any (v0 v1 : Value) (n0 n1 : Nat) (bs0 bs1 : Nat → Nat) (hl0 : ∀ j, bs0 j < 256) (hl1 : ∀ j, bs1 j < 256) (w : World) (hT : Tab w cubeK squareK) (hv0 : BytesIn w v0 n0 bs0) (hv1 : BytesIn w v1 n1 bs1) (hn0 : n0 < 140737488352000) (hn1 : n1 < 140737488352000) :
    Calls Tryd.prog 7 #[v0, v1] w fun e w' => e = .returned (.bool true) ∧ Below w.heap.size w w' := by
  have h3 := hT.size
  have hlent0 := lent_any v0 n0 bs0 w hv0 (by omega)
  have hlent1 := fun W (hW : Below w.heap.size w W) => lent_any v1 n1 bs1 W (hv1.keep hW) (by omega)
  have hs1 : ∀ (W : World) (g0 cap0 g1 cap1 : Nat), Below w.heap.size w W → n0 ≤ cap0 → RowAt .u8 W g0 0 (n0 + 2) (cat n0 bs0 room) → n1 ≤ cap1 → RowAt .u8 W g1 0 (n1 + 2) (cat n1 bs1 room) → Calls Tryd.prog 24 #[.slice (some ⟨g0, 0, none⟩) n0 cap0, .slice (some ⟨g1, 0, none⟩) n1 cap1] W fun e w' => ∃ ga, e = .returned (.slice (some ⟨ga, 0, none⟩) 32 32) ∧ W.heap.size ≤ ga ∧ RowAt .u8 w' ga 0 32 (tagH (keyB n0 bs0) n1 bs1) ∧ Below W.heap.size W w' := fun W g0 cap0 g1 cap1 hW hc0 hr0 hc1 hr1 => by
    exact hmac_any (.slice (some ⟨g0, 0, none⟩) n0 cap0) (.slice (some ⟨g1, 0, none⟩) n1 cap1) n0 n1 bs0 bs1 hl0 hl1 (by omega) (by omega) W (hT.below hW h3) (bytesIn_lent hc0 hr0) (bytesIn_lent hc1 hr1)
  have hs2 := fun W (hW : Below w.heap.size w W) => rHmac_any v0 v1 n0 n1 bs0 bs1 hl0 hl1 (by omega) (by omega) W (hv0.keep hW) (hv1.keep hW)
  have hs30 := fun (W : World) (g cap : Nat) (hW : Below w.heap.size w W) => stays_any g cap n0 v0 bs0 hl0 W (by omega)
  have hs31 := fun (W : World) (g cap : Nat) (hW : Below w.heap.size w W) => stays_any g cap n1 v1 bs1 hl1 W (by omega)
  have hk := fun W (hW : Below w.heap.size w W) => knows2_any W (hT.below hW h3)
  have hvk0 := fun W (hW : Below w.heap.size w W) => hv0.keep hW
  have hvk1 := fun W (hW : Below w.heap.size w W) => hv1.keep hW
  obtain ⟨X, hX⟩ : ∃ X, X = tagH (keyB n0 bs0) n1 bs1 := ⟨_, rfl⟩
  have hXl : ∀ j, X j < 256 := fun j => by rw [hX]; exact tagH_lt _ _ _ _
  rw [← hX] at hs1 hs2
  clear hX hT hv0 hv1
  go_enter Tryd.func7, Tryd.ntmps7
  go_wp2_with (first
    | (go_at_call 12; refine hlent0.mono ?_; clear hlent0; rintro e wa ⟨g0, cap0, rfl, hcap0, hg0, hrow0, hba⟩; replace hlent1 := hlent1 wa hba)
    | (go_at_call 12; refine hlent1.mono ?_; clear hlent1; rintro e w1 ⟨g1, cap1, rfl, hcap1, hg1, hrow1, hbb⟩))
  have hga0 : g0 < wa.heap.size := block_lt_of_cell (hrow0 0 (by omega)).1
  have hb1 : Below w.heap.size w w1 := hba.trans (hbb.mono hba.size)
  have hzz := hbb.size
  replace hrow0 := hrow0.below hbb hga0
  have hgl0 : g0 < w1.heap.size := by omega
  have hgl1 : g1 < w1.heap.size := block_lt_of_cell (hrow1 0 (by omega)).1
  have hd1 : Below w1.heap.size w1 w1.drew := (Below.refl _ _).drew
  have hbd := hb1.trans (hd1.mono hb1.size)
  replace hs1 := hs1 w1.drew g0 cap0 g1 cap1 hbd (by omega) (hrow0.below hd1 hgl0) (by omega) (hrow1.below hd1 hgl1)
  have hz1 := hb1.size
  go_region_with (first
    | (go_at_call 24; refine hs1.mono ?_; rintro e w2 ⟨ga, rfl, hga, hra, hb2⟩; have hbw2 : Below w.heap.size w w2 := hbd.trans (hb2.mono hbd.size); have c1 := conv_bytes w2 ga 0 32 32 X hXl (fun j hj => (hra j hj).1); have hs2' := hs2 w2 hbw2; have hgal : ga < w2.heap.size := block_lt_of_cell (hra 0 (by decide)).1)
    | (go_at_call 25; refine hs2'.mono ?_; rintro e w3 ⟨vb, rfl, ownb, hb3⟩; (obtain ⟨gb, cb, hvb, hgb, hgbl, hcb, hrb⟩ : ∃ g cap, vb = .slice (some ⟨g, 0, none⟩) 32 cap ∧ w2.heap.size ≤ g ∧ g < w3.heap.size ∧ 32 ≤ cap ∧ RowAt .u8 w3 g 0 32 X := ownb.form.resolve_left (fun h => by omega)); subst hvb; have hbw3 : Below w.heap.size w w3 := hbw2.trans (hb3.mono hbw2.size); have c2 := conv_bytes w3 gb 0 32 cb X hXl (fun j hj => (hrb j hj).1); have c3 := conv_bytes w3 ga 0 32 32 X hXl (fun j hj => ((hra.below hb3 hgal) j hj).1); have hrow3 := (hrow0.below hd1 hgl0).below (hb2.trans (hb3.mono (hb2.size))) hgl0; have hs3' := hs30 w3 g0 cap0 hbw3 hcap0 hrow3 (hvk0 w3 hbw3))
    | (go_at_call 15; refine hs3'.mono ?_; clear hs3'; rintro e w4 ⟨rfl, hb4⟩; have hbw4 : Below w.heap.size w w4 := hbw3.trans (hb4.mono hbw3.size); have hrow4 := (hrow1.below hd1 hgl1).below (hb2.trans ((hb3.mono hb2.size).trans (hb4.mono (Nat.le_trans hb2.size hb3.size)))) hgl1; have hs4' := hs31 w4 g1 cap1 hbw4 hcap1 hrow4 (hvk1 w4 hbw4))
    | (go_at_call 15; refine hs4'.mono ?_; clear hs4'; rintro e w5 ⟨rfl, hb5⟩; have hbw5 : Below w.heap.size w w5 := hbw4.trans (hb5.mono hbw4.size); have hk5 := hk w5 hbw5)
    | (go_at_call 26; refine hk5.mono ?_; rintro e w6 ⟨rfl, hb6⟩; have hbw6 : Below w.heap.size w w6 := hbw5.trans (hb6.mono hbw5.size)))
  all_goals
    go_wp2
    go_ret
    exact ⟨rfl, hbw6⟩
set_option maxRecDepth 20000 in
set_option maxHeartbeats 2000000 in
theorem hkdfExtracts_any (v0 v1 : Value) (n0 n1 : Nat) (bs0 bs1 : Nat → Nat) (hl0 : ∀ j, bs0 j < 256) (hl1 : ∀ j, bs1 j < 256) (w : World) (hT : Tab w cubeK squareK) (hv0 : BytesIn w v0 n0 bs0) (hv1 : BytesIn w v1 n1 bs1) (hn0 : n0 < 140737488352000) (hn1 : n1 < 140737488352000) :
    Calls Tryd.prog 8 #[v0, v1] w fun e w' => e = .returned (.bool true) ∧ Below w.heap.size w w' := by
  have h3 := hT.size
  have hlent0 := lent_any v0 n0 bs0 w hv0 (by omega)
  have hlent1 := fun W (hW : Below w.heap.size w W) => lent_any v1 n1 bs1 W (hv1.keep hW) (by omega)
  have hs1 : ∀ (W : World) (g0 cap0 g1 cap1 : Nat), Below w.heap.size w W → n0 ≤ cap0 → RowAt .u8 W g0 0 (n0 + 2) (cat n0 bs0 room) → n1 ≤ cap1 → RowAt .u8 W g1 0 (n1 + 2) (cat n1 bs1 room) → Calls Tryd.prog 27 #[.slice (some ⟨g0, 0, none⟩) n0 cap0, .slice (some ⟨g1, 0, none⟩) n1 cap1] W fun e w' => ∃ ga, e = .returned (.slice (some ⟨ga, 0, none⟩) 32 32) ∧ W.heap.size ≤ ga ∧ RowAt .u8 w' ga 0 32 (tagH (keyB n0 bs0) n1 bs1) ∧ Below W.heap.size W w' := fun W g0 cap0 g1 cap1 hW hc0 hr0 hc1 hr1 => by
    exact extract_any (.slice (some ⟨g0, 0, none⟩) n0 cap0) (.slice (some ⟨g1, 0, none⟩) n1 cap1) n0 n1 bs0 bs1 hl0 hl1 (by omega) (by omega) W (hT.below hW h3) (bytesIn_lent hc0 hr0) (bytesIn_lent hc1 hr1)
  have hs2 := fun W (hW : Below w.heap.size w W) => rExtract_any v0 v1 n0 n1 bs0 bs1 hl0 hl1 (by omega) (by omega) W (hv0.keep hW) (hv1.keep hW)
  have hs30 := fun (W : World) (g cap : Nat) (hW : Below w.heap.size w W) => stays_any g cap n0 v0 bs0 hl0 W (by omega)
  have hs31 := fun (W : World) (g cap : Nat) (hW : Below w.heap.size w W) => stays_any g cap n1 v1 bs1 hl1 W (by omega)
  have hk := fun W (hW : Below w.heap.size w W) => knows2_any W (hT.below hW h3)
  have hvk0 := fun W (hW : Below w.heap.size w W) => hv0.keep hW
  have hvk1 := fun W (hW : Below w.heap.size w W) => hv1.keep hW
  obtain ⟨X, hX⟩ : ∃ X, X = tagH (keyB n0 bs0) n1 bs1 := ⟨_, rfl⟩
  have hXl : ∀ j, X j < 256 := fun j => by rw [hX]; exact tagH_lt _ _ _ _
  rw [← hX] at hs1 hs2
  clear hX hT hv0 hv1
  go_enter Tryd.func8, Tryd.ntmps8
  go_wp2_with (first
    | (go_at_call 12; refine hlent0.mono ?_; clear hlent0; rintro e wa ⟨g0, cap0, rfl, hcap0, hg0, hrow0, hba⟩; replace hlent1 := hlent1 wa hba)
    | (go_at_call 12; refine hlent1.mono ?_; clear hlent1; rintro e w1 ⟨g1, cap1, rfl, hcap1, hg1, hrow1, hbb⟩))
  have hga0 : g0 < wa.heap.size := block_lt_of_cell (hrow0 0 (by omega)).1
  have hb1 : Below w.heap.size w w1 := hba.trans (hbb.mono hba.size)
  have hzz := hbb.size
  replace hrow0 := hrow0.below hbb hga0
  have hgl0 : g0 < w1.heap.size := by omega
  have hgl1 : g1 < w1.heap.size := block_lt_of_cell (hrow1 0 (by omega)).1
  have hd1 : Below w1.heap.size w1 w1.drew := (Below.refl _ _).drew
  have hbd := hb1.trans (hd1.mono hb1.size)
  replace hs1 := hs1 w1.drew g0 cap0 g1 cap1 hbd (by omega) (hrow0.below hd1 hgl0) (by omega) (hrow1.below hd1 hgl1)
  have hz1 := hb1.size
  go_region_with (first
    | (go_at_call 27; refine hs1.mono ?_; rintro e w2 ⟨ga, rfl, hga, hra, hb2⟩; have hbw2 : Below w.heap.size w w2 := hbd.trans (hb2.mono hbd.size); have c1 := conv_bytes w2 ga 0 32 32 X hXl (fun j hj => (hra j hj).1); have hs2' := hs2 w2 hbw2; have hgal : ga < w2.heap.size := block_lt_of_cell (hra 0 (by decide)).1)
    | (go_at_call 28; refine hs2'.mono ?_; rintro e w3 ⟨vb, rfl, ownb, hb3⟩; (obtain ⟨gb, cb, hvb, hgb, hgbl, hcb, hrb⟩ : ∃ g cap, vb = .slice (some ⟨g, 0, none⟩) 32 cap ∧ w2.heap.size ≤ g ∧ g < w3.heap.size ∧ 32 ≤ cap ∧ RowAt .u8 w3 g 0 32 X := ownb.form.resolve_left (fun h => by omega)); subst hvb; have hbw3 : Below w.heap.size w w3 := hbw2.trans (hb3.mono hbw2.size); have c2 := conv_bytes w3 gb 0 32 cb X hXl (fun j hj => (hrb j hj).1); have c3 := conv_bytes w3 ga 0 32 32 X hXl (fun j hj => ((hra.below hb3 hgal) j hj).1); have hrow3 := (hrow0.below hd1 hgl0).below (hb2.trans (hb3.mono (hb2.size))) hgl0; have hs3' := hs30 w3 g0 cap0 hbw3 hcap0 hrow3 (hvk0 w3 hbw3))
    | (go_at_call 15; refine hs3'.mono ?_; clear hs3'; rintro e w4 ⟨rfl, hb4⟩; have hbw4 : Below w.heap.size w w4 := hbw3.trans (hb4.mono hbw3.size); have hrow4 := (hrow1.below hd1 hgl1).below (hb2.trans ((hb3.mono hb2.size).trans (hb4.mono (Nat.le_trans hb2.size hb3.size)))) hgl1; have hs4' := hs31 w4 g1 cap1 hbw4 hcap1 hrow4 (hvk1 w4 hbw4))
    | (go_at_call 15; refine hs4'.mono ?_; clear hs4'; rintro e w5 ⟨rfl, hb5⟩; have hbw5 : Below w.heap.size w w5 := hbw4.trans (hb5.mono hbw4.size); have hk5 := hk w5 hbw5)
    | (go_at_call 26; refine hk5.mono ?_; rintro e w6 ⟨rfl, hb6⟩; have hbw6 : Below w.heap.size w w6 := hbw5.trans (hb6.mono hbw5.size)))
  all_goals
    go_wp2
    go_ret
    exact ⟨rfl, hbw6⟩
end Go.Proofs.YtlfofbkanifocaaDoor
