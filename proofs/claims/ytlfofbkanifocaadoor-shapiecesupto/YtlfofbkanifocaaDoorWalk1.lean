/- The walks of the laws ShaSmall and ShaLarge in the model. -/
import Derived.Test.YtlfofbkanifocaaDoorRefSum
import Derived.Test.YtlfofbkanifocaaDoorLent
import Derived.Test.YtlfofbkanifocaaDoorKnows
namespace Go.Proofs.YtlfofbkanifocaaDoor
open Go.RowKit
theorem outB_lt (m : Nat) (s : St) (j : Nat) : outB m s j < 256 := Nat.mod_lt _ (by decide)
theorem RowAt.bytesIn {w : World} {g n m cap : Nat} {X : Nat → Nat} (h : RowAt .u8 w g 0 m X) (hn : n ≤ m) (hc : n ≤ cap) (hg : g < w.heap.size) : BytesIn w (.slice (some ⟨g, 0, none⟩) n cap) n X := .inr ⟨g, 0, cap, rfl, hg, hc, fun j hj => (h j (by omega)).1⟩
set_option maxRecDepth 20000 in
set_option maxHeartbeats 2000000 in
theorem shaSmall_any (v : Value) (n : Nat) (bs : Nat → Nat) (hbs : ∀ j, bs j < 256) (w : World) (hT : Tab w cubeK squareK) (hv : BytesIn w v n bs) (hn : n < 140737488355000) :
    Calls Tryd.prog 3 #[v] w fun e w' => e = .returned (.bool true) ∧ Below w.heap.size w w' := by
  have h3 := hT.size
  have hlent := lent_any v n bs w hv hn
  have hs1 : ∀ (W : World) (g cap : Nat), Below w.heap.size w W → n ≤ cap → RowAt .u8 W g 0 (n + 2) (cat n bs room) → Calls Tryd.prog 13 #[.slice (some ⟨g, 0, none⟩) n cap] W fun e w' => ∃ ga, e = .returned (.slice (some ⟨ga, 0, none⟩) 32 32) ∧ W.heap.size ≤ ga ∧ RowAt .u8 w' ga 0 32 (outB 32 (specS rn cubeK squareK n bs)) ∧ Below W.heap.size W w' := fun W g cap hW hc hr => by
    have h := Sum256_any cubeK squareK (.slice (some ⟨g, 0, none⟩) n cap) n (cat n bs room) (cat_lt hbs room_lt) W (hT.below hW h3) (hr.bytesIn (by omega) hc (block_lt_of_cell (hr 0 (by omega)).1)) (by omega)
    rw [hashS_spec cubeK squareK n _ (by decide), specS_congr (cs := bs) (fun j hj => cat_left hj)] at h
    exact h
  have hs2 := fun W (hW : Below w.heap.size w W) => rSum256_any v n bs hbs W (hv.keep hW) hn
  have hs3 := fun (W : World) (g cap : Nat) (hW : Below w.heap.size w W) => stays_any g cap n v bs hbs W hn
  have hk := fun W (hW : Below w.heap.size w W) => knows_any W (hT.below hW h3)
  have hvk := fun W (hW : Below w.heap.size w W) => hv.keep hW
  obtain ⟨X, hX⟩ : ∃ X, X = outB 32 (specS rn cubeK squareK n bs) := ⟨_, rfl⟩
  have hXl : ∀ j, X j < 256 := fun j => by rw [hX]; exact outB_lt _ _ _
  rw [← hX] at hs1 hs2
  clear hX hT hv
  go_enter Tryd.func3, Tryd.ntmps3
  go_wp2_with (go_at_call 12; refine hlent.mono ?_; clear hlent; rintro e w1 ⟨g, cap, rfl, hcap, hg, hrow, hb1⟩)
  have hgl : g < w1.heap.size := block_lt_of_cell (hrow 0 (by omega)).1
  have hd1 : Below w1.heap.size w1 w1.drew := (Below.refl _ _).drew
  have hbd := hb1.trans (hd1.mono hb1.size)
  replace hs1 := hs1 w1.drew g cap hbd (by omega) (hrow.below hd1 hgl)
  have hz1 := hb1.size
  go_region_with (first
    | (go_at_call 13; refine hs1.mono ?_; rintro e w2 ⟨ga, rfl, hga, hra, hb2⟩; have hbw2 : Below w.heap.size w w2 := hbd.trans (hb2.mono hbd.size); have c1 := conv_bytes w2 ga 0 32 32 X hXl (fun j hj => (hra j hj).1); have hs2' := hs2 w2 hbw2; have hgal : ga < w2.heap.size := block_lt_of_cell (hra 0 (by decide)).1)
    | (go_at_call 14; refine hs2'.mono ?_; rintro e w3 ⟨vb, rfl, ownb, hb3⟩; (obtain ⟨gb, cb, hvb, hgb, hgbl, hcb, hrb⟩ : ∃ g cap, vb = .slice (some ⟨g, 0, none⟩) 32 cap ∧ w2.heap.size ≤ g ∧ g < w3.heap.size ∧ 32 ≤ cap ∧ RowAt .u8 w3 g 0 32 X := ownb.form.resolve_left (fun h => by omega)); subst hvb; have hbw3 : Below w.heap.size w w3 := hbw2.trans (hb3.mono hbw2.size); have c2 := conv_bytes w3 gb 0 32 cb X hXl (fun j hj => (hrb j hj).1); have c3 := conv_bytes w3 ga 0 32 32 X hXl (fun j hj => ((hra.below hb3 hgal) j hj).1); have hrow3 := (hrow.below hd1 hgl).below (hb2.trans (hb3.mono (hb2.size))) hgl; have hs3' := hs3 w3 g cap hbw3 hcap hrow3 (hvk w3 hbw3); have hk' := hk w3 hbw3)
    | (go_at_call 15; refine hs3'.mono ?_; rintro e w4 ⟨rfl, hb4⟩; have hbw4 : Below w.heap.size w w4 := hbw3.trans (hb4.mono hbw3.size); have hk4 := hk w4 hbw4)
    | (go_at_call 16; refine hk4.mono ?_; rintro e w5 ⟨rfl, hb5⟩; have hbw5 : Below w.heap.size w w5 := hbw4.trans (hb5.mono hbw4.size)))
  all_goals
    go_wp2
    go_ret
    exact ⟨rfl, hbw5⟩
set_option maxRecDepth 20000 in
set_option maxHeartbeats 2000000 in
theorem shaLarge_any (v : Value) (n : Nat) (bs : Nat → Nat) (hbs : ∀ j, bs j < 256) (w : World) (hT : Tab w cubeK squareK) (hv : BytesIn w v n bs) (hn : n < 140737488355000) :
    Calls Tryd.prog 4 #[v] w fun e w' => e = .returned (.bool true) ∧ Below w.heap.size w w' := by
  have h3 := hT.size
  have hlent := lent_any v n bs w hv hn
  have hs1 : ∀ (W : World) (g cap : Nat), Below w.heap.size w W → n ≤ cap → RowAt .u8 W g 0 (n + 2) (cat n bs room) → Calls Tryd.prog 17 #[.slice (some ⟨g, 0, none⟩) n cap] W fun e w' => ∃ ga, e = .returned (.slice (some ⟨ga, 0, none⟩) 64 64) ∧ W.heap.size ≤ ga ∧ RowAt .u8 w' ga 0 64 (outB 64 (specS rw6 cubeK squareK n bs)) ∧ Below W.heap.size W w' := fun W g cap hW hc hr => by
    have h := Sum512_any cubeK squareK (.slice (some ⟨g, 0, none⟩) n cap) n (cat n bs room) (cat_lt hbs room_lt) W (hT.below hW h3) (hr.bytesIn (by omega) hc (block_lt_of_cell (hr 0 (by omega)).1)) (by omega)
    rw [hashS_spec cubeK squareK n _ (by decide), specS_congr (cs := bs) (fun j hj => cat_left hj)] at h
    exact h
  have hs2 := fun W (hW : Below w.heap.size w W) => rSum512_any v n bs hbs W (hv.keep hW) hn
  have hs3 := fun (W : World) (g cap : Nat) (hW : Below w.heap.size w W) => stays_any g cap n v bs hbs W hn
  have hk := fun W (hW : Below w.heap.size w W) => knows_any W (hT.below hW h3)
  have hvk := fun W (hW : Below w.heap.size w W) => hv.keep hW
  obtain ⟨X, hX⟩ : ∃ X, X = outB 64 (specS rw6 cubeK squareK n bs) := ⟨_, rfl⟩
  have hXl : ∀ j, X j < 256 := fun j => by rw [hX]; exact outB_lt _ _ _
  rw [← hX] at hs1 hs2
  clear hX hT hv
  go_enter Tryd.func4, Tryd.ntmps4
  go_wp2_with (go_at_call 12; refine hlent.mono ?_; clear hlent; rintro e w1 ⟨g, cap, rfl, hcap, hg, hrow, hb1⟩)
  have hgl : g < w1.heap.size := block_lt_of_cell (hrow 0 (by omega)).1
  have hd1 : Below w1.heap.size w1 w1.drew := (Below.refl _ _).drew
  have hbd := hb1.trans (hd1.mono hb1.size)
  replace hs1 := hs1 w1.drew g cap hbd (by omega) (hrow.below hd1 hgl)
  have hz1 := hb1.size
  go_region_with (first
    | (go_at_call 17; refine hs1.mono ?_; rintro e w2 ⟨ga, rfl, hga, hra, hb2⟩; have hbw2 : Below w.heap.size w w2 := hbd.trans (hb2.mono hbd.size); have c1 := conv_bytes w2 ga 0 64 64 X hXl (fun j hj => (hra j hj).1); have hs2' := hs2 w2 hbw2; have hgal : ga < w2.heap.size := block_lt_of_cell (hra 0 (by decide)).1)
    | (go_at_call 18; refine hs2'.mono ?_; rintro e w3 ⟨vb, rfl, ownb, hb3⟩; (obtain ⟨gb, cb, hvb, hgb, hgbl, hcb, hrb⟩ : ∃ g cap, vb = .slice (some ⟨g, 0, none⟩) 64 cap ∧ w2.heap.size ≤ g ∧ g < w3.heap.size ∧ 64 ≤ cap ∧ RowAt .u8 w3 g 0 64 X := ownb.form.resolve_left (fun h => by omega)); subst hvb; have hbw3 : Below w.heap.size w w3 := hbw2.trans (hb3.mono hbw2.size); have c2 := conv_bytes w3 gb 0 64 cb X hXl (fun j hj => (hrb j hj).1); have c3 := conv_bytes w3 ga 0 64 64 X hXl (fun j hj => ((hra.below hb3 hgal) j hj).1); have hrow3 := (hrow.below hd1 hgl).below (hb2.trans (hb3.mono (hb2.size))) hgl; have hs3' := hs3 w3 g cap hbw3 hcap hrow3 (hvk w3 hbw3); have hk' := hk w3 hbw3)
    | (go_at_call 15; refine hs3'.mono ?_; rintro e w4 ⟨rfl, hb4⟩; have hbw4 : Below w.heap.size w w4 := hbw3.trans (hb4.mono hbw3.size); have hk4 := hk w4 hbw4)
    | (go_at_call 16; refine hk4.mono ?_; rintro e w5 ⟨rfl, hb5⟩; have hbw5 : Below w.heap.size w w5 := hbw4.trans (hb5.mono hbw4.size)))
  all_goals
    go_wp2
    go_ret
    exact ⟨rfl, hbw5⟩
end Go.Proofs.YtlfofbkanifocaaDoor
