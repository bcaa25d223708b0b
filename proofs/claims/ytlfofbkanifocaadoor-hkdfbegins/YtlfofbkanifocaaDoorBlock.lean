/- What blockOf and Hmac of package hkdf do in the model. -/
import Derived.Test.YtlfofbkanifocaaDoorHmac
import Derived.Test.YtlfofbkanifocaaDoorRefPad
namespace Go.Proofs.YtlfofbkanifocaaDoor
open Go.RowKit
set_option maxRecDepth 20000 in
set_option maxHeartbeats 2000000 in
theorem blockOf_short_any (xo : Option Addr) (n cx : Nat) (bs : Nat → Nat) (w : World) (hv : BytesIn w (.slice xo n cx) n bs) (hn : n ≤ 64) :
    Calls Tryd.prog 44 #[.slice xo n cx] w fun e w' => e = .returned (.agg (ints .u8 64 (keyB n bs)).toArray) ∧ Below w.heap.size w w' := by
  have hz := zero64
  have hi' : ∀ X : Nat → Nat, (Tryd.prog.info? 68).map (·.size) = some (ints .u8 64 X).length := fun X => by rw [ints_len]; exact info64
  have hi2 : ∀ X : Nat → Nat, (Tryd.prog.info? 68).map (·.size) = some (ints .u8 64 X).toArray.size := fun X => by rw [List.size_toArray, ints_len]; exact info64
  have hone : ∀ X : Nat → Nat, (ints .u8 64 X).toArray.all (·.oneCell') = true := fun X => all_oneCell_toArray (ints_one _ _ _)
  obtain ⟨W0, hW0⟩ : ∃ W0, W0 = w.alloc (.cells (zb 64) 68) := ⟨_, rfl⟩
  have HW0 : Hid (W0 = w.alloc (.cells (zb 64) 68)) := hW0
  have hWs : w.heap.size < W0.heap.size := by rw [hW0]; simp
  have hWe : w.heap.size + 1 = W0.heap.size := by rw [hW0]; simp
  have hbw : Below w.heap.size w W0 := by rw [hW0]; exact (Below.refl _ _).alloc (Nat.le_refl _) _
  have hres : W0.there w.heap.size 0 64 := by rw [hW0]; exact there64 w
  have hkey : ∀ j, j < 64 → (if j < n then bs j else 0) = keyB n bs j := fun j _ => by unfold keyB; rw [if_pos hn]
  obtain ⟨xo', cx', hve, hxn, -, hsrc⟩ := hv.src
  cases hve
  have src0 : Src (W0.alloc (.cells (zb 64) 68)) xo n bs := hsrc _ (hbw.alloc (by omega) _)
  obtain ⟨W3, hW3⟩ : ∃ W3, W3 = (W0.alloc (.cells (zb 64) 68)).setCells (w.heap.size + 1) 0 (ints .u8 n bs) := ⟨_, rfl⟩
  have HW3 : Hid (W3 = (W0.alloc (.cells (zb 64) 68)).setCells (w.heap.size + 1) 0 (ints .u8 n bs)) := hW3
  have hrow3 : RowAt .u8 W3 (w.heap.size + 1) 0 64 (keyB n bs) := by rw [hW3, hWe]; exact (lay64 W0 n bs (by omega)).congr hkey
  have hb3 : Below W0.heap.size W0 W3 := by rw [hW3, hWe]; exact below_setCells (Nat.le_refl _) _ _ _ ((Below.refl _ _).alloc (Nat.le_refl _) _)
  have hres3 : W3.there w.heap.size 0 (ints .u8 64 (keyB n bs)).toArray.size := fun j hj => by
    rw [List.size_toArray, ints_len] at hj
    rw [hb3.cell (p := ⟨w.heap.size, 0 + j, none⟩) hWs, hb3.frozen (p := ⟨w.heap.size, 0 + j, none⟩) hWs]
    exact hres j hj
  have hmin : Hid (n = Nat.min n 64) := (Nat.min_eq_left hn).symm
  have hth : (W0.alloc (.cells (zb 64) 68)).there (w.heap.size + 1) 0 64 := by rw [hWe]; exact there64 W0
  have hni : ¬(64 < (n : Int)) := by omega
  clear hW0 hW3 hv hsrc hWe hkey hres
  go_enter Tryd.func44, Tryd.ntmps44
  go_wp2_with (first
    | (refine wpList_load_mid rfl 68 _ rfl _ 0 rfl _ _ hrow3.range Tryd.underlying68 rfl (hi' _) ?_)
    | (refine wpList_store_mid rfl 68 _ _ rfl _ 0 _ rfl rfl hres3 (hi2 _) (hone _) ?_)
    | (rw [← HW0.out]; refine wpList_copy_bytes rfl _ _ 22 22 rfl 5 Tryd.underlying22 (by kernel_rfl) (w.heap.size + 1) 0 64 64 xo n cx rfl rfl n bs src0 hmin.out hth ?_; rw [← HW3.out]))
  refine bodyPost_ret (results_cell_mid Tryd.results44 _ _ w.heap.size 0 (ints .u8 64 (keyB n bs)) _ rfl (World.rangeAt_setCells_same _ _ _ _ (by rw [List.size_toArray] at hres3; exact hres3)) Tryd.underlying68 rfl (hi' _)) rfl ⟨rfl, ?_⟩
  exact below_setCells (Nat.le_refl _) _ _ _ (hbw.trans (hb3.mono (by omega)))
set_option maxRecDepth 20000 in
set_option maxHeartbeats 2000000 in
theorem blockOf_long_any (xo : Option Addr) (n cx : Nat) (bs : Nat → Nat) (hbs : ∀ j, bs j < 256) (hnb : n < 2305843009213693000) (w : World) (hT : Tab w cubeK squareK) (hv : BytesIn w (.slice xo n cx) n bs) (hn : ¬n ≤ 64) :
    Calls Tryd.prog 44 #[.slice xo n cx] w fun e w' => e = .returned (.agg (ints .u8 64 (keyB n bs)).toArray) ∧ Below w.heap.size w w' := by
  have hz := zero64
  have hi' : ∀ X : Nat → Nat, (Tryd.prog.info? 68).map (·.size) = some (ints .u8 64 X).length := fun X => by rw [ints_len]; exact info64
  have hi2 : ∀ X : Nat → Nat, (Tryd.prog.info? 68).map (·.size) = some (ints .u8 64 X).toArray.size := fun X => by rw [List.size_toArray, ints_len]; exact info64
  have hone : ∀ X : Nat → Nat, (ints .u8 64 X).toArray.all (·.oneCell') = true := fun X => all_oneCell_toArray (ints_one _ _ _)
  have h3 := hT.size
  have hb1 : Below w.heap.size w (w.alloc (.cells (zb 64) 68)) := (Below.refl _ _).alloc (Nat.le_refl _) _
  have hs := Sum256_any cubeK squareK (.slice xo n cx) n bs hbs (w.alloc (.cells (zb 64) 68)) (hT.below hb1 h3) (hv.still hb1) (by omega)
  rw [hashS_spec cubeK squareK n bs (by decide)] at hs
  have hkey : ∀ j, j < 64 → (if j < 32 then outB 32 (specS rn cubeK squareK n bs) j else 0) = keyB n bs j := fun j _ => by unfold keyB; rw [if_neg hn]
  obtain ⟨X, hX⟩ : ∃ X, X = outB 32 (specS rn cubeK squareK n bs) := ⟨_, rfl⟩
  rw [← hX] at hs hkey
  have hk : ∀ (W0 : World) (ga : Nat), Below (w.alloc (.cells (zb 64) 68)).heap.size (w.alloc (.cells (zb 64) 68)) W0 → RowAt .u8 W0 ga 0 32 X → ∃ W3, W3 = (W0.alloc (.cells (zb 64) 68)).setCells W0.heap.size 0 (ints .u8 32 X) ∧ RowAt .u8 W3 W0.heap.size 0 64 (keyB n bs) ∧ Below w.heap.size w W3 ∧ W3.there w.heap.size 0 (ints .u8 64 (keyB n bs)).toArray.size ∧ (W0.alloc (.cells (zb 64) 68)).there W0.heap.size 0 64 ∧ Src (W0.alloc (.cells (zb 64) 68)) (some ⟨ga, 0, none⟩) 32 X := fun W0 ga hb hra => by
    have hsz := hb.size
    simp only [World.size_alloc] at hsz
    have hga : ga < W0.heap.size := block_lt_of_cell (hra 0 (by decide)).1
    have hb3 : Below W0.heap.size W0 ((W0.alloc (.cells (zb 64) 68)).setCells W0.heap.size 0 (ints .u8 32 X)) := below_setCells (Nat.le_refl _) _ _ _ ((Below.refl _ _).alloc (Nat.le_refl _) _)
    refine ⟨_, rfl, (lay64 W0 32 X (by decide)).congr hkey, (hb1.trans (hb.mono (by simp))).trans (hb3.mono (by omega)), fun j hj => ?_, there64 W0, .inr ⟨ga, 0, rfl, fun j hj => ?_⟩⟩
    · rw [List.size_toArray, ints_len] at hj
      rw [hb3.cell (p := ⟨w.heap.size, 0 + j, none⟩) (by show w.heap.size < _; omega), hb3.frozen (p := ⟨w.heap.size, 0 + j, none⟩) (by show w.heap.size < _; omega), hb.cell (p := ⟨w.heap.size, 0 + j, none⟩) (by simp), hb.frozen (p := ⟨w.heap.size, 0 + j, none⟩) (by simp)]
      exact there64 w j hj
    · rw [World.cell?_alloc_lt _ _ _ hga]; exact (hra j hj).1
  have hni : 64 < (n : Int) := by omega
  clear hX hkey hv hT hb1 hn
  go_enter Tryd.func44, Tryd.ntmps44
  go_wp2_with (first
    | (go_at_call 13; refine hs.mono ?_; clear hs; rintro e W0 ⟨ga, rfl, hga, hra, hb⟩; obtain ⟨W3, hW3, hrow3, hb3, hres3, hth, src0⟩ := hk W0 ga hb hra; (have HW3 : Hid (W3 = (W0.alloc (.cells (zb 64) 68)).setCells W0.heap.size 0 (ints .u8 32 X)) := hW3); clear hk hW3)
    | (refine wpList_load_mid rfl 68 _ rfl _ 0 rfl _ _ hrow3.range Tryd.underlying68 rfl (hi' _) ?_)
    | (refine wpList_store_mid rfl 68 _ _ rfl _ 0 _ rfl rfl hres3 (hi2 _) (hone _) ?_)
    | (refine wpList_copy_bytes rfl _ _ 22 22 rfl 5 Tryd.underlying22 (by kernel_rfl) W0.heap.size 0 64 64 (some ⟨ga, 0, none⟩) 32 32 rfl rfl 32 X src0 rfl hth ?_; rw [← HW3.out]))
  refine bodyPost_ret (results_cell_mid Tryd.results44 _ _ w.heap.size 0 (ints .u8 64 (keyB n bs)) _ rfl (World.rangeAt_setCells_same _ _ _ _ (by rw [List.size_toArray] at hres3; exact hres3)) Tryd.underlying68 rfl (hi' _)) rfl ⟨rfl, ?_⟩
  exact below_setCells (Nat.le_refl _) _ _ _ hb3
theorem blockOf_any (v : Value) (n : Nat) (bs : Nat → Nat) (hbs : ∀ j, bs j < 256) (hnb : n < 2305843009213693000) (w : World) (hT : Tab w cubeK squareK) (hv : BytesIn w v n bs) :
    Calls Tryd.prog 44 #[v] w fun e w' => e = .returned (.agg (ints .u8 64 (keyB n bs)).toArray) ∧ Below w.heap.size w w' := by
  obtain ⟨xo, cx, rfl, _, _, _⟩ := hv.src
  by_cases hn : n ≤ 64
  · exact blockOf_short_any xo n cx bs w hv hn
  · exact blockOf_long_any xo n cx bs hbs hnb w hT hv hn
set_option maxHeartbeats 1000000 in
theorem hmac_any (v tv : Value) (n m : Nat) (bs t : Nat → Nat) (hbs : ∀ j, bs j < 256) (ht : ∀ j, t j < 256) (hnb : n < 2305843009213693000) (hm : m < 2305843009213693000) (w : World) (hT : Tab w cubeK squareK) (hv : BytesIn w v n bs) (htv : BytesIn w tv m t) :
    Calls Tryd.prog 24 #[v, tv] w fun e w' => ∃ g, e = .returned (.slice (some ⟨g, 0, none⟩) 32 32) ∧ w.heap.size ≤ g ∧ RowAt .u8 w' g 0 32 (tagH (keyB n bs) m t) ∧ Below w.heap.size w w' := by
  have h3 := hT.size
  obtain ⟨xt, ct, rfl, _, _, _⟩ := htv.src
  have c1 := blockOf_any v n bs hbs hnb w hT hv
  have c2 : ∀ W1 : World, Below w.heap.size w W1 → Calls Tryd.prog 43 #[.agg (ints .u8 64 (keyB n bs)).toArray, .slice (some ⟨W1.heap.size, 0, none⟩) 1 1] (W1.alloc (.cells #[.slice xt m ct] 22)) fun e w' => ∃ g, e = .returned (.slice (some ⟨g, 0, none⟩) 32 32) ∧ w.heap.size ≤ g ∧ RowAt .u8 w' g 0 32 (tagH (keyB n bs) m t) ∧ Below w.heap.size w w' := fun W1 hb => by
    have hb2 := hb.alloc hb.size (.cells #[.slice xt m ct] 22)
    refine (tag_any (keyB n bs) (keyB_lt hbs) W1.heap.size 1 1 m t ht hm _ (hT.below hb2 h3) (parts_one W1 (.slice xt m ct) m t _ (htv.still hb)) (by decide)).mono ?_
    rintro e w' ⟨g, rfl, hg, hr, hb'⟩
    have := hb2.size
    exact ⟨g, rfl, by omega, hr, hb2.trans (hb'.mono this)⟩
  obtain ⟨X, hX⟩ : ∃ X, X = tagH (keyB n bs) m t := ⟨_, rfl⟩
  rw [← hX] at c2 ⊢
  clear hX hT hv htv
  go_enter Tryd.func24, Tryd.ntmps24
  go_wp2_with (first
    | (go_at_call 44; refine c1.mono ?_; clear c1; rintro e w1 ⟨rfl, hb1⟩; replace c2 := c2 w1 hb1)
    | (go_at_call 43; refine c2.mono ?_; rintro e w' ⟨g, rfl, hg, hr, hb'⟩))
  go_ret
  exact ⟨g, rfl, hg, hr, hb'⟩
end Go.Proofs.YtlfofbkanifocaaDoor
