/- What knows of layer 2's laws does in the model: it answers true. -/
import Derived.Test.YtlfofbkanifocaaDoorExpand
import Derived.Test.YtlfofbkanifocaaDoorEqual
import Derived.Test.YtlfofbkanifocaaDoorCert2
namespace Go.Proofs.YtlfofbkanifocaaDoor
open Go.RowKit
theorem num2_any (n : Int) (w : World) : Calls Tryd.prog 31 #[.int .i64 n] w fun e w' => e = .returned (.int .i64 n) ∧ w' = w := by
  go_enter Tryd.func31, Tryd.ntmps31
  go_wp2
  go_ret
  exact ⟨rfl, rfl⟩
def keyV : Array Value := #[.int .u8 107, .int .u8 101, .int .u8 121]
def foxV : Array Value := #[.int .u8 84, .int .u8 104, .int .u8 101, .int .u8 32, .int .u8 113, .int .u8 117, .int .u8 105, .int .u8 99, .int .u8 107, .int .u8 32, .int .u8 98, .int .u8 114, .int .u8 111, .int .u8 119, .int .u8 110, .int .u8 32, .int .u8 102, .int .u8 111, .int .u8 120, .int .u8 32, .int .u8 106, .int .u8 117, .int .u8 109, .int .u8 112, .int .u8 115, .int .u8 32, .int .u8 111, .int .u8 118, .int .u8 101, .int .u8 114, .int .u8 32, .int .u8 116, .int .u8 104, .int .u8 101, .int .u8 32, .int .u8 108, .int .u8 97, .int .u8 122, .int .u8 121, .int .u8 32, .int .u8 100, .int .u8 111, .int .u8 103]
theorem keyV_at : keyV = (ints .u8 3 keyF).toArray := by kernel_rfl
theorem foxV_at : foxV = (ints .u8 43 foxF).toArray := by kernel_rfl
theorem lits_in (w : World) (C : Array Value) (n : Nat) (X : Nat → Nat) (fz : Nat × Nat) (h : C = (ints .u8 n X).toArray) : BytesIn (w.alloc (.cells C 5 fz)) (.slice (some ⟨w.heap.size, 0, none⟩) n n) n X := by
  refine .inr ⟨w.heap.size, 0, n, rfl, by simp, Nat.le_refl _, fun j hj => ?_⟩
  rw [Nat.zero_add, cell_of_row _ _ j _ _ _ (heap_alloc_new w _)]
  rw [h, List.getElem?_toArray, ints_at _ _ _ j hj]
theorem keyF_lt : ∀ j, keyF j < 256 := fun j => by
  unfold keyF
  rw [List.getD_eq_getElem?_getD]
  cases h : keyL[j]? with
  | none => decide
  | some x => exact of_decide_eq_true (List.all_eq_true.1 (show keyL.all (fun x => decide (x < 256)) = true by kernel_rfl) x (List.mem_of_getElem? h))
theorem foxF_lt : ∀ j, foxF j < 256 := fun j => by
  unfold foxF
  rw [List.getD_eq_getElem?_getD]
  cases h : foxL[j]? with
  | none => decide
  | some x => exact of_decide_eq_true (List.all_eq_true.1 (show foxL.all (fun x => decide (x < 256)) = true by kernel_rfl) x (List.mem_of_getElem? h))
theorem orG_self (a : Nat → Nat) (n : Nat) : orG a a n = 0 := (orG_zero a a n).2 (fun _ _ => rfl)
set_option maxRecDepth 20000 in
set_option maxHeartbeats 2000000 in
theorem knows2_any (w : World) (hT : Tab w cubeK squareK) : Calls Tryd.prog 26 #[] w fun e w' => e = .returned (.bool true) ∧ Below w.heap.size w w' := by
  have h3 := hT.size
  have hbA : Below w.heap.size w (w.alloc (.cells keyV 5 (3, 4))) := (Below.refl _ _).alloc (Nat.le_refl _) _
  have hbB : Below w.heap.size w ((w.alloc (.cells keyV 5 (3, 4))).alloc (.cells foxV 5 (43, 44))) := hbA.alloc (by simp) _
  have hkin := lits_in w keyV 3 keyF (3, 4) keyV_at
  have hfin := lits_in (w.alloc (.cells keyV 5 (3, 4))) foxV 43 foxF (43, 44) foxV_at
  have s1 := hmac_any _ _ 3 43 keyF foxF keyF_lt foxF_lt (by decide) (by decide) _ (hT.below hbB h3) (hkin.still ((Below.refl _ _).alloc (Nat.le_refl _) (.cells foxV 5 (43, 44)))) hfin
  obtain ⟨f0, f1, f2, f3⟩ := fox_four
  obtain ⟨X, hX⟩ : ∃ X, X = tagH (keyB 3 keyF) 43 foxF := ⟨_, rfl⟩
  have hXl : ∀ j, X j < 256 := fun j => by rw [hX]; exact tagH_lt _ _ _ _
  rw [← hX] at s1 f0 f1 f2 f3
  have s2 : ∀ (W : World) (g : Nat), Below w.heap.size w W → RowAt .u8 W g 0 32 X → Calls Tryd.prog 29 #[.slice (some ⟨g, 0, none⟩) 32 32, .slice none 0 0, .int .i64 40] W fun e w' => ∃ g2, e = .returned (.tuple #[.slice (some ⟨g2, 0, none⟩) 40 40, .int .i64 0]) ∧ (∃ Y, (∀ j, Y j < 256) ∧ RowAt .u8 w' g2 0 40 Y) ∧ Below W.heap.size W w' := fun W g hb hr => by
    refine (expand_any (some ⟨g, 0, none⟩) none 32 0 32 0 X (fun _ => 0) hXl (fun _ => Nat.zero_lt_succ _) (by decide) (by decide) W (hT.below hb h3) (.inr ⟨g, 0, 32, rfl, block_lt_of_cell (hr 0 (by decide)).1, Nat.le_refl _, fun j hj => (hr j hj).1⟩) (.inl ⟨none, rfl, rfl⟩) 40 (by decide)).mono ?_
    rintro e w' ⟨g2, rfl, _, hr2, hb2⟩
    refine ⟨g2, rfl, ⟨_, fun j => ?_, hr2⟩, hb2⟩
    unfold outF
    split
    · exact tE_lt _ _ _ _ _
    · decide
  have hcK : ∀ W : World, (convert 22 22 (.slice (some ⟨W.heap.size, 0, none⟩) 3 3)).run Tryd.prog (W.alloc (.cells #[.int .u8 107, .int .u8 101, .int .u8 121] 5)) = .ok (.slice (some ⟨W.heap.size, 0, none⟩) 3 3) (W.alloc (.cells keyV 5 (3, 4))) := fun W => Lib.run_convert_bytes_const W 22 5 keyV 3 3 Tryd.underlying22 Tryd.underlying5
  have hcF : ∀ W : World, (convert 22 22 (.slice (some ⟨W.heap.size, 0, none⟩) 43 43)).run Tryd.prog (W.alloc (.cells #[.int .u8 84, .int .u8 104, .int .u8 101, .int .u8 32, .int .u8 113, .int .u8 117, .int .u8 105, .int .u8 99, .int .u8 107, .int .u8 32, .int .u8 98, .int .u8 114, .int .u8 111, .int .u8 119, .int .u8 110, .int .u8 32, .int .u8 102, .int .u8 111, .int .u8 120, .int .u8 32, .int .u8 106, .int .u8 117, .int .u8 109, .int .u8 112, .int .u8 115, .int .u8 32, .int .u8 111, .int .u8 118, .int .u8 101, .int .u8 114, .int .u8 32, .int .u8 116, .int .u8 104, .int .u8 101, .int .u8 32, .int .u8 108, .int .u8 97, .int .u8 122, .int .u8 121, .int .u8 32, .int .u8 100, .int .u8 111, .int .u8 103] 5)) = .ok (.slice (some ⟨W.heap.size, 0, none⟩) 43 43) (W.alloc (.cells foxV 5 (43, 44))) := fun W => Lib.run_convert_bytes_const W 22 5 foxV 43 43 Tryd.underlying22 Tryd.underlying5
  replace hcF := hcF (w.alloc (.cells keyV 5 (3, 4)))
  have hnum := num2_any 0
  simp only [World.size_alloc] at s1 hcF
  clear hX hT hkin hfin hbA
  go_enter Tryd.func26, Tryd.ntmps26
  go_wp2_with (first
    | (go_at_call 24; refine s1.mono ?_; clear s1; rintro e w1 ⟨g, rfl, hg, hrow, hb1⟩; (have hbw : Below w.heap.size w w1 := hbB.trans (hb1.mono (by omega))); (have hgl : g < w1.heap.size := block_lt_of_cell (hrow 0 (by decide)).1); replace s2 := s2 w1 g hbw hrow)
    | (go_at_call 29; refine s2.mono ?_; clear s2; rintro e w2 ⟨g2, rfl, ⟨Y, hYl, hr2⟩, hb2⟩; have hrow2 := hrow.below hb2 hgl; have a0 := (hrow2 0 (by decide)).1; have a1 := (hrow2 1 (by decide)).1; have a2 := (hrow2 2 (by decide)).1; have a3 := (hrow2 3 (by decide)).1; rw [f0] at a0; rw [f1] at a1; rw [f2] at a2; rw [f3] at a3; have z1 := str4 w2 g 32 247 188 131 244 a0 a1 a2 a3; (have hin : BytesIn w2 (.slice (some ⟨g, 0, none⟩) 32 32) 32 X := .inr ⟨g, 0, 32, rfl, block_lt_of_cell a0, Nat.le_refl _, fun j hj => (hrow2 j hj).1⟩); (have hin2 : BytesIn w2 (.slice (some ⟨g2, 0, none⟩) 40 40) 40 Y := .inr ⟨g2, 0, 40, rfl, block_lt_of_cell (hr2 0 (by decide)).1, Nat.le_refl _, fun j hj => (hr2 j hj).1⟩); have q1 := equal_any _ _ 32 32 X X hXl hXl w2 hin hin (by decide) (by decide); have q2 := equal_any _ _ 32 40 X Y hXl hYl w2 hin hin2 (by decide) (by decide); (have e1 : eqB 32 32 X X = true := by unfold eqB; simp [orG_self]); (have e2 : eqB 32 40 X Y = false := by unfold eqB; simp); rw [e1] at q1; rw [e2] at q2; clear hrow2 hr2)
    | (go_at_call 31; refine (hnum _).mono ?_; rintro e wn ⟨rfl, hwn⟩; subst hwn)
    | (go_at_call 32; refine q1.mono ?_; clear q1; rintro e wn ⟨rfl, hwn⟩; subst hwn)
    | (go_at_call 32; refine q2.mono ?_; clear q2; rintro e wn ⟨rfl, hwn⟩; subst hwn))
  go_ret
  exact ⟨rfl, hbw.trans (hb2.mono hbw.size)⟩
end Go.Proofs.YtlfofbkanifocaaDoor
