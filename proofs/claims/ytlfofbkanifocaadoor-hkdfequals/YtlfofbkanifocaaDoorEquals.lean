/- The walk of the law HkdfEquals in the model. -/
import Derived.Test.YtlfofbkanifocaaDoorKnows2
import Derived.WideShapes
namespace Go.Proofs.YtlfofbkanifocaaDoor
open Go.RowKit
set_option maxRecDepth 20000 in
set_option maxHeartbeats 2000000 in
theorem hkdfEquals_any (v1 v2 : Value) (n1 n2 : Nat) (b1 b2 : Nat → Nat) (h1 : ∀ j, b1 j < 256) (h2 : ∀ j, b2 j < 256) (w : World) (hT : Tab w cubeK squareK) (hv1 : BytesIn w v1 n1 b1) (hv2 : BytesIn w v2 n2 b2) (hn1 : n1 < 140737488355000) (hn2 : n2 < 140737488355000) :
    Calls Tryd.prog 10 #[v1, v2] w fun e w' => e = .returned (.bool true) ∧ Below w.heap.size w w' := by
  have h3 := hT.size
  have c1 := fun W (h : Below w.heap.size w W) => hv1.conv h1 W h
  have c2 := fun W (h : Below w.heap.size w W) => hv2.conv h2 W h
  have e1 : ∀ W, Below w.heap.size w W → Calls Tryd.prog 32 #[v1, v2] W fun e w' => e = .returned (.bool (decide (strB n1 b1 = strB n2 b2))) ∧ w' = W := fun W h => by
    have := equal_any v1 v2 n1 n2 b1 b2 h1 h2 W (hv1.still h) (hv2.still h) (by omega) (by omega)
    rw [eqB_str h1 h2] at this
    exact this
  have e2 : ∀ W, Below w.heap.size w W → Calls Tryd.prog 32 #[v1, v1] W fun e w' => e = .returned (.bool true) ∧ w' = W := fun W h => by
    have := equal_any v1 v1 n1 n1 b1 b1 h1 h1 W (hv1.still h) (hv1.still h) (by omega) (by omega)
    rw [eqB_str h1 h1, decide_eq_true rfl] at this
    exact this
  have hk := fun W (h : Below w.heap.size w W) => knows2_any W (hT.below h h3)
  have hb0 : Below w.heap.size w w.drew := (Below.refl _ _).drew
  obtain ⟨x1, d1, rfl, -⟩ := hv1.src
  obtain ⟨x2, d2, rfl, -⟩ := hv2.src
  clear hT hv1 hv2
  by_cases he : strB n1 b1 = strB n2 b2
  · rw [decide_eq_true he] at e1
    have e1' := e1 w.drew hb0
    have e2' := e2 w.drew hb0
    clear e1 e2
    go_enter Tryd.func10, Tryd.ntmps10
    go_wp2
    go_region_held3 (fun w' => Below w.heap.size w w') (first | assumption) (first
      | (go_at_call 32; refine e1'.mono ?_; clear e1'; rintro e wn ⟨rfl, hwn⟩; subst hwn)
      | (go_at_call 32; refine e2'.mono ?_; clear e2'; rintro e wn ⟨rfl, hwn⟩; subst hwn)
      | (go_at_call 26; refine (hk _ (by assumption)).mono ?_; rintro e wn ⟨rfl, hbk⟩; (have hbn : Below w.heap.size w wn := hb0.trans (hbk.mono (Nat.le_refl _)))))
    go_wp2
    go_ret
    exact ⟨rfl, hbn⟩
  · have hbeq : ((strB n1 b1).toList == (strB n2 b2).toList) = false := by
      rw [ByteArray.toList_eq, ByteArray.toList_eq]
      exact beq_false_of_ne (fun e => he (WideShapes.bytes_inj e))
    rw [decide_eq_false he] at e1
    have e1' := e1 w.drew hb0
    have e2' := e2 w.drew hb0
    clear e1 e2
    go_enter Tryd.func10, Tryd.ntmps10
    go_wp2
    go_region_held3 (fun w' => Below w.heap.size w w') (first | assumption) (first
      | (go_at_call 32; refine e1'.mono ?_; clear e1'; rintro e wn ⟨rfl, hwn⟩; subst hwn)
      | (go_at_call 32; refine e2'.mono ?_; clear e2'; rintro e wn ⟨rfl, hwn⟩; subst hwn)
      | (go_at_call 26; refine (hk _ (by assumption)).mono ?_; rintro e wn ⟨rfl, hbk⟩; (have hbn : Below w.heap.size w wn := hb0.trans (hbk.mono (Nat.le_refl _)))))
    go_wp2
    go_ret
    exact ⟨rfl, hbn⟩
end Go.Proofs.YtlfofbkanifocaaDoor
