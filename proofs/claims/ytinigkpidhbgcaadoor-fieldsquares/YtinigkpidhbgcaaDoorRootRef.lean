/- The reference's Same, Minus1 and fit in the model. -/
import Derived.Test.YtinigkpidhbgcaaDoorRefPow2
import Derived.Test.YtinigkpidhbgcaaDoorRefSmall
import Derived.Test.YtinigkpidhbgcaaDoorRootMath
import Derived.Test.YtinigkpidhbgcaaDoorSums
import Derived.Test.YtinigkpidhbgcaaDoorNarrow
import Derived.WideShapes
namespace Go.Proofs.YtinigkpidhbgcaaDoor
open Go.RowKit
/-- A number of the reference in a block. -/
structure Box (w : World) (g : Nat) (L : Nat → Int) : Prop where
  row : IRow w g 16 L
  lt : g < w.heap.size
theorem Box.still {w w' : World} {g : Nat} {L : Nat → Int} (h : Box w g L) (hb : Below w.heap.size w w') : Box w' g L := ⟨h.row.below hb h.lt, Nat.lt_of_lt_of_le h.lt hb.size⟩
theorem two_boxes (w : World) (A B : Nat → Int) (t : TypeId) : Box ((w.alloc (.cells (intsI 16 A).toArray t)).alloc (.cells (intsI 16 B).toArray t)) w.heap.size A ∧ Box ((w.alloc (.cells (intsI 16 A).toArray t)).alloc (.cells (intsI 16 B).toArray t)) (w.heap.size + 1) B := by
  have h1 : Box (w.alloc (.cells (intsI 16 A).toArray t)) w.heap.size A := ⟨IRow.box w 16 A t, by simp⟩
  have h2 : Box ((w.alloc (.cells (intsI 16 A).toArray t)).alloc (.cells (intsI 16 B).toArray t)) (w.alloc (.cells (intsI 16 A).toArray t)).heap.size B := ⟨IRow.box _ 16 B t, by simp⟩
  rw [World.size_alloc] at h2
  exact ⟨h1.still ((Below.refl _ _).alloc (Nat.le_refl _) _), h2⟩
theorem strN_eq {x y : Nat} (hx : x < pF) (hy : y < pF) : ((strB 32 (byt x)).toList == (strB 32 (byt y)).toList) = decide (x = y) := by
  by_cases h : x = y
  · subst h; rw [decide_eq_true rfl]; exact beq_self_eq_true _
  · rw [decide_eq_false h, ByteArray.toList_eq, ByteArray.toList_eq]
    refine beq_false_of_ne (fun e => h ?_)
    have := (strB_eq (byt_all x) (byt_all y)).1 (WideShapes.bytes_inj e)
    exact byt_inj (by unfold pF at hx; omega) (by unfold pF at hy; omega) this.2
theorem rep_bytes (A : Nat → Int) (a : Nat) (hA : Rep A a) (w : World) : Calls Tryd.prog 22 #[.agg (intsI 16 A).toArray] w fun e w' => ∃ v, e = .returned v ∧ Own w.heap.size w' v 32 (byt (a % pF)) ∧ Below w.heap.size w w' :=
  rbytes A (hA.dig.mono (by decide)) a hA.val w
set_option maxRecDepth 20000 in
set_option maxHeartbeats 4000000 in
theorem rsame_any (A B : Nat → Int) (a b : Nat) (hA : Rep A a) (hB : Rep B b) (w : World) :
    Calls Tryd.prog 36 #[refV A, refV B] w fun e w' => e = .returned (.bool (decide (a % pF = b % pF))) ∧ Below w.heap.size w w' := by
  have cA := fun W => rep_bytes A a hA W
  have cB := fun W => rep_bytes B b hB W
  have hxl : a % pF < pF := Nat.mod_lt _ pF_pos
  have hyl : b % pF < pF := Nat.mod_lt _ pF_pos
  have hse := strN_eq hxl hyl
  obtain ⟨z, hz⟩ : ∃ z, z = decide (a % pF = b % pF) := ⟨_, rfl⟩
  rw [← hz] at hse ⊢
  obtain ⟨bxA, bxB⟩ := two_boxes w A B 46
  obtain ⟨W, hW⟩ : ∃ W, W = (w.alloc (.cells (intsI 16 A).toArray 46)).alloc (.cells (intsI 16 B).toArray 46) := ⟨_, rfl⟩
  have hw : Below w.heap.size w W := by rw [hW]; exact ((Below.refl _ _).alloc (Nat.le_refl _) _).alloc (by simp) _
  rw [← hW] at bxA bxB
  have HW := Hid.mk' hW
  generalize a % pF = x at *
  generalize b % pF = y at *
  unfold refV
  clear hW hz hxl hyl hA hB
  go_enter Tryd.func36, Tryd.ntmps36
  go_wp2
  rw [← HW.out]
  have hdrew : Below W.heap.size W W.drew := (Below.refl _ _).drew
  replace bxA := bxA.still hdrew
  replace bxB := bxB.still hdrew
  replace hw := below_next hw hdrew
  clear hdrew
  refine wp_region_noPanic ?_
  refine wp_region_held_drew (S := fun w' => Below W.drew.heap.size W.drew w') (by kernel_rfl) (Below.refl _ _) (fun hHeld => ?_)
  clear hHeld
  refine wpAnyH_take (i := 0) (oi := { dst := some 5, op := Op.load 46 (Operand.tmp 2), type := 46, pos := "ref.go:112", after := #[], guard := none }) (v := .agg (intsI 16 A).toArray) rfl (by kernel_rfl) (by kernel_rfl) (by kernel_rfl) (fun _ _ _ h => h) (yieldsIf_load_mid (by rfl) 46 _ rfl w.heap.size 0 rfl (intsI 16 A) _ (fun _ h => (bxA.still h).row.range) Tryd.underlying46 rfl (infoRL A)) (Below.refl _ _) ?_
  (try simp only [Act.put, List.setIfInBounds_toArray, List.set_cons_zero, List.set_cons_succ])
  refine wpAnyH_take (i := 3) (oi := { dst := some 8, op := Op.load 46 (Operand.tmp 3), type := 46, pos := "ref.go:112", after := #[], guard := none }) (v := .agg (intsI 16 B).toArray) rfl (by kernel_rfl) (by kernel_rfl) (by kernel_rfl) (fun _ _ _ h => h) (yieldsIf_load_mid (by rfl) 46 _ rfl (w.heap.size + 1) 0 rfl (intsI 16 B) _ (fun _ h => (bxB.still h).row.range) Tryd.underlying46 rfl (infoRL B)) (Below.refl _ _) ?_
  (try simp only [Act.put, List.setIfInBounds_toArray, List.set_cons_zero, List.set_cons_succ])
  refine wpAnyH_ready (rs := [1]) (by kernel_rfl) (by simp) ?_
  refine AllReadyH.cons (o := { dst := some 6, op := Op.call { callee := Callee.value (Operand.func 22), args := #[Operand.tmp 5], argTypes := #[46] }, type := 22, pos := "ref.go:112", after := #[{ on := 0, ground := Ground.data }], guard := none }) rfl (fun K hK => ?_) AllReadyH.nil
  go_simp
  (go_at_call 22; refine (cA _).mono ?_; clear cA; rintro e w1 ⟨v1, rfl, own1, hb1⟩; (have t1 := Str.of (BytesIn.of_own own1) (byt_all _)); (obtain ⟨x1, n1, k1, rfl⟩ := t1.form))
  (try go_simp)
  refine hK.out _ _ hb1 (fun h => ?_)
  clear h hK K
  refine wpAnyH_narrow (S' := fun w' => Below w1.heap.size w1 w') (fun _ h => below_next hb1 h) _ _ _ _ ?_
  clear bxA
  replace bxB := bxB.still hb1
  replace hw := below_next hw hb1
  clear hb1
  (try simp only [Act.put, List.setIfInBounds_toArray, List.set_cons_zero, List.set_cons_succ])
  refine wpAnyH_take (i := 2) (oi := { dst := some 7, op := Op.convert 22 9 (Operand.tmp 6), type := 9, pos := "ref.go:112", after := #[{ on := 1, ground := Ground.data }], guard := none }) (v := ?va2) rfl (by kernel_rfl) (by kernel_rfl) (by kernel_rfl) (fun _ _ _ h => h) (Or.inl ⟨by rfl, ?ha2⟩) (Below.refl _ _) ?ra2
  case ha2 =>
    intro w hSw
    have q := t1.conv w hSw
    go_simp
    try with_reducible rfl
  (try simp only [Act.put, List.setIfInBounds_toArray, List.set_cons_zero, List.set_cons_succ])
  refine wpAnyH_ready (rs := [4]) (by kernel_rfl) (by simp) ?_
  refine AllReadyH.cons (o := { dst := some 9, op := Op.call { callee := Callee.value (Operand.func 22), args := #[Operand.tmp 8], argTypes := #[46] }, type := 22, pos := "ref.go:112", after := #[{ on := 3, ground := Ground.data }, { on := 1, ground := Ground.chain }], guard := none }) rfl (fun K hK => ?_) AllReadyH.nil
  go_simp
  (go_at_call 22; refine (cB _).mono ?_; clear cB; rintro e w2 ⟨v2, rfl, own2, hb2⟩; (have t2 := Str.of (BytesIn.of_own own2) (byt_all _)); (obtain ⟨x2, n2, k2, rfl⟩ := t2.form))
  (try go_simp)
  refine hK.out _ _ hb2 (fun h => ?_)
  clear h hK K
  refine wpAnyH_narrow (S' := fun w' => Below w2.heap.size w2 w') (fun _ h => below_next hb2 h) _ _ _ _ ?_
  clear bxB
  replace t1 := t1.still hb2
  replace hw := below_next hw hb2
  clear hb2
  (try simp only [Act.put, List.setIfInBounds_toArray, List.set_cons_zero, List.set_cons_succ])
  refine wpAnyH_take (i := 5) (oi := { dst := some 10, op := Op.convert 22 9 (Operand.tmp 9), type := 9, pos := "ref.go:112", after := #[{ on := 4, ground := Ground.data }], guard := none }) (v := ?va5) rfl (by kernel_rfl) (by kernel_rfl) (by kernel_rfl) (fun _ _ _ h => h) (Or.inl ⟨by rfl, ?ha5⟩) (Below.refl _ _) ?ra5
  case ha5 =>
    intro w hSw
    have q := t2.conv w hSw
    go_simp
    try with_reducible rfl
  (try simp only [Act.put, List.setIfInBounds_toArray, List.set_cons_zero, List.set_cons_succ])
  refine wpAnyH_take (i := 6) (oi := { dst := some 11, op := Op.binOp BinOp.eql 9 (Operand.tmp 7) (Operand.tmp 10) 9, type := 4, pos := "ref.go:112", after := #[{ on := 2, ground := Ground.data }, { on := 5, ground := Ground.data }], guard := none }) (v := ?va6) rfl (by kernel_rfl) (by kernel_rfl) (by kernel_rfl) (fun _ _ _ h => h) (Or.inl ⟨by rfl, ?ha6⟩) (Below.refl _ _) ?ra6
  case ha6 =>
    intro w hSw
    go_simp
    try with_reducible rfl
  (try simp only [Act.put, List.setIfInBounds_toArray, List.set_cons_zero, List.set_cons_succ])
  refine wpAnyH_take (i := 7) (oi := { dst := some 4, op := Op.assign (Operand.tmp 11), type := 4, pos := "ref.go:112", after := #[{ on := 6, ground := Ground.data }, { on := 4, ground := Ground.chain }, { on := 0, ground := Ground.phase }, { on := 1, ground := Ground.phase }, { on := 2, ground := Ground.phase }, { on := 3, ground := Ground.phase }, { on := 4, ground := Ground.phase }, { on := 5, ground := Ground.phase }, { on := 6, ground := Ground.phase }], guard := none }) (v := ?va7) rfl (by kernel_rfl) (by kernel_rfl) (by kernel_rfl) (fun _ _ _ h => h) (Or.inl ⟨by rfl, ?ha7⟩) (Below.refl _ _) ?ra7
  case ha7 =>
    intro w hSw
    go_simp
    try with_reducible rfl
  (try simp only [Act.put, List.setIfInBounds_toArray, List.set_cons_zero, List.set_cons_succ])
  refine wpAnyH_done (by kernel_rfl) ?_ _
  refine NoPanic.normal ?_
  go_wp2
  go_ret
  exact ⟨rfl, hw⟩
end Go.Proofs.YtinigkpidhbgcaaDoor
