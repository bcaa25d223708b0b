/- The reference's fit in the model. -/
import Derived.Test.YtinigkpidhbgcaaDoorRootRef2
namespace Go.Proofs.YtinigkpidhbgcaaDoor
open Go.RowKit
theorem Box.out {w w' : World} {g b : Nat} {L : Nat → Int} (h : Box w b L) (ho : Out g 0 16 w w') (hne : b ≠ g) : Box w' b L :=
  ⟨fun j hj => ⟨(ho.cell' h.lt hne).trans (h.row j hj).1, (ho.frozen' h.lt hne).trans (h.row j hj).2⟩, Nat.lt_of_lt_of_le h.lt ho.size⟩
theorem rtimes_rep {A B : Nat → Int} {a b : Nat} (hA : Rep A a) (hB : Rep B b) (w : World) : Calls Tryd.prog 32 #[.agg (intsI 16 A).toArray, .agg (intsI 16 B).toArray] w fun e w' => ∃ R, e = .returned (.agg (intsI 16 R).toArray) ∧ Rep R (a * b) ∧ Below w.heap.size w w' :=
  (rtimes_any A B hA.bd hB.bd w).mono fun _ _ ⟨he, hb⟩ => ⟨_, he, rep_times hA hB, hb⟩
theorem rsame_rep {A B : Nat → Int} {a b : Nat} (hA : Rep A a) (hB : Rep B b) (z : Bool) (hz : decide (a % pF = b % pF) = z) (w : World) : Calls Tryd.prog 36 #[.agg (intsI 16 A).toArray, .agg (intsI 16 B).toArray] w fun e w' => e = .returned (.bool z) ∧ Below w.heap.size w w' := by
  have h := rsame_any A B a b hA hB w
  rw [hz] at h
  exact h
set_option maxRecDepth 20000 in
set_option maxHeartbeats 4000000 in
theorem rfit_yes (A B : Nat → Int) (a b : Nat) (hA : Rep A a) (hB : Rep B b) (h : a * a % pF = b % pF) (w : World) :
    Calls Tryd.prog 35 #[.agg (intsI 16 A).toArray, .agg (intsI 16 B).toArray] w fun e w' => e = .returned (.agg (intsI 16 A).toArray) ∧ Below w.heap.size w w' := by
  have cT := fun W => rtimes_rep hA hA W
  have cS := fun (R : Nat → Int) (hR : Rep R (a * a)) (W : World) => rsame_rep hR hB true (decide_eq_true h) W
  have hz := zeroR
  obtain ⟨bxA, bxB⟩ := two_boxes w A B 46
  obtain ⟨W, hW⟩ : ∃ W, W = ((w.alloc (.cells (intsI 16 A).toArray 46)).alloc (.cells (intsI 16 B).toArray 46)).alloc (.cells zI 46) := ⟨_, rfl⟩
  have hw : Below w.heap.size w W := by rw [hW]; exact (((Below.refl _ _).alloc (Nat.le_refl _) _).alloc (by simp) _).alloc (by simp; omega) _
  have bxR : Box W (w.heap.size + 1 + 1) (fun _ => 0) := by
    have h : Box W ((w.alloc (.cells (intsI 16 A).toArray 46)).alloc (.cells (intsI 16 B).toArray 46)).heap.size (fun _ => 0) := by rw [hW]; exact ⟨IRow.fresh _ zI _ (fun j hj => zI_at j hj), by simp⟩
    rw [World.size_alloc, World.size_alloc] at h
    exact h
  have hstep : Below ((w.alloc (.cells (intsI 16 A).toArray 46)).alloc (.cells (intsI 16 B).toArray 46)).heap.size ((w.alloc (.cells (intsI 16 A).toArray 46)).alloc (.cells (intsI 16 B).toArray 46)) W := by rw [hW]; exact (Below.refl _ _).alloc (Nat.le_refl _) _
  replace bxA := bxA.still hstep
  replace bxB := bxB.still hstep
  have HW := Hid.mk' hW
  clear hW hstep
  clear hA hB h
  go_enter Tryd.func35, Tryd.ntmps35
  go_wp2
  rw [← HW.out]
  have hdrew : Below W.heap.size W W.drew := (Below.refl _ _).drew
  replace bxA := bxA.still hdrew
  replace bxB := bxB.still hdrew
  replace bxR := bxR.still hdrew
  replace hw := below_next hw hdrew
  clear hdrew
  refine wp_region_noPanic ?_
  refine wp_region_held_drew (S := fun w' => Below W.drew.heap.size W.drew w') (by kernel_rfl) (Below.refl _ _) (fun hHeld => ?_)
  clear hHeld
  refine wpAnyH_take (i := 0) (oi := { dst := some 5, op := Op.load 46 (Operand.tmp 2), type := 46, pos := "ref.go:191", after := #[], guard := none }) (v := .agg (intsI 16 A).toArray) rfl (by kernel_rfl) (by kernel_rfl) (by kernel_rfl) (fun _ _ _ h => h) (yieldsIf_load_mid (by rfl) 46 _ rfl w.heap.size 0 rfl (intsI 16 A) _ (fun _ h => (bxA.still h).row.range) Tryd.underlying46 rfl (infoRL A)) (Below.refl _ _) ?_
  (try simp only [Act.put, List.setIfInBounds_toArray, List.set_cons_zero, List.set_cons_succ])
  refine wpAnyH_take (i := 1) (oi := { dst := some 6, op := Op.load 46 (Operand.tmp 2), type := 46, pos := "ref.go:191", after := #[], guard := none }) (v := .agg (intsI 16 A).toArray) rfl (by kernel_rfl) (by kernel_rfl) (by kernel_rfl) (fun _ _ _ h => h) (yieldsIf_load_mid (by rfl) 46 _ rfl w.heap.size 0 rfl (intsI 16 A) _ (fun _ h => (bxA.still h).row.range) Tryd.underlying46 rfl (infoRL A)) (Below.refl _ _) ?_
  (try simp only [Act.put, List.setIfInBounds_toArray, List.set_cons_zero, List.set_cons_succ])
  refine wpAnyH_take (i := 3) (oi := { dst := some 8, op := Op.load 46 (Operand.tmp 3), type := 46, pos := "ref.go:191", after := #[], guard := none }) (v := .agg (intsI 16 B).toArray) rfl (by kernel_rfl) (by kernel_rfl) (by kernel_rfl) (fun _ _ _ h => h) (yieldsIf_load_mid (by rfl) 46 _ rfl (w.heap.size + 1) 0 rfl (intsI 16 B) _ (fun _ h => (bxB.still h).row.range) Tryd.underlying46 rfl (infoRL B)) (Below.refl _ _) ?_
  (try simp only [Act.put, List.setIfInBounds_toArray, List.set_cons_zero, List.set_cons_succ])
  refine wpAnyH_ready (rs := [2]) (by kernel_rfl) (by simp) ?_
  refine AllReadyH.cons (o := { dst := some 7, op := Op.call { callee := Callee.value (Operand.func 32), args := #[Operand.tmp 5, Operand.tmp 6], argTypes := #[46, 46] }, type := 46, pos := "ref.go:191", after := #[{ on := 0, ground := Ground.data }, { on := 1, ground := Ground.data }], guard := none }) rfl (fun K hK => ?_) AllReadyH.nil
  go_simp
  (go_at_call 32; refine (cT _).mono ?_; clear cT; rintro e w1 ⟨R1, rfl, hR1, hb1⟩; replace cS := cS R1 hR1)
  (try go_simp)
  refine hK.out _ _ hb1 (fun h => ?_)
  clear h hK K
  refine wpAnyH_narrow (S' := fun w' => Below w1.heap.size w1 w') (fun _ h => below_next hb1 h) _ _ _ _ ?_
  replace bxA := bxA.still hb1
  replace bxB := bxB.still hb1
  replace bxR := bxR.still hb1
  replace hw := below_next hw hb1
  clear hb1
  (try simp only [Act.put, List.setIfInBounds_toArray, List.set_cons_zero, List.set_cons_succ])
  refine wpAnyH_ready (rs := [4]) (by kernel_rfl) (by simp) ?_
  refine AllReadyH.cons (o := { dst := some 9, op := Op.call { callee := Callee.value (Operand.func 36), args := #[Operand.tmp 7, Operand.tmp 8], argTypes := #[46, 46] }, type := 4, pos := "ref.go:191", after := #[{ on := 2, ground := Ground.data }, { on := 3, ground := Ground.data }, { on := 2, ground := Ground.chain }], guard := none }) rfl (fun K hK => ?_) AllReadyH.nil
  go_simp
  (go_at_call 36; refine (cS _).mono ?_; clear cS; rintro e w2 ⟨rfl, hb2⟩)
  (try go_simp)
  refine hK.out _ _ hb2 (fun h => ?_)
  clear h hK K
  refine wpAnyH_narrow (S' := fun w' => Below w2.heap.size w2 w') (fun _ h => below_next hb2 h) _ _ _ _ ?_
  replace bxA := bxA.still hb2
  replace bxB := bxB.still hb2
  replace bxR := bxR.still hb2
  replace hw := below_next hw hb2
  clear hb2
  (try simp only [Act.put, List.setIfInBounds_toArray, List.set_cons_zero, List.set_cons_succ])
  refine wpAnyH_done (by kernel_rfl) ?_ _
  refine NoPanic.normal ?_
  have hr := bxA.row.range
  have hiA := infoRL A
  have hth : w2.there (w.heap.size + 1 + 1) 0 (intsI 16 A).toArray.size := by rw [intsI_size]; exact bxR.row.there
  have hi2 := infoRA A
  have ho := oneR A
  go_wp2_with (first
    | (refine wpList_load_mid rfl 46 _ rfl w.heap.size 0 rfl (intsI 16 A) _ hr Tryd.underlying46 rfl hiA ?_)
    | (with_reducible (refine id (?_ : wpList _ _ _ _ _ _)); refine wpList_store_mid rfl 46 _ _ rfl (w.heap.size + 1 + 1) 0 (intsI 16 A).toArray rfl rfl hth hi2 ho ?_))
  (try simp only [Exit.inBlock, Exit.then])
  refine bodyPost_ret (results_cell_mid Tryd.results35 _ _ (w.heap.size + 1 + 1) 0 (intsI 16 A) _ rfl (World.rangeAt_setCells_same _ _ _ _ (by rw [intsI_len]; exact bxR.row.there)) Tryd.underlying46 rfl hiA) rfl ⟨rfl, ?_⟩
  exact below_setCells (by omega) _ _ _ hw
set_option maxRecDepth 20000 in
set_option maxHeartbeats 4000000 in
theorem rfit_no (A B : Nat → Int) (a b : Nat) (hA : Rep A a) (hB : Rep B b) (h : ¬a * a % pF = b % pF) (w : World) :
    Calls Tryd.prog 35 #[.agg (intsI 16 A).toArray, .agg (intsI 16 B).toArray] w fun e w' => ∃ R, e = .returned (.agg (intsI 16 R).toArray) ∧ Rep R (a * iM) ∧ Below w.heap.size w w' := by
  have cT := fun W => rtimes_rep hA hA W
  have cS := fun (R : Nat → Int) (hR : Rep R (a * a)) (W : World) => rsame_rep hR hB false (decide_eq_false h) W
  have cM := fun W => rminus1_any W
  have cI := fun (R : Nat → Int) (hR : Rep R iM) (W : World) => rtimes_rep hA hR W
  have hz := zeroR
  obtain ⟨bxA, bxB⟩ := two_boxes w A B 46
  obtain ⟨W, hW⟩ : ∃ W, W = ((w.alloc (.cells (intsI 16 A).toArray 46)).alloc (.cells (intsI 16 B).toArray 46)).alloc (.cells zI 46) := ⟨_, rfl⟩
  have hw : Below w.heap.size w W := by rw [hW]; exact (((Below.refl _ _).alloc (Nat.le_refl _) _).alloc (by simp) _).alloc (by simp; omega) _
  have bxR : Box W (w.heap.size + 1 + 1) (fun _ => 0) := by
    have h : Box W ((w.alloc (.cells (intsI 16 A).toArray 46)).alloc (.cells (intsI 16 B).toArray 46)).heap.size (fun _ => 0) := by rw [hW]; exact ⟨IRow.fresh _ zI _ (fun j hj => zI_at j hj), by simp⟩
    rw [World.size_alloc, World.size_alloc] at h
    exact h
  have hstep : Below ((w.alloc (.cells (intsI 16 A).toArray 46)).alloc (.cells (intsI 16 B).toArray 46)).heap.size ((w.alloc (.cells (intsI 16 A).toArray 46)).alloc (.cells (intsI 16 B).toArray 46)) W := by rw [hW]; exact (Below.refl _ _).alloc (Nat.le_refl _) _
  replace bxA := bxA.still hstep
  replace bxB := bxB.still hstep
  have HW := Hid.mk' hW
  clear hW hstep
  clear hA hB h
  go_enter Tryd.func35, Tryd.ntmps35
  go_wp2
  rw [← HW.out]
  have hdrew : Below W.heap.size W W.drew := (Below.refl _ _).drew
  replace bxA := bxA.still hdrew
  replace bxB := bxB.still hdrew
  replace bxR := bxR.still hdrew
  replace hw := below_next hw hdrew
  clear hdrew
  refine wp_region_noPanic ?_
  refine wp_region_held_drew (S := fun w' => Below W.drew.heap.size W.drew w') (by kernel_rfl) (Below.refl _ _) (fun hHeld => ?_)
  clear hHeld
  refine wpAnyH_take (i := 0) (oi := { dst := some 5, op := Op.load 46 (Operand.tmp 2), type := 46, pos := "ref.go:191", after := #[], guard := none }) (v := .agg (intsI 16 A).toArray) rfl (by kernel_rfl) (by kernel_rfl) (by kernel_rfl) (fun _ _ _ h => h) (yieldsIf_load_mid (by rfl) 46 _ rfl w.heap.size 0 rfl (intsI 16 A) _ (fun _ h => (bxA.still h).row.range) Tryd.underlying46 rfl (infoRL A)) (Below.refl _ _) ?_
  (try simp only [Act.put, List.setIfInBounds_toArray, List.set_cons_zero, List.set_cons_succ])
  refine wpAnyH_take (i := 1) (oi := { dst := some 6, op := Op.load 46 (Operand.tmp 2), type := 46, pos := "ref.go:191", after := #[], guard := none }) (v := .agg (intsI 16 A).toArray) rfl (by kernel_rfl) (by kernel_rfl) (by kernel_rfl) (fun _ _ _ h => h) (yieldsIf_load_mid (by rfl) 46 _ rfl w.heap.size 0 rfl (intsI 16 A) _ (fun _ h => (bxA.still h).row.range) Tryd.underlying46 rfl (infoRL A)) (Below.refl _ _) ?_
  (try simp only [Act.put, List.setIfInBounds_toArray, List.set_cons_zero, List.set_cons_succ])
  refine wpAnyH_take (i := 3) (oi := { dst := some 8, op := Op.load 46 (Operand.tmp 3), type := 46, pos := "ref.go:191", after := #[], guard := none }) (v := .agg (intsI 16 B).toArray) rfl (by kernel_rfl) (by kernel_rfl) (by kernel_rfl) (fun _ _ _ h => h) (yieldsIf_load_mid (by rfl) 46 _ rfl (w.heap.size + 1) 0 rfl (intsI 16 B) _ (fun _ h => (bxB.still h).row.range) Tryd.underlying46 rfl (infoRL B)) (Below.refl _ _) ?_
  (try simp only [Act.put, List.setIfInBounds_toArray, List.set_cons_zero, List.set_cons_succ])
  refine wpAnyH_ready (rs := [2]) (by kernel_rfl) (by simp) ?_
  refine AllReadyH.cons (o := { dst := some 7, op := Op.call { callee := Callee.value (Operand.func 32), args := #[Operand.tmp 5, Operand.tmp 6], argTypes := #[46, 46] }, type := 46, pos := "ref.go:191", after := #[{ on := 0, ground := Ground.data }, { on := 1, ground := Ground.data }], guard := none }) rfl (fun K hK => ?_) AllReadyH.nil
  go_simp
  (go_at_call 32; refine (cT _).mono ?_; clear cT; rintro e w1 ⟨R1, rfl, hR1, hb1⟩; replace cS := cS R1 hR1)
  (try go_simp)
  refine hK.out _ _ hb1 (fun h => ?_)
  clear h hK K
  refine wpAnyH_narrow (S' := fun w' => Below w1.heap.size w1 w') (fun _ h => below_next hb1 h) _ _ _ _ ?_
  replace bxA := bxA.still hb1
  replace bxB := bxB.still hb1
  replace bxR := bxR.still hb1
  replace hw := below_next hw hb1
  clear hb1
  (try simp only [Act.put, List.setIfInBounds_toArray, List.set_cons_zero, List.set_cons_succ])
  refine wpAnyH_ready (rs := [4]) (by kernel_rfl) (by simp) ?_
  refine AllReadyH.cons (o := { dst := some 9, op := Op.call { callee := Callee.value (Operand.func 36), args := #[Operand.tmp 7, Operand.tmp 8], argTypes := #[46, 46] }, type := 4, pos := "ref.go:191", after := #[{ on := 2, ground := Ground.data }, { on := 3, ground := Ground.data }, { on := 2, ground := Ground.chain }], guard := none }) rfl (fun K hK => ?_) AllReadyH.nil
  go_simp
  (go_at_call 36; refine (cS _).mono ?_; clear cS; rintro e w2 ⟨rfl, hb2⟩)
  (try go_simp)
  refine hK.out _ _ hb2 (fun h => ?_)
  clear h hK K
  refine wpAnyH_narrow (S' := fun w' => Below w2.heap.size w2 w') (fun _ h => below_next hb2 h) _ _ _ _ ?_
  replace bxA := bxA.still hb2
  replace bxB := bxB.still hb2
  replace bxR := bxR.still hb2
  replace hw := below_next hw hb2
  clear hb2
  (try simp only [Act.put, List.setIfInBounds_toArray, List.set_cons_zero, List.set_cons_succ])
  refine wpAnyH_done (by kernel_rfl) ?_ _
  refine NoPanic.normal ?_
  have hg := bxR.lt
  clear bxB
  go_wp2
  have hdrew : Below w2.heap.size w2 w2.drew := (Below.refl _ _).drew
  replace bxA := bxA.still hdrew
  replace bxR := bxR.still hdrew
  replace hw := below_next hw hdrew
  replace hg := Nat.lt_of_lt_of_le hg hdrew.size
  clear hdrew
  refine wp_region_noPanic ?_
  refine wp_region_held_drew (S := fun w' => Out (w.heap.size + 1 + 1) 0 16 w2.drew w') (by kernel_rfl) (Out.refl _ _ _ _) (fun hHeld => ?_)
  clear hHeld
  refine wpAnyH_take (i := 0) (oi := { dst := some 11, op := Op.load 46 (Operand.tmp 2), type := 46, pos := "ref.go:194", after := #[], guard := none }) (v := .agg (intsI 16 A).toArray) rfl (by kernel_rfl) (by kernel_rfl) (by kernel_rfl) (fun _ _ _ h => h) (yieldsIf_load_mid (by rfl) 46 _ rfl w.heap.size 0 rfl (intsI 16 A) _ (fun _ h => (bxA.out h (by omega)).row.range) Tryd.underlying46 rfl (infoRL A)) (Out.refl _ _ _ _) ?_
  (try simp only [Act.put, List.setIfInBounds_toArray, List.set_cons_zero, List.set_cons_succ])
  refine wpAnyH_ready (rs := [1]) (by kernel_rfl) (by simp) ?_
  refine AllReadyH.cons (o := { dst := some 12, op := Op.call { callee := Callee.value (Operand.func 44), args := #[], argTypes := #[] }, type := 46, pos := "ref.go:194", after := #[], guard := none }) rfl (fun K hK => ?_) AllReadyH.nil
  go_simp
  (go_at_call 44; refine (cM _).mono ?_; clear cM; rintro e w3 ⟨R3, rfl, hR3, hb3⟩; replace cI := cI R3 hR3)
  (try go_simp)
  refine hK.out _ _ (Out.of_below hb3 hg) (fun h => ?_)
  clear h hK K
  refine wpAnyH_narrow (S' := fun w' => Out (w.heap.size + 1 + 1) 0 16 w3 w') (fun _ h => (Out.of_below hb3 hg).trans h) _ _ _ _ ?_
  replace bxA := bxA.still hb3
  replace bxR := bxR.still hb3
  replace hw := below_next hw hb3
  replace hg := Nat.lt_of_lt_of_le hg hb3.size
  clear hb3
  (try simp only [Act.put, List.setIfInBounds_toArray, List.set_cons_zero, List.set_cons_succ])
  refine wpAnyH_ready (rs := [2]) (by kernel_rfl) (by simp) ?_
  refine AllReadyH.cons (o := { dst := some 13, op := Op.call { callee := Callee.value (Operand.func 32), args := #[Operand.tmp 11, Operand.tmp 12], argTypes := #[46, 46] }, type := 46, pos := "ref.go:194", after := #[{ on := 0, ground := Ground.data }, { on := 1, ground := Ground.data }, { on := 1, ground := Ground.chain }], guard := none }) rfl (fun K hK => ?_) AllReadyH.nil
  go_simp
  (go_at_call 32; refine (cI _).mono ?_; clear cI; rintro e w4 ⟨R4, rfl, hR4, hb4⟩; (have hth : w4.there (w.heap.size + 1 + 1) 0 (intsI 16 R4).toArray.size := by rw [intsI_size]; exact (bxR.still hb4).row.there))
  (try go_simp)
  refine hK.out _ _ (Out.of_below hb4 hg) (fun h => ?_)
  clear h hK K
  refine wpAnyH_narrow (S' := fun w' => Out (w.heap.size + 1 + 1) 0 16 w4 w') (fun _ h => (Out.of_below hb4 hg).trans h) _ _ _ _ ?_
  replace bxA := bxA.still hb4
  replace bxR := bxR.still hb4
  replace hw := below_next hw hb4
  replace hg := Nat.lt_of_lt_of_le hg hb4.size
  clear hb4
  (try simp only [Act.put, List.setIfInBounds_toArray, List.set_cons_zero, List.set_cons_succ])
  refine wpAnyH_ready (rs := [3]) (by kernel_rfl) (by simp) ?_
  refine AllReadyH.cons (o := { dst := none, op := Op.store 46 (Operand.tmp 4) (Operand.tmp 13), type := 0, pos := "ref.go:194", after := #[{ on := 2, ground := Ground.data }, { on := 2, ground := Ground.chain }, { on := 0, ground := Ground.phase }, { on := 1, ground := Ground.phase }, { on := 2, ground := Ground.phase }], guard := none }) rfl (fun K hK => ?_) AllReadyH.nil
  rw [if_pos (by rfl)]
  refine wp_store_mid 46 _ _ rfl (w.heap.size + 1 + 1) 0 (intsI 16 R4).toArray rfl rfl hth (infoRA R4) (oneR R4) ?_
  refine hK.out _ _ (Out.setCells _ _ (Nat.le_refl _) (by simp [intsI_len])) (fun h => ?_)
  clear h hK K
  refine wpAnyH_done (by kernel_rfl) ?_ _
  refine NoPanic.normal ?_
  go_wp2
  (try simp only [Exit.inBlock, Exit.then])
  refine bodyPost_ret (results_cell_mid Tryd.results35 _ _ (w.heap.size + 1 + 1) 0 (intsI 16 R4) _ rfl (World.rangeAt_setCells_same _ _ _ _ (by rw [intsI_len]; exact bxR.row.there)) Tryd.underlying46 rfl (infoRL R4)) rfl ⟨R4, rfl, hR4, ?_⟩
  exact below_setCells (by omega) _ _ _ hw
end Go.Proofs.YtinigkpidhbgcaaDoor
