/- What Ratio of the reference does in the model. -/
import Derived.Test.YtinigkpidhbgcaaDoorRNum
import Derived.Test.YtinigkpidhbgcaaDoorPNum
namespace Go.Proofs.YtinigkpidhbgcaaDoor
open Go.RowKit
theorem byt0_mod (n : Nat) : byt n 0 % 2 = n % 2 := by unfold byt; simp only [Nat.pow_zero, Nat.div_one]; omega
theorem rem2_odd {n : Nat} (h : (n % 2 == 1) = true) : ((byt n 0 : Nat) : Int) % 2 = 1 := by
  have h1 := byt0_mod n
  have h2 : n % 2 = 1 := by simpa using h
  omega
theorem rem2_even {n : Nat} (h : (n % 2 == 1) = false) : ¬(((byt n 0 : Nat) : Int) % 2 = 1) := by
  have h1 := byt0_mod n
  have h2 : ¬(n % 2 = 1) := by simpa using h
  omega
abbrev qx1x4 : Oper := { dst := some 6, op := Op.alloc 46, type := 0, pos := "ref.go:177", after := #[], guard := none }
abbrev qx1x2 : Oper := { dst := some 10, op := Op.call { callee := Callee.value (Operand.func 33), args := #[Operand.tmp 9], argTypes := #[46] }, type := 46, pos := "ref.go:177", after := #[{ on := 1, ground := Ground.data }], guard := none }
abbrev qx1x3 : Oper := { dst := some 11, op := Op.call { callee := Callee.value (Operand.func 32), args := #[Operand.tmp 8, Operand.tmp 10], argTypes := #[46, 46] }, type := 46, pos := "ref.go:177", after := #[{ on := 0, ground := Ground.data }, { on := 2, ground := Ground.data }, { on := 2, ground := Ground.chain }], guard := none }
abbrev qx1x5 : Oper := { dst := none, op := Op.store 46 (Operand.tmp 6) (Operand.tmp 11), type := 0, pos := "ref.go:177", after := #[{ on := 4, ground := Ground.data }, { on := 3, ground := Ground.data }, { on := 3, ground := Ground.chain }, { on := 0, ground := Ground.phase }, { on := 1, ground := Ground.phase }, { on := 2, ground := Ground.phase }, { on := 3, ground := Ground.phase }, { on := 4, ground := Ground.phase }], guard := none }
abbrev qxax2 : Oper := { dst := some 19, op := Op.call { callee := Callee.value (Operand.func 32), args := #[Operand.tmp 17, Operand.tmp 18], argTypes := #[46, 46] }, type := 46, pos := "ref.go:180", after := #[{ on := 0, ground := Ground.data }, { on := 1, ground := Ground.data }], guard := none }
abbrev qxax4 : Oper := { dst := some 21, op := Op.call { callee := Callee.value (Operand.func 36), args := #[Operand.tmp 19, Operand.tmp 20], argTypes := #[46, 46] }, type := 4, pos := "ref.go:180", after := #[{ on := 2, ground := Ground.data }, { on := 3, ground := Ground.data }, { on := 2, ground := Ground.chain }], guard := none }
abbrev qxbx2 : Oper := { dst := some 19, op := Op.call { callee := Callee.value (Operand.func 32), args := #[Operand.tmp 17, Operand.tmp 18], argTypes := #[46, 46] }, type := 46, pos := "ref.go:180", after := #[{ on := 0, ground := Ground.data }, { on := 1, ground := Ground.data }], guard := none }
abbrev qxbx4 : Oper := { dst := some 21, op := Op.call { callee := Callee.value (Operand.func 36), args := #[Operand.tmp 19, Operand.tmp 20], argTypes := #[46, 46] }, type := 4, pos := "ref.go:180", after := #[{ on := 2, ground := Ground.data }, { on := 3, ground := Ground.data }, { on := 2, ground := Ground.chain }], guard := none }
abbrev qxbx8 : Oper := { dst := some 25, op := Op.call { callee := Callee.value (Operand.func 37), args := #[Operand.const (Value.int IntKind.i64 0)], argTypes := #[3] }, type := 46, pos := "ref.go:180", after := #[{ on := 6, ground := Ground.chain }, { on := 6, ground := Ground.guard }], guard := some (6, false) }
abbrev qxbx9 : Oper := { dst := some 26, op := Op.call { callee := Callee.value (Operand.func 36), args := #[Operand.tmp 24, Operand.tmp 25], argTypes := #[46, 46] }, type := 4, pos := "ref.go:180", after := #[{ on := 7, ground := Ground.data }, { on := 8, ground := Ground.data }, { on := 8, ground := Ground.chain }, { on := 6, ground := Ground.guard }], guard := some (6, false) }
abbrev qxcx2 : Oper := { dst := some 19, op := Op.call { callee := Callee.value (Operand.func 32), args := #[Operand.tmp 17, Operand.tmp 18], argTypes := #[46, 46] }, type := 46, pos := "ref.go:180", after := #[{ on := 0, ground := Ground.data }, { on := 1, ground := Ground.data }], guard := none }
abbrev qxcx4 : Oper := { dst := some 21, op := Op.call { callee := Callee.value (Operand.func 36), args := #[Operand.tmp 19, Operand.tmp 20], argTypes := #[46, 46] }, type := 4, pos := "ref.go:180", after := #[{ on := 2, ground := Ground.data }, { on := 3, ground := Ground.data }, { on := 2, ground := Ground.chain }], guard := none }
abbrev qxcx8 : Oper := { dst := some 25, op := Op.call { callee := Callee.value (Operand.func 37), args := #[Operand.const (Value.int IntKind.i64 0)], argTypes := #[3] }, type := 46, pos := "ref.go:180", after := #[{ on := 6, ground := Ground.chain }, { on := 6, ground := Ground.guard }], guard := some (6, false) }
abbrev qxcx9 : Oper := { dst := some 26, op := Op.call { callee := Callee.value (Operand.func 36), args := #[Operand.tmp 24, Operand.tmp 25], argTypes := #[46, 46] }, type := 4, pos := "ref.go:180", after := #[{ on := 7, ground := Ground.data }, { on := 8, ground := Ground.data }, { on := 8, ground := Ground.chain }, { on := 6, ground := Ground.guard }], guard := some (6, false) }
abbrev qxcx12 : Oper := { dst := some 29, op := Op.call { callee := Callee.value (Operand.func 37), args := #[Operand.const (Value.int IntKind.i64 0)], argTypes := #[3] }, type := 46, pos := "ref.go:180", after := #[{ on := 10, ground := Ground.chain }, { on := 10, ground := Ground.guard }], guard := some (10, true) }
abbrev qxcx13 : Oper := { dst := some 30, op := Op.call { callee := Callee.value (Operand.func 36), args := #[Operand.tmp 28, Operand.tmp 29], argTypes := #[46, 46] }, type := 4, pos := "ref.go:180", after := #[{ on := 11, ground := Ground.data }, { on := 12, ground := Ground.data }, { on := 12, ground := Ground.chain }, { on := 10, ground := Ground.guard }], guard := some (10, true) }
abbrev qxdx2 : Oper := { dst := some 19, op := Op.call { callee := Callee.value (Operand.func 32), args := #[Operand.tmp 17, Operand.tmp 18], argTypes := #[46, 46] }, type := 46, pos := "ref.go:180", after := #[{ on := 0, ground := Ground.data }, { on := 1, ground := Ground.data }], guard := none }
abbrev qxdx4 : Oper := { dst := some 21, op := Op.call { callee := Callee.value (Operand.func 36), args := #[Operand.tmp 19, Operand.tmp 20], argTypes := #[46, 46] }, type := 4, pos := "ref.go:180", after := #[{ on := 2, ground := Ground.data }, { on := 3, ground := Ground.data }, { on := 2, ground := Ground.chain }], guard := none }
abbrev qxdx8 : Oper := { dst := some 25, op := Op.call { callee := Callee.value (Operand.func 37), args := #[Operand.const (Value.int IntKind.i64 0)], argTypes := #[3] }, type := 46, pos := "ref.go:180", after := #[{ on := 6, ground := Ground.chain }, { on := 6, ground := Ground.guard }], guard := some (6, false) }
abbrev qxdx9 : Oper := { dst := some 26, op := Op.call { callee := Callee.value (Operand.func 36), args := #[Operand.tmp 24, Operand.tmp 25], argTypes := #[46, 46] }, type := 4, pos := "ref.go:180", after := #[{ on := 7, ground := Ground.data }, { on := 8, ground := Ground.data }, { on := 8, ground := Ground.chain }, { on := 6, ground := Ground.guard }], guard := some (6, false) }
abbrev qxdx12 : Oper := { dst := some 29, op := Op.call { callee := Callee.value (Operand.func 37), args := #[Operand.const (Value.int IntKind.i64 0)], argTypes := #[3] }, type := 46, pos := "ref.go:180", after := #[{ on := 10, ground := Ground.chain }, { on := 10, ground := Ground.guard }], guard := some (10, true) }
abbrev qxdx13 : Oper := { dst := some 30, op := Op.call { callee := Callee.value (Operand.func 36), args := #[Operand.tmp 28, Operand.tmp 29], argTypes := #[46, 46] }, type := 4, pos := "ref.go:180", after := #[{ on := 11, ground := Ground.data }, { on := 12, ground := Ground.data }, { on := 12, ground := Ground.chain }, { on := 10, ground := Ground.guard }], guard := some (10, true) }
set_option maxRecDepth 20000 in
set_option maxHeartbeats 16000000 in
theorem rratio_raw (U V : Nat → Int) (vi q y z zz zc nz : Nat) (b1 b2 b3 : Bool)
    (kI : ∀ W, Calls Tryd.prog 33 #[.agg (i16 V).toArray] W fun e w' => ∃ R, e = .returned (.agg (i16 R).toArray) ∧ Rep R vi ∧ Below W.heap.size W w')
    (kQ : ∀ R, Rep R vi → ∀ W, Calls Tryd.prog 32 #[.agg (i16 U).toArray, .agg (i16 R).toArray] W fun e w' => ∃ R, e = .returned (.agg (i16 R).toArray) ∧ Rep R q ∧ Below W.heap.size W w')
    (kP : ∀ Q, Rep Q q → ∀ W, Calls Tryd.prog 34 #[.agg (i16 Q).toArray, .int .i64 252, .int .i64 14, .int .i64 4] W fun e w' => ∃ R, e = .returned (.agg (i16 R).toArray) ∧ Rep R y ∧ Below W.heap.size W w')
    (kF : ∀ Y Q, Rep Y y → Rep Q q → ∀ W, Calls Tryd.prog 35 #[.agg (i16 Y).toArray, .agg (i16 Q).toArray] W fun e w' => ∃ R, e = .returned (.agg (i16 R).toArray) ∧ Rep R z ∧ Below W.heap.size W w')
    (kT : ∀ Z, Rep Z z → ∀ W, Calls Tryd.prog 32 #[.agg (i16 Z).toArray, .agg (i16 Z).toArray] W fun e w' => ∃ R, e = .returned (.agg (i16 R).toArray) ∧ Rep R zz ∧ Below W.heap.size W w')
    (kS1 : ∀ R Q, Rep R zz → Rep Q q → ∀ W, Calls Tryd.prog 36 #[.agg (i16 R).toArray, .agg (i16 Q).toArray] W fun e w' => e = .returned (.bool b1) ∧ Below W.heap.size W w')
    (kO : ∀ W, Calls Tryd.prog 37 #[.int .i64 0] W fun e w' => ∃ R, e = .returned (.agg (i16 R).toArray) ∧ Rep R 0 ∧ Below W.heap.size W w')
    (kS2 : ∀ O, Rep O 0 → ∀ W, Calls Tryd.prog 36 #[.agg (i16 V).toArray, .agg (i16 O).toArray] W fun e w' => e = .returned (.bool b2) ∧ Below W.heap.size W w')
    (kS3 : ∀ O, Rep O 0 → ∀ W, Calls Tryd.prog 36 #[.agg (i16 U).toArray, .agg (i16 O).toArray] W fun e w' => e = .returned (.bool b3) ∧ Below W.heap.size W w')
    (kB : ∀ Z, Rep Z z → ∀ W, Calls Tryd.prog 22 #[.agg (i16 Z).toArray] W fun e w' => ∃ s, e = .returned s ∧ BytesIn w' s 32 (byt zc) ∧ Below W.heap.size W w')
    (kM : ∀ O Z, Rep O 0 → Rep Z z → ∀ W, Calls Tryd.prog 38 #[.agg (i16 O).toArray, .agg (i16 Z).toArray] W fun e w' => ∃ R, e = .returned (.agg (i16 R).toArray) ∧ Rw R nz ∧ Below W.heap.size W w')
    (w : World) :
    Calls Tryd.prog 20 #[rV U, rV V] w fun e w' => ∃ R, e = .returned (.tuple #[rV R, .bool (b1 && !(b2 && !b3))]) ∧ Rw R (if (b1 && !(b2 && !b3)) = true then (if zc % 2 = 1 then nz else z) else 0) ∧ Below w.heap.size w w' := by
  have hz := zeroR
  obtain ⟨V1, g2, e1, hg2, c1, hU⟩ : ∃ V g, w.alloc (.cells (i16 U).toArray 46) = V ∧ w.heap.size = g ∧ Below w.heap.size w V ∧ RW V g 0 (i16 U) := ⟨_, _, rfl, rfl, (Below.refl _ _).alloc (Nat.le_refl _) _, RW.fresh w _ _⟩
  obtain ⟨V2, g3, e2, hg3, c2, hV⟩ : ∃ V' g, V1.alloc (.cells (i16 V).toArray 46) = V' ∧ V1.heap.size = g ∧ Below V1.heap.size V1 V' ∧ RW V' g 0 (i16 V) := ⟨_, _, rfl, rfl, (Below.refl _ _).alloc (Nat.le_refl _) _, RW.fresh V1 _ _⟩
  obtain ⟨W, g4, e3, hg4, c3, h4⟩ := freshR V2
  have t1 : V1.heap.size = w.heap.size + 1 := by rw [← e1]; simp
  have t2' : V2.heap.size = V1.heap.size + 1 := by rw [← e2]; simp
  have HW : Hid (W = ((w.alloc (.cells (i16 U).toArray 46)).alloc (.cells (i16 V).toArray 46)).alloc (.cells zI 46)) := Hid.mk' (by rw [← e3, ← e2, ← e1])
  have q2 : Hid (w.heap.size = g2) := Hid.mk' hg2
  have q3 : Hid (w.heap.size + 1 = g3) := Hid.mk' (by omega)
  have q4 : Hid (w.heap.size + 1 + 1 = g4) := Hid.mk' (by omega)
  replace hU := (hU.still c2).still c3
  replace hV := hV.still c3
  have hbW : Below w.heap.size w W := (c1.trans (c2.mono (by omega))).trans (c3.mono (by omega))
  have w4 : w.heap.size ≤ g4 := by omega
  have n24 : g2 ≠ g4 := by omega
  have n34 : g3 ≠ g4 := by omega
  clear e1 e2 e3 hg2 hg3 hg4 c1 c2 c3 t1 t2' V1 V2
  obtain ⟨ok, hok⟩ : ∃ ok, ok = (b1 && !(b2 && !b3)) := ⟨_, rfl⟩
  obtain ⟨res, hres⟩ : ∃ r, r = (if ok = true then (if zc % 2 = 1 then nz else z) else 0) := ⟨_, rfl⟩
  rw [← hok, ← hres]
  have Hok := Hid.mk' hok
  have Hres := Hid.mk' hres
  clear hok hres
  rw [show rV U = .agg (i16 U).toArray from rfl, show rV V = .agg (i16 V).toArray from rfl]
  go_enter Tryd.func20, Tryd.ntmps20
  go_upto_region 1 with (fail)
  rw [← HW.out, q4.out, q3.out, q2.out]
  clear HW q2 q3 q4
  go_cut [6] from 8 (fun s6 wc => ∃ g106 Q, s6 = .pointer (some ⟨g106, 0, none⟩) ∧ Rep Q q ∧ Below W.heap.size W wc ∧ W.heap.size ≤ g106 ∧ RW wc g106 0 (i16 Q))
  case first =>
    clear kP kF kT kS1 kO kS2 kS3 kB kM
    have hdrew : Below W.heap.size W W.drew := (Below.refl _ _).drew
    replace hU := hU.still hdrew
    replace hV := hV.still hdrew
    replace h4 := h4.still hdrew
    refine wp_region_noPanic ?_
    refine wp_region_held_drew (S := fun w' => Below W.drew.heap.size W.drew w') (by kernel_rfl) (Below.refl _ _) (fun hS => ?_)
    generalize W.drew = Vx1_ at *
    refine wpAnyH_take (i := 0) (oi := { dst := some 8, op := Op.load 46 (Operand.tmp 2), type := 46, pos := "ref.go:177", after := #[], guard := none }) (v := rV U) rfl (by kernel_rfl) (by kernel_rfl) (by kernel_rfl) (fun _ _ _ h => h) (yieldsIf_load_mid (by rfl) 46 _ rfl g2 0 rfl (i16 U) _ (fun _ h => (hU.still h).range) Tryd.underlying46 rfl (infoI _)) hS ?_
    (try simp only [Act.put, List.setIfInBounds_toArray, List.set_cons_zero, List.set_cons_succ])
    refine wpAnyH_take (i := 1) (oi := { dst := some 9, op := Op.load 46 (Operand.tmp 3), type := 46, pos := "ref.go:177", after := #[], guard := none }) (v := rV V) rfl (by kernel_rfl) (by kernel_rfl) (by kernel_rfl) (fun _ _ _ h => h) (yieldsIf_load_mid (by rfl) 46 _ rfl g3 0 rfl (i16 V) _ (fun _ h => (hV.still h).range) Tryd.underlying46 rfl (infoI _)) hS ?_
    (try simp only [Act.put, List.setIfInBounds_toArray, List.set_cons_zero, List.set_cons_succ])
    refine wpAnyH_ready (rs := [2, 4]) (by kernel_rfl) (by simp) ?_
    refine AllReadyH.cons (o := qx1x2) rfl (fun K hK => ?_) (AllReadyH.cons (o := qx1x4) rfl (fun K hK => ?_) (AllReadyH.nil))
    · unfold qx1x2
      go_simp
      (go_at_call 33; refine (kI _).mono ?_; rintro e wx1_1 ⟨R1, rfl, hR1, hbx1_1⟩)
      (try go_simp)
      have hSx1_1 := below_next hS hbx1_1
      refine hK.out _ _ hSx1_1 (fun h => ?_)
      clear h hK K hbx1_1
      (try simp only [Act.put, List.setIfInBounds_toArray, List.set_cons_zero, List.set_cons_succ])
      refine wpAnyH_ready (rs := [3, 4]) (by kernel_rfl) (by simp) ?_
      refine AllReadyH.cons (o := qx1x3) rfl (fun K hK => ?_) (AllReadyH.cons (o := qx1x4) rfl (fun K hK => ?_) (AllReadyH.nil))
      · unfold qx1x3
        go_simp
        (go_at_call 32; refine (kQ R1 hR1 _).mono ?_; rintro e wx1_2 ⟨Q, rfl, hQ, hbx1_2⟩)
        (try go_simp)
        have hSx1_2 := below_next hSx1_1 hbx1_2
        refine hK.out _ _ hSx1_2 (fun h => ?_)
        clear h hK K hbx1_2
        (try simp only [Act.put, List.setIfInBounds_toArray, List.set_cons_zero, List.set_cons_succ])
        refine wpAnyH_ready (rs := [4]) (by kernel_rfl) (by simp) ?_
        refine AllReadyH.cons (o := qx1x4) rfl (fun K hK => ?_) (AllReadyH.nil)
        unfold qx1x4
        go_simp
        obtain ⟨wx1_3, gx1_3, hwx1_3, hgx1_3, hbx1_3, rx1_3⟩ := freshR wx1_2
        rw [hwx1_3, hgx1_3]
        have hSx1_3 := below_next hSx1_2 hbx1_3
        have Gx1_3 : Vx1_.heap.size ≤ gx1_3 := by have := hSx1_2.size; omega
        refine hK.out _ _ hSx1_3 (fun h => ?_)
        clear h hK K hbx1_3 hwx1_3 hgx1_3
        (try simp only [Act.put, List.setIfInBounds_toArray, List.set_cons_zero, List.set_cons_succ])
        refine wpAnyH_ready (rs := [5]) (by kernel_rfl) (by simp) ?_
        refine AllReadyH.cons (o := qx1x5) rfl (fun K hK => ?_) (AllReadyH.nil)
        unfold qx1x5
        rw [if_pos (by rfl)]
        refine ref_store _ _ rfl gx1_3 (fun _ => 0) Q rfl rfl rx1_3 hSx1_3 Gx1_3 (fun wx1_4 r0 hSx1_4 => ?_)
        refine hK.out _ _ hSx1_4 (fun h => ?_)
        clear h hK K rx1_3
        have rx1_3 := r0
        clear r0
        (try dsimp only [Act.put])
        refine wpAnyH_done (by kernel_rfl) ?_ _
        refine NoPanic.normal ?_
        go_wp2
        go_meet
        case rel => exact ⟨gx1_3, Q, rfl, hQ, below_next hdrew hSx1_4, Nat.le_trans hdrew.size Gx1_3, rx1_3⟩
      · unfold qx1x4
        go_simp
        obtain ⟨wx1_5, gx1_5, hwx1_5, hgx1_5, hbx1_5, rx1_5⟩ := freshR wx1_1
        rw [hwx1_5, hgx1_5]
        have hSx1_5 := below_next hSx1_1 hbx1_5
        have Gx1_5 : Vx1_.heap.size ≤ gx1_5 := by have := hSx1_1.size; omega
        refine hK.out _ _ hSx1_5 (fun h => ?_)
        clear h hK K hbx1_5 hwx1_5 hgx1_5
        (try simp only [Act.put, List.setIfInBounds_toArray, List.set_cons_zero, List.set_cons_succ])
        refine wpAnyH_ready (rs := [3]) (by kernel_rfl) (by simp) ?_
        refine AllReadyH.cons (o := qx1x3) rfl (fun K hK => ?_) (AllReadyH.nil)
        unfold qx1x3
        go_simp
        (go_at_call 32; refine (kQ R1 hR1 _).mono ?_; rintro e wx1_6 ⟨Q, rfl, hQ, hbx1_6⟩)
        (try go_simp)
        have hSx1_6 := below_next hSx1_5 hbx1_6
        replace rx1_5 := rx1_5.still hbx1_6
        refine hK.out _ _ hSx1_6 (fun h => ?_)
        clear h hK K hbx1_6
        (try simp only [Act.put, List.setIfInBounds_toArray, List.set_cons_zero, List.set_cons_succ])
        refine wpAnyH_ready (rs := [5]) (by kernel_rfl) (by simp) ?_
        refine AllReadyH.cons (o := qx1x5) rfl (fun K hK => ?_) (AllReadyH.nil)
        unfold qx1x5
        rw [if_pos (by rfl)]
        refine ref_store _ _ rfl gx1_5 (fun _ => 0) Q rfl rfl rx1_5 hSx1_6 Gx1_5 (fun wx1_7 r0 hSx1_7 => ?_)
        refine hK.out _ _ hSx1_7 (fun h => ?_)
        clear h hK K rx1_5
        have rx1_5 := r0
        clear r0
        (try dsimp only [Act.put])
        refine wpAnyH_done (by kernel_rfl) ?_ _
        refine NoPanic.normal ?_
        go_wp2
        go_meet
        case rel => exact ⟨gx1_5, Q, rfl, hQ, below_next hdrew hSx1_7, Nat.le_trans hdrew.size Gx1_5, rx1_5⟩
    · unfold qx1x4
      go_simp
      obtain ⟨wx1_8, gx1_8, hwx1_8, hgx1_8, hbx1_8, rx1_8⟩ := freshR Vx1_
      rw [hwx1_8, hgx1_8]
      have hSx1_8 := below_next hS hbx1_8
      have Gx1_8 : Vx1_.heap.size ≤ gx1_8 := by have := hS.size; omega
      refine hK.out _ _ hSx1_8 (fun h => ?_)
      clear h hK K hbx1_8 hwx1_8 hgx1_8
      (try simp only [Act.put, List.setIfInBounds_toArray, List.set_cons_zero, List.set_cons_succ])
      refine wpAnyH_ready (rs := [2]) (by kernel_rfl) (by simp) ?_
      refine AllReadyH.cons (o := qx1x2) rfl (fun K hK => ?_) (AllReadyH.nil)
      unfold qx1x2
      go_simp
      (go_at_call 33; refine (kI _).mono ?_; rintro e wx1_9 ⟨R1, rfl, hR1, hbx1_9⟩)
      (try go_simp)
      have hSx1_9 := below_next hSx1_8 hbx1_9
      replace rx1_8 := rx1_8.still hbx1_9
      refine hK.out _ _ hSx1_9 (fun h => ?_)
      clear h hK K hbx1_9
      (try simp only [Act.put, List.setIfInBounds_toArray, List.set_cons_zero, List.set_cons_succ])
      refine wpAnyH_ready (rs := [3]) (by kernel_rfl) (by simp) ?_
      refine AllReadyH.cons (o := qx1x3) rfl (fun K hK => ?_) (AllReadyH.nil)
      unfold qx1x3
      go_simp
      (go_at_call 32; refine (kQ R1 hR1 _).mono ?_; rintro e wx1_10 ⟨Q, rfl, hQ, hbx1_10⟩)
      (try go_simp)
      have hSx1_10 := below_next hSx1_9 hbx1_10
      replace rx1_8 := rx1_8.still hbx1_10
      refine hK.out _ _ hSx1_10 (fun h => ?_)
      clear h hK K hbx1_10
      (try simp only [Act.put, List.setIfInBounds_toArray, List.set_cons_zero, List.set_cons_succ])
      refine wpAnyH_ready (rs := [5]) (by kernel_rfl) (by simp) ?_
      refine AllReadyH.cons (o := qx1x5) rfl (fun K hK => ?_) (AllReadyH.nil)
      unfold qx1x5
      rw [if_pos (by rfl)]
      refine ref_store _ _ rfl gx1_8 (fun _ => 0) Q rfl rfl rx1_8 hSx1_10 Gx1_8 (fun wx1_11 r0 hSx1_11 => ?_)
      refine hK.out _ _ hSx1_11 (fun h => ?_)
      clear h hK K rx1_8
      have rx1_8 := r0
      clear r0
      (try dsimp only [Act.put])
      refine wpAnyH_done (by kernel_rfl) ?_ _
      refine NoPanic.normal ?_
      go_wp2
      go_meet
      case rel => exact ⟨gx1_8, Q, rfl, hQ, below_next hdrew hSx1_11, Nat.le_trans hdrew.size Gx1_8, rx1_8⟩
  case rest =>
  obtain ⟨g106, Q, rfl, hQ, hb106, G106, h106⟩ := hcut
  have lt4 := h4.lt
  replace hU := hU.still hb106
  replace hV := hV.still hb106
  replace h4 := h4.still hb106
  obtain ⟨U1, hU1⟩ : ∃ W, W = wc := ⟨_, rfl⟩
  rw [← hU1]
  rw [← hU1] at hU hV h4 h106 hb106
  replace hbW : Below w.heap.size w U1 := below_next hbW hb106
  have n4_106 : g106 ≠ g4 := by omega
  clear hU1 hb106 G106 lt4
  go_upto_region 2 with (fail)
  go_cut [7] from 8 (fun s7 wc => ∃ g107 Y, s7 = .pointer (some ⟨g107, 0, none⟩) ∧ Rep Y y ∧ Below U1.heap.size U1 wc ∧ U1.heap.size ≤ g107 ∧ RW wc g107 0 (i16 Y))
  case first =>
    clear kI kQ kF kT kS1 kO kS2 kS3 kB kM
    have r1 := h106.range
    replace kP := kP Q hQ
    go_wp2_with (first
      | (refine wpList_load_mid rfl 46 _ rfl g106 0 rfl (i16 Q) _ r1 Tryd.underlying46 rfl (infoI Q) ?_)
      | (go_at_call 34; refine (kP _).mono ?_; clear kP r1; rintro e w9 ⟨Y, rfl, hY, hb9⟩; (have th := freshR' w9); (have th' := freshRt w9 Y))
      | (with_reducible (refine id (?_ : wpList _ _ _ _ _ _)); refine wpList_store_mid rfl 46 _ _ rfl w9.heap.size 0 (i16 Y).toArray rfl rfl th' (infoIA Y) (oneI Y) ?_))
    go_meet
    case rel => exact ⟨w9.heap.size, Y, rfl, hY, below_setCells hb9.size _ _ _ (hb9.alloc hb9.size _), hb9.size, th.stored (i16 Y) (by rw [i16_len, i16_len])⟩
  case rest =>
  obtain ⟨g107, Y, rfl, hY, hb107, G107, h107⟩ := hcut
  have lt4 := h4.lt
  have lt6 := h106.lt
  have lt2 := hU.lt
  have lt3 := hV.lt
  replace hU := hU.still hb107
  replace hV := hV.still hb107
  replace h4 := h4.still hb107
  replace h106 := h106.still hb107
  obtain ⟨U2, hU2⟩ : ∃ W, W = wc := ⟨_, rfl⟩
  rw [← hU2]
  rw [← hU2] at hU hV h4 h106 h107 hb107
  replace hbW : Below w.heap.size w U2 := below_next hbW hb107
  have n4_107 : g107 ≠ g4 := by omega
  have n67 : g106 ≠ g107 := by omega
  have n27 : g2 ≠ g107 := by omega
  have n37 : g3 ≠ g107 := by omega
  have w107 : w.heap.size ≤ g107 := Nat.le_trans (Nat.le_trans w4 (Nat.le_of_lt lt4)) G107
  clear lt6 lt2 lt3
  clear hU2 hb107 G107 lt4
  go_upto_region 3 with (fail)
  replace kF := kF Y Q hY hQ
  have r6 := h106.range
  have r7 := h107.range
  go_upto_region 4 with (first
    | (refine wpList_load_mid rfl 46 _ rfl g107 0 rfl (i16 Y) _ r7 Tryd.underlying46 rfl (infoI Y) ?_)
    | (refine wpList_load_mid rfl 46 _ rfl g106 0 rfl (i16 Q) _ r6 Tryd.underlying46 rfl (infoI Q) ?_)
    | (go_at_call 35; refine (kF _).mono ?_; clear kF r6 r7; rintro e w3 ⟨Z, rfl, hZ, hb3⟩; (replace hU := hU.still hb3); (replace hV := hV.still hb3); (replace h4 := h4.still hb3); (replace h106 := h106.still hb3); (replace h107 := h107.still hb3); (replace hbW := below_next hbW hb3); clear hb3; (have t7 : w3.there g107 0 (i16 Z).toArray.size := by have := h107.there; rw [i16_len] at this; rw [List.size_toArray, i16_len]; exact this); (obtain ⟨V3, hV3⟩ : ∃ V, V = w3.setCells g107 0 (i16 Z) := ⟨_, rfl⟩); (replace h107 := h107.stored (i16 Z) (by rw [i16_len, i16_len])); (replace hU := hU.far g107 0 (i16 Z) (.inl n27)); (replace hV := hV.far g107 0 (i16 Z) (.inl n37)); (replace h106 := h106.far g107 0 (i16 Z) (.inl n67)); (replace h4 := h4.far g107 0 (i16 Z) (.inl n4_107.symm)); (replace hbW := below_setCells w107 (i16 Z) 0 _ hbW); rw [← hV3] at h107 hU hV h106 h4 hbW; (have H3 := Hid.mk' hV3); clear hV3)
    | (with_reducible (refine id (?_ : wpList _ _ _ _ _ _)); refine wpList_store_mid rfl 46 _ _ rfl g107 0 (i16 Z).toArray rfl rfl t7 (infoIA Z) (oneI Z) ?_; rw [List.toList_toArray, ← H3.out]; clear t7 H3))
  (try dsimp only [Act.put])
  replace kT := kT Z hZ
  clear kI kQ kP hY
  go_cut [33] from 8 (fun s33 wc => s33 = .bool (!ok) ∧ Below V3.heap.size V3 wc)
  case first =>
    clear kB kM Hres
    cases b1 with
    | false =>
      have hdrew : Below V3.heap.size V3 V3.drew := (Below.refl _ _).drew
      replace hU := hU.still hdrew
      replace hV := hV.still hdrew
      replace h106 := h106.still hdrew
      replace h107 := h107.still hdrew
      refine wp_region_noPanic ?_
      refine wp_region_held_drew (S := fun w' => Below V3.drew.heap.size V3.drew w') (by kernel_rfl) (Below.refl _ _) (fun hS => ?_)
      generalize V3.drew = Vxa_ at *
      refine wpAnyH_take (i := 0) (oi := { dst := some 17, op := Op.load 46 (Operand.tmp 7), type := 46, pos := "ref.go:180", after := #[], guard := none }) (v := rV Z) rfl (by kernel_rfl) (by kernel_rfl) (by kernel_rfl) (fun _ _ _ h => h) (yieldsIf_load_mid (by rfl) 46 _ rfl g107 0 rfl (i16 Z) _ (fun _ h => (h107.still h).range) Tryd.underlying46 rfl (infoI _)) hS ?_
      (try simp only [Act.put, List.setIfInBounds_toArray, List.set_cons_zero, List.set_cons_succ])
      refine wpAnyH_take (i := 1) (oi := { dst := some 18, op := Op.load 46 (Operand.tmp 7), type := 46, pos := "ref.go:180", after := #[], guard := none }) (v := rV Z) rfl (by kernel_rfl) (by kernel_rfl) (by kernel_rfl) (fun _ _ _ h => h) (yieldsIf_load_mid (by rfl) 46 _ rfl g107 0 rfl (i16 Z) _ (fun _ h => (h107.still h).range) Tryd.underlying46 rfl (infoI _)) hS ?_
      (try simp only [Act.put, List.setIfInBounds_toArray, List.set_cons_zero, List.set_cons_succ])
      refine wpAnyH_take (i := 3) (oi := { dst := some 20, op := Op.load 46 (Operand.tmp 6), type := 46, pos := "ref.go:180", after := #[], guard := none }) (v := rV Q) rfl (by kernel_rfl) (by kernel_rfl) (by kernel_rfl) (fun _ _ _ h => h) (yieldsIf_load_mid (by rfl) 46 _ rfl g106 0 rfl (i16 Q) _ (fun _ h => (h106.still h).range) Tryd.underlying46 rfl (infoI _)) hS ?_
      (try simp only [Act.put, List.setIfInBounds_toArray, List.set_cons_zero, List.set_cons_succ])
      refine wpAnyH_ready (rs := [2]) (by kernel_rfl) (by simp) ?_
      refine AllReadyH.cons (o := qxax2) rfl (fun K hK => ?_) (AllReadyH.nil)
      unfold qxax2
      go_simp
      (go_at_call 32; refine (kT _).mono ?_; clear kT; rintro e wxa_1 ⟨R1, rfl, hR1, hbxa_1⟩; replace kS1 := kS1 R1 Q hR1 hQ)
      (try go_simp)
      have hSxa_1 := below_next hS hbxa_1
      refine hK.out _ _ hSxa_1 (fun h => ?_)
      clear h hK K hbxa_1
      (try simp only [Act.put, List.setIfInBounds_toArray, List.set_cons_zero, List.set_cons_succ])
      refine wpAnyH_ready (rs := [4]) (by kernel_rfl) (by simp) ?_
      refine AllReadyH.cons (o := qxax4) rfl (fun K hK => ?_) (AllReadyH.nil)
      unfold qxax4
      go_simp
      (go_at_call 36; refine (kS1 _).mono ?_; clear kS1; rintro e wxa_2 ⟨rfl, hbxa_2⟩)
      (try go_simp)
      have hSxa_2 := below_next hSxa_1 hbxa_2
      refine hK.out _ _ hSxa_2 (fun h => ?_)
      clear h hK K hbxa_2
      (try simp only [Act.put, List.setIfInBounds_toArray, List.set_cons_zero, List.set_cons_succ])
      refine wpAnyH_take (i := 5) (oi := { dst := some 22, op := Op.unOp UnOp.not 4 (Operand.tmp 21), type := 4, pos := "ref.go:180", after := #[{ on := 4, ground := Ground.data }], guard := none }) (v := ?vxa_3) rfl (by kernel_rfl) (by kernel_rfl) (by kernel_rfl) (fun _ _ _ h => h) (Or.inl ⟨by rfl, ?hxa_3⟩) hSxa_2 ?rxa_3
      case hxa_3 =>
        intro w hSw
        go_simp
        try with_reducible rfl
      (try simp only [Act.put, List.setIfInBounds_toArray, List.set_cons_zero, List.set_cons_succ])
      refine wpAnyH_take (i := 6) (oi := { dst := some 23, op := Op.move (Operand.tmp 22), type := 4, pos := "ref.go:180", after := #[{ on := 5, ground := Ground.data }, { on := 4, ground := Ground.chain }], guard := none }) (v := ?vxa_4) rfl (by kernel_rfl) (by kernel_rfl) (by kernel_rfl) (fun _ _ _ h => h) (Or.inl ⟨by rfl, ?hxa_4⟩) hSxa_2 ?rxa_4
      case hxa_4 =>
        intro w hSw
        go_simp
        try with_reducible rfl
      (try simp only [Act.put, List.setIfInBounds_toArray, List.set_cons_zero, List.set_cons_succ])
      refine wpAnyH_take (i := 7) (oi := { dst := some 24, op := Op.load 46 (Operand.tmp 3), type := 46, pos := "ref.go:180", after := #[{ on := 6, ground := Ground.guard }], guard := some (6, false) }) (v := undef) rfl (by kernel_rfl) (by kernel_rfl) (by kernel_rfl) (fun _ _ _ h => h) (Or.inr ⟨by rfl, rfl⟩) hSxa_2 ?_
      (try simp only [Act.put, List.setIfInBounds_toArray, List.set_cons_zero, List.set_cons_succ])
      refine wpAnyH_take (i := 8) (oi := { dst := some 25, op := Op.call { callee := Callee.value (Operand.func 37), args := #[Operand.const (Value.int IntKind.i64 0)], argTypes := #[3] }, type := 46, pos := "ref.go:180", after := #[{ on := 6, ground := Ground.chain }, { on := 6, ground := Ground.guard }], guard := some (6, false) }) (v := undef) rfl (by kernel_rfl) (by kernel_rfl) (by kernel_rfl) (fun _ _ _ h => h) (Or.inr ⟨by rfl, rfl⟩) hSxa_2 ?_
      (try simp only [Act.put, List.setIfInBounds_toArray, List.set_cons_zero, List.set_cons_succ])
      refine wpAnyH_take (i := 9) (oi := { dst := some 26, op := Op.call { callee := Callee.value (Operand.func 36), args := #[Operand.tmp 24, Operand.tmp 25], argTypes := #[46, 46] }, type := 4, pos := "ref.go:180", after := #[{ on := 7, ground := Ground.data }, { on := 8, ground := Ground.data }, { on := 8, ground := Ground.chain }, { on := 6, ground := Ground.guard }], guard := some (6, false) }) (v := undef) rfl (by kernel_rfl) (by kernel_rfl) (by kernel_rfl) (fun _ _ _ h => h) (Or.inr ⟨by rfl, rfl⟩) hSxa_2 ?_
      (try simp only [Act.put, List.setIfInBounds_toArray, List.set_cons_zero, List.set_cons_succ])
      refine wpAnyH_take (i := 10) (oi := { dst := some 27, op := Op.move (Operand.tmp 26), type := 4, pos := "ref.go:180", after := #[{ on := 9, ground := Ground.data }, { on := 9, ground := Ground.chain }, { on := 6, ground := Ground.guard }], guard := some (6, false) }) (v := undef) rfl (by kernel_rfl) (by kernel_rfl) (by kernel_rfl) (fun _ _ _ h => h) (Or.inr ⟨by rfl, rfl⟩) hSxa_2 ?_
      (try simp only [Act.put, List.setIfInBounds_toArray, List.set_cons_zero, List.set_cons_succ])
      refine wpAnyH_take (i := 11) (oi := { dst := some 28, op := Op.load 46 (Operand.tmp 2), type := 46, pos := "ref.go:180", after := #[{ on := 10, ground := Ground.guard }], guard := some (10, true) }) (v := undef) rfl (by kernel_rfl) (by kernel_rfl) (by kernel_rfl) (fun _ _ _ h => h) (Or.inr ⟨by rfl, rfl⟩) hSxa_2 ?_
      (try simp only [Act.put, List.setIfInBounds_toArray, List.set_cons_zero, List.set_cons_succ])
      refine wpAnyH_take (i := 12) (oi := { dst := some 29, op := Op.call { callee := Callee.value (Operand.func 37), args := #[Operand.const (Value.int IntKind.i64 0)], argTypes := #[3] }, type := 46, pos := "ref.go:180", after := #[{ on := 10, ground := Ground.chain }, { on := 10, ground := Ground.guard }], guard := some (10, true) }) (v := undef) rfl (by kernel_rfl) (by kernel_rfl) (by kernel_rfl) (fun _ _ _ h => h) (Or.inr ⟨by rfl, rfl⟩) hSxa_2 ?_
      (try simp only [Act.put, List.setIfInBounds_toArray, List.set_cons_zero, List.set_cons_succ])
      refine wpAnyH_take (i := 13) (oi := { dst := some 30, op := Op.call { callee := Callee.value (Operand.func 36), args := #[Operand.tmp 28, Operand.tmp 29], argTypes := #[46, 46] }, type := 4, pos := "ref.go:180", after := #[{ on := 11, ground := Ground.data }, { on := 12, ground := Ground.data }, { on := 12, ground := Ground.chain }, { on := 10, ground := Ground.guard }], guard := some (10, true) }) (v := undef) rfl (by kernel_rfl) (by kernel_rfl) (by kernel_rfl) (fun _ _ _ h => h) (Or.inr ⟨by rfl, rfl⟩) hSxa_2 ?_
      (try simp only [Act.put, List.setIfInBounds_toArray, List.set_cons_zero, List.set_cons_succ])
      refine wpAnyH_take (i := 14) (oi := { dst := some 31, op := Op.unOp UnOp.not 4 (Operand.tmp 30), type := 4, pos := "ref.go:180", after := #[{ on := 13, ground := Ground.data }, { on := 10, ground := Ground.guard }], guard := some (10, true) }) (v := undef) rfl (by kernel_rfl) (by kernel_rfl) (by kernel_rfl) (fun _ _ _ h => h) (Or.inr ⟨by rfl, rfl⟩) hSxa_2 ?_
      (try simp only [Act.put, List.setIfInBounds_toArray, List.set_cons_zero, List.set_cons_succ])
      refine wpAnyH_take (i := 15) (oi := { dst := some 32, op := Op.pick (Operand.tmp 27) (Operand.tmp 31) (Operand.const (Value.bool false)), type := 4, pos := "ref.go:180", after := #[{ on := 10, ground := Ground.data }, { on := 14, ground := Ground.data }, { on := 6, ground := Ground.guard }], guard := some (6, false) }) (v := undef) rfl (by kernel_rfl) (by kernel_rfl) (by kernel_rfl) (fun _ _ _ h => h) (Or.inr ⟨by rfl, rfl⟩) hSxa_2 ?_
      (try simp only [Act.put, List.setIfInBounds_toArray, List.set_cons_zero, List.set_cons_succ])
      refine wpAnyH_take (i := 16) (oi := { dst := some 33, op := Op.pick (Operand.tmp 23) (Operand.const (Value.bool true)) (Operand.tmp 32), type := 4, pos := "ref.go:180", after := #[{ on := 6, ground := Ground.data }, { on := 15, ground := Ground.data }], guard := none }) (v := ?vxa_5) rfl (by kernel_rfl) (by kernel_rfl) (by kernel_rfl) (fun _ _ _ h => h) (Or.inl ⟨by rfl, ?hxa_5⟩) hSxa_2 ?rxa_5
      case hxa_5 =>
        intro w hSw
        go_simp
        try with_reducible rfl
      (try simp only [Act.put, List.setIfInBounds_toArray, List.set_cons_zero, List.set_cons_succ])
      refine wpAnyH_done (by kernel_rfl) ?_ _
      refine NoPanic.normal ?_
      go_wp2
      go_meet
      case rel => exact ⟨by rw [Hok.out]; rfl, below_next hdrew hSxa_2⟩
    | true =>
      cases b2 with
      | false =>
        have hdrew : Below V3.heap.size V3 V3.drew := (Below.refl _ _).drew
        replace hU := hU.still hdrew
        replace hV := hV.still hdrew
        replace h106 := h106.still hdrew
        replace h107 := h107.still hdrew
        refine wp_region_noPanic ?_
        refine wp_region_held_drew (S := fun w' => Below V3.drew.heap.size V3.drew w') (by kernel_rfl) (Below.refl _ _) (fun hS => ?_)
        generalize V3.drew = Vxb_ at *
        refine wpAnyH_take (i := 0) (oi := { dst := some 17, op := Op.load 46 (Operand.tmp 7), type := 46, pos := "ref.go:180", after := #[], guard := none }) (v := rV Z) rfl (by kernel_rfl) (by kernel_rfl) (by kernel_rfl) (fun _ _ _ h => h) (yieldsIf_load_mid (by rfl) 46 _ rfl g107 0 rfl (i16 Z) _ (fun _ h => (h107.still h).range) Tryd.underlying46 rfl (infoI _)) hS ?_
        (try simp only [Act.put, List.setIfInBounds_toArray, List.set_cons_zero, List.set_cons_succ])
        refine wpAnyH_take (i := 1) (oi := { dst := some 18, op := Op.load 46 (Operand.tmp 7), type := 46, pos := "ref.go:180", after := #[], guard := none }) (v := rV Z) rfl (by kernel_rfl) (by kernel_rfl) (by kernel_rfl) (fun _ _ _ h => h) (yieldsIf_load_mid (by rfl) 46 _ rfl g107 0 rfl (i16 Z) _ (fun _ h => (h107.still h).range) Tryd.underlying46 rfl (infoI _)) hS ?_
        (try simp only [Act.put, List.setIfInBounds_toArray, List.set_cons_zero, List.set_cons_succ])
        refine wpAnyH_take (i := 3) (oi := { dst := some 20, op := Op.load 46 (Operand.tmp 6), type := 46, pos := "ref.go:180", after := #[], guard := none }) (v := rV Q) rfl (by kernel_rfl) (by kernel_rfl) (by kernel_rfl) (fun _ _ _ h => h) (yieldsIf_load_mid (by rfl) 46 _ rfl g106 0 rfl (i16 Q) _ (fun _ h => (h106.still h).range) Tryd.underlying46 rfl (infoI _)) hS ?_
        (try simp only [Act.put, List.setIfInBounds_toArray, List.set_cons_zero, List.set_cons_succ])
        refine wpAnyH_ready (rs := [2]) (by kernel_rfl) (by simp) ?_
        refine AllReadyH.cons (o := qxbx2) rfl (fun K hK => ?_) (AllReadyH.nil)
        unfold qxbx2
        go_simp
        (go_at_call 32; refine (kT _).mono ?_; clear kT; rintro e wxb_1 ⟨R1, rfl, hR1, hbxb_1⟩; replace kS1 := kS1 R1 Q hR1 hQ)
        (try go_simp)
        have hSxb_1 := below_next hS hbxb_1
        refine hK.out _ _ hSxb_1 (fun h => ?_)
        clear h hK K hbxb_1
        (try simp only [Act.put, List.setIfInBounds_toArray, List.set_cons_zero, List.set_cons_succ])
        refine wpAnyH_ready (rs := [4]) (by kernel_rfl) (by simp) ?_
        refine AllReadyH.cons (o := qxbx4) rfl (fun K hK => ?_) (AllReadyH.nil)
        unfold qxbx4
        go_simp
        (go_at_call 36; refine (kS1 _).mono ?_; clear kS1; rintro e wxb_2 ⟨rfl, hbxb_2⟩)
        (try go_simp)
        have hSxb_2 := below_next hSxb_1 hbxb_2
        refine hK.out _ _ hSxb_2 (fun h => ?_)
        clear h hK K hbxb_2
        (try simp only [Act.put, List.setIfInBounds_toArray, List.set_cons_zero, List.set_cons_succ])
        refine wpAnyH_take (i := 5) (oi := { dst := some 22, op := Op.unOp UnOp.not 4 (Operand.tmp 21), type := 4, pos := "ref.go:180", after := #[{ on := 4, ground := Ground.data }], guard := none }) (v := ?vxb_3) rfl (by kernel_rfl) (by kernel_rfl) (by kernel_rfl) (fun _ _ _ h => h) (Or.inl ⟨by rfl, ?hxb_3⟩) hSxb_2 ?rxb_3
        case hxb_3 =>
          intro w hSw
          go_simp
          try with_reducible rfl
        (try simp only [Act.put, List.setIfInBounds_toArray, List.set_cons_zero, List.set_cons_succ])
        refine wpAnyH_take (i := 6) (oi := { dst := some 23, op := Op.move (Operand.tmp 22), type := 4, pos := "ref.go:180", after := #[{ on := 5, ground := Ground.data }, { on := 4, ground := Ground.chain }], guard := none }) (v := ?vxb_4) rfl (by kernel_rfl) (by kernel_rfl) (by kernel_rfl) (fun _ _ _ h => h) (Or.inl ⟨by rfl, ?hxb_4⟩) hSxb_2 ?rxb_4
        case hxb_4 =>
          intro w hSw
          go_simp
          try with_reducible rfl
        (try simp only [Act.put, List.setIfInBounds_toArray, List.set_cons_zero, List.set_cons_succ])
        refine wpAnyH_take (i := 7) (oi := { dst := some 24, op := Op.load 46 (Operand.tmp 3), type := 46, pos := "ref.go:180", after := #[{ on := 6, ground := Ground.guard }], guard := some (6, false) }) (v := rV V) rfl (by kernel_rfl) (by kernel_rfl) (by kernel_rfl) (fun _ _ _ h => h) (yieldsIf_load_mid (by rfl) 46 _ rfl g3 0 rfl (i16 V) _ (fun _ h => (hV.still h).range) Tryd.underlying46 rfl (infoI _)) hSxb_2 ?_
        (try simp only [Act.put, List.setIfInBounds_toArray, List.set_cons_zero, List.set_cons_succ])
        refine wpAnyH_ready (rs := [8]) (by kernel_rfl) (by simp) ?_
        refine AllReadyH.cons (o := qxbx8) rfl (fun K hK => ?_) (AllReadyH.nil)
        unfold qxbx8
        go_simp
        (go_at_call 37; refine (kO _).mono ?_; rintro e wxb_5 ⟨O1, rfl, hO1, hbxb_5⟩)
        (try go_simp)
        have hSxb_5 := below_next hSxb_2 hbxb_5
        refine hK.out _ _ hSxb_5 (fun h => ?_)
        clear h hK K hbxb_5
        (try simp only [Act.put, List.setIfInBounds_toArray, List.set_cons_zero, List.set_cons_succ])
        refine wpAnyH_ready (rs := [9]) (by kernel_rfl) (by simp) ?_
        refine AllReadyH.cons (o := qxbx9) rfl (fun K hK => ?_) (AllReadyH.nil)
        unfold qxbx9
        go_simp
        (go_at_call 36; refine (kS2 O1 hO1 _).mono ?_; clear kS2; rintro e wxb_6 ⟨rfl, hbxb_6⟩)
        (try go_simp)
        have hSxb_6 := below_next hSxb_5 hbxb_6
        refine hK.out _ _ hSxb_6 (fun h => ?_)
        clear h hK K hbxb_6
        (try simp only [Act.put, List.setIfInBounds_toArray, List.set_cons_zero, List.set_cons_succ])
        refine wpAnyH_take (i := 10) (oi := { dst := some 27, op := Op.move (Operand.tmp 26), type := 4, pos := "ref.go:180", after := #[{ on := 9, ground := Ground.data }, { on := 9, ground := Ground.chain }, { on := 6, ground := Ground.guard }], guard := some (6, false) }) (v := ?vxb_7) rfl (by kernel_rfl) (by kernel_rfl) (by kernel_rfl) (fun _ _ _ h => h) (Or.inl ⟨by rfl, ?hxb_7⟩) hSxb_6 ?rxb_7
        case hxb_7 =>
          intro w hSw
          go_simp
          try with_reducible rfl
        (try simp only [Act.put, List.setIfInBounds_toArray, List.set_cons_zero, List.set_cons_succ])
        refine wpAnyH_take (i := 11) (oi := { dst := some 28, op := Op.load 46 (Operand.tmp 2), type := 46, pos := "ref.go:180", after := #[{ on := 10, ground := Ground.guard }], guard := some (10, true) }) (v := undef) rfl (by kernel_rfl) (by kernel_rfl) (by kernel_rfl) (fun _ _ _ h => h) (Or.inr ⟨by rfl, rfl⟩) hSxb_6 ?_
        (try simp only [Act.put, List.setIfInBounds_toArray, List.set_cons_zero, List.set_cons_succ])
        refine wpAnyH_take (i := 12) (oi := { dst := some 29, op := Op.call { callee := Callee.value (Operand.func 37), args := #[Operand.const (Value.int IntKind.i64 0)], argTypes := #[3] }, type := 46, pos := "ref.go:180", after := #[{ on := 10, ground := Ground.chain }, { on := 10, ground := Ground.guard }], guard := some (10, true) }) (v := undef) rfl (by kernel_rfl) (by kernel_rfl) (by kernel_rfl) (fun _ _ _ h => h) (Or.inr ⟨by rfl, rfl⟩) hSxb_6 ?_
        (try simp only [Act.put, List.setIfInBounds_toArray, List.set_cons_zero, List.set_cons_succ])
        refine wpAnyH_take (i := 13) (oi := { dst := some 30, op := Op.call { callee := Callee.value (Operand.func 36), args := #[Operand.tmp 28, Operand.tmp 29], argTypes := #[46, 46] }, type := 4, pos := "ref.go:180", after := #[{ on := 11, ground := Ground.data }, { on := 12, ground := Ground.data }, { on := 12, ground := Ground.chain }, { on := 10, ground := Ground.guard }], guard := some (10, true) }) (v := undef) rfl (by kernel_rfl) (by kernel_rfl) (by kernel_rfl) (fun _ _ _ h => h) (Or.inr ⟨by rfl, rfl⟩) hSxb_6 ?_
        (try simp only [Act.put, List.setIfInBounds_toArray, List.set_cons_zero, List.set_cons_succ])
        refine wpAnyH_take (i := 14) (oi := { dst := some 31, op := Op.unOp UnOp.not 4 (Operand.tmp 30), type := 4, pos := "ref.go:180", after := #[{ on := 13, ground := Ground.data }, { on := 10, ground := Ground.guard }], guard := some (10, true) }) (v := undef) rfl (by kernel_rfl) (by kernel_rfl) (by kernel_rfl) (fun _ _ _ h => h) (Or.inr ⟨by rfl, rfl⟩) hSxb_6 ?_
        (try simp only [Act.put, List.setIfInBounds_toArray, List.set_cons_zero, List.set_cons_succ])
        refine wpAnyH_take (i := 15) (oi := { dst := some 32, op := Op.pick (Operand.tmp 27) (Operand.tmp 31) (Operand.const (Value.bool false)), type := 4, pos := "ref.go:180", after := #[{ on := 10, ground := Ground.data }, { on := 14, ground := Ground.data }, { on := 6, ground := Ground.guard }], guard := some (6, false) }) (v := ?vxb_8) rfl (by kernel_rfl) (by kernel_rfl) (by kernel_rfl) (fun _ _ _ h => h) (Or.inl ⟨by rfl, ?hxb_8⟩) hSxb_6 ?rxb_8
        case hxb_8 =>
          intro w hSw
          go_simp
          try with_reducible rfl
        (try simp only [Act.put, List.setIfInBounds_toArray, List.set_cons_zero, List.set_cons_succ])
        refine wpAnyH_take (i := 16) (oi := { dst := some 33, op := Op.pick (Operand.tmp 23) (Operand.const (Value.bool true)) (Operand.tmp 32), type := 4, pos := "ref.go:180", after := #[{ on := 6, ground := Ground.data }, { on := 15, ground := Ground.data }], guard := none }) (v := ?vxb_9) rfl (by kernel_rfl) (by kernel_rfl) (by kernel_rfl) (fun _ _ _ h => h) (Or.inl ⟨by rfl, ?hxb_9⟩) hSxb_6 ?rxb_9
        case hxb_9 =>
          intro w hSw
          go_simp
          try with_reducible rfl
        (try simp only [Act.put, List.setIfInBounds_toArray, List.set_cons_zero, List.set_cons_succ])
        refine wpAnyH_done (by kernel_rfl) ?_ _
        refine NoPanic.normal ?_
        go_wp2
        go_meet
        case rel => exact ⟨by rw [Hok.out]; rfl, below_next hdrew hSxb_6⟩
      | true =>
        cases b3 with
        | false =>
          have hdrew : Below V3.heap.size V3 V3.drew := (Below.refl _ _).drew
          replace hU := hU.still hdrew
          replace hV := hV.still hdrew
          replace h106 := h106.still hdrew
          replace h107 := h107.still hdrew
          refine wp_region_noPanic ?_
          refine wp_region_held_drew (S := fun w' => Below V3.drew.heap.size V3.drew w') (by kernel_rfl) (Below.refl _ _) (fun hS => ?_)
          generalize V3.drew = Vxc_ at *
          refine wpAnyH_take (i := 0) (oi := { dst := some 17, op := Op.load 46 (Operand.tmp 7), type := 46, pos := "ref.go:180", after := #[], guard := none }) (v := rV Z) rfl (by kernel_rfl) (by kernel_rfl) (by kernel_rfl) (fun _ _ _ h => h) (yieldsIf_load_mid (by rfl) 46 _ rfl g107 0 rfl (i16 Z) _ (fun _ h => (h107.still h).range) Tryd.underlying46 rfl (infoI _)) hS ?_
          (try simp only [Act.put, List.setIfInBounds_toArray, List.set_cons_zero, List.set_cons_succ])
          refine wpAnyH_take (i := 1) (oi := { dst := some 18, op := Op.load 46 (Operand.tmp 7), type := 46, pos := "ref.go:180", after := #[], guard := none }) (v := rV Z) rfl (by kernel_rfl) (by kernel_rfl) (by kernel_rfl) (fun _ _ _ h => h) (yieldsIf_load_mid (by rfl) 46 _ rfl g107 0 rfl (i16 Z) _ (fun _ h => (h107.still h).range) Tryd.underlying46 rfl (infoI _)) hS ?_
          (try simp only [Act.put, List.setIfInBounds_toArray, List.set_cons_zero, List.set_cons_succ])
          refine wpAnyH_take (i := 3) (oi := { dst := some 20, op := Op.load 46 (Operand.tmp 6), type := 46, pos := "ref.go:180", after := #[], guard := none }) (v := rV Q) rfl (by kernel_rfl) (by kernel_rfl) (by kernel_rfl) (fun _ _ _ h => h) (yieldsIf_load_mid (by rfl) 46 _ rfl g106 0 rfl (i16 Q) _ (fun _ h => (h106.still h).range) Tryd.underlying46 rfl (infoI _)) hS ?_
          (try simp only [Act.put, List.setIfInBounds_toArray, List.set_cons_zero, List.set_cons_succ])
          refine wpAnyH_ready (rs := [2]) (by kernel_rfl) (by simp) ?_
          refine AllReadyH.cons (o := qxcx2) rfl (fun K hK => ?_) (AllReadyH.nil)
          unfold qxcx2
          go_simp
          (go_at_call 32; refine (kT _).mono ?_; clear kT; rintro e wxc_1 ⟨R1, rfl, hR1, hbxc_1⟩; replace kS1 := kS1 R1 Q hR1 hQ)
          (try go_simp)
          have hSxc_1 := below_next hS hbxc_1
          refine hK.out _ _ hSxc_1 (fun h => ?_)
          clear h hK K hbxc_1
          (try simp only [Act.put, List.setIfInBounds_toArray, List.set_cons_zero, List.set_cons_succ])
          refine wpAnyH_ready (rs := [4]) (by kernel_rfl) (by simp) ?_
          refine AllReadyH.cons (o := qxcx4) rfl (fun K hK => ?_) (AllReadyH.nil)
          unfold qxcx4
          go_simp
          (go_at_call 36; refine (kS1 _).mono ?_; clear kS1; rintro e wxc_2 ⟨rfl, hbxc_2⟩)
          (try go_simp)
          have hSxc_2 := below_next hSxc_1 hbxc_2
          refine hK.out _ _ hSxc_2 (fun h => ?_)
          clear h hK K hbxc_2
          (try simp only [Act.put, List.setIfInBounds_toArray, List.set_cons_zero, List.set_cons_succ])
          refine wpAnyH_take (i := 5) (oi := { dst := some 22, op := Op.unOp UnOp.not 4 (Operand.tmp 21), type := 4, pos := "ref.go:180", after := #[{ on := 4, ground := Ground.data }], guard := none }) (v := ?vxc_3) rfl (by kernel_rfl) (by kernel_rfl) (by kernel_rfl) (fun _ _ _ h => h) (Or.inl ⟨by rfl, ?hxc_3⟩) hSxc_2 ?rxc_3
          case hxc_3 =>
            intro w hSw
            go_simp
            try with_reducible rfl
          (try simp only [Act.put, List.setIfInBounds_toArray, List.set_cons_zero, List.set_cons_succ])
          refine wpAnyH_take (i := 6) (oi := { dst := some 23, op := Op.move (Operand.tmp 22), type := 4, pos := "ref.go:180", after := #[{ on := 5, ground := Ground.data }, { on := 4, ground := Ground.chain }], guard := none }) (v := ?vxc_4) rfl (by kernel_rfl) (by kernel_rfl) (by kernel_rfl) (fun _ _ _ h => h) (Or.inl ⟨by rfl, ?hxc_4⟩) hSxc_2 ?rxc_4
          case hxc_4 =>
            intro w hSw
            go_simp
            try with_reducible rfl
          (try simp only [Act.put, List.setIfInBounds_toArray, List.set_cons_zero, List.set_cons_succ])
          refine wpAnyH_take (i := 7) (oi := { dst := some 24, op := Op.load 46 (Operand.tmp 3), type := 46, pos := "ref.go:180", after := #[{ on := 6, ground := Ground.guard }], guard := some (6, false) }) (v := rV V) rfl (by kernel_rfl) (by kernel_rfl) (by kernel_rfl) (fun _ _ _ h => h) (yieldsIf_load_mid (by rfl) 46 _ rfl g3 0 rfl (i16 V) _ (fun _ h => (hV.still h).range) Tryd.underlying46 rfl (infoI _)) hSxc_2 ?_
          (try simp only [Act.put, List.setIfInBounds_toArray, List.set_cons_zero, List.set_cons_succ])
          refine wpAnyH_ready (rs := [8]) (by kernel_rfl) (by simp) ?_
          refine AllReadyH.cons (o := qxcx8) rfl (fun K hK => ?_) (AllReadyH.nil)
          unfold qxcx8
          go_simp
          (go_at_call 37; refine (kO _).mono ?_; rintro e wxc_5 ⟨O1, rfl, hO1, hbxc_5⟩)
          (try go_simp)
          have hSxc_5 := below_next hSxc_2 hbxc_5
          refine hK.out _ _ hSxc_5 (fun h => ?_)
          clear h hK K hbxc_5
          (try simp only [Act.put, List.setIfInBounds_toArray, List.set_cons_zero, List.set_cons_succ])
          refine wpAnyH_ready (rs := [9]) (by kernel_rfl) (by simp) ?_
          refine AllReadyH.cons (o := qxcx9) rfl (fun K hK => ?_) (AllReadyH.nil)
          unfold qxcx9
          go_simp
          (go_at_call 36; refine (kS2 O1 hO1 _).mono ?_; clear kS2; rintro e wxc_6 ⟨rfl, hbxc_6⟩)
          (try go_simp)
          have hSxc_6 := below_next hSxc_5 hbxc_6
          refine hK.out _ _ hSxc_6 (fun h => ?_)
          clear h hK K hbxc_6
          (try simp only [Act.put, List.setIfInBounds_toArray, List.set_cons_zero, List.set_cons_succ])
          refine wpAnyH_take (i := 10) (oi := { dst := some 27, op := Op.move (Operand.tmp 26), type := 4, pos := "ref.go:180", after := #[{ on := 9, ground := Ground.data }, { on := 9, ground := Ground.chain }, { on := 6, ground := Ground.guard }], guard := some (6, false) }) (v := ?vxc_7) rfl (by kernel_rfl) (by kernel_rfl) (by kernel_rfl) (fun _ _ _ h => h) (Or.inl ⟨by rfl, ?hxc_7⟩) hSxc_6 ?rxc_7
          case hxc_7 =>
            intro w hSw
            go_simp
            try with_reducible rfl
          (try simp only [Act.put, List.setIfInBounds_toArray, List.set_cons_zero, List.set_cons_succ])
          refine wpAnyH_take (i := 11) (oi := { dst := some 28, op := Op.load 46 (Operand.tmp 2), type := 46, pos := "ref.go:180", after := #[{ on := 10, ground := Ground.guard }], guard := some (10, true) }) (v := rV U) rfl (by kernel_rfl) (by kernel_rfl) (by kernel_rfl) (fun _ _ _ h => h) (yieldsIf_load_mid (by rfl) 46 _ rfl g2 0 rfl (i16 U) _ (fun _ h => (hU.still h).range) Tryd.underlying46 rfl (infoI _)) hSxc_6 ?_
          (try simp only [Act.put, List.setIfInBounds_toArray, List.set_cons_zero, List.set_cons_succ])
          refine wpAnyH_ready (rs := [12]) (by kernel_rfl) (by simp) ?_
          refine AllReadyH.cons (o := qxcx12) rfl (fun K hK => ?_) (AllReadyH.nil)
          unfold qxcx12
          go_simp
          (go_at_call 37; refine (kO _).mono ?_; rintro e wxc_8 ⟨O2, rfl, hO2, hbxc_8⟩)
          (try go_simp)
          have hSxc_8 := below_next hSxc_6 hbxc_8
          refine hK.out _ _ hSxc_8 (fun h => ?_)
          clear h hK K hbxc_8
          (try simp only [Act.put, List.setIfInBounds_toArray, List.set_cons_zero, List.set_cons_succ])
          refine wpAnyH_ready (rs := [13]) (by kernel_rfl) (by simp) ?_
          refine AllReadyH.cons (o := qxcx13) rfl (fun K hK => ?_) (AllReadyH.nil)
          unfold qxcx13
          go_simp
          (go_at_call 36; refine (kS3 O2 hO2 _).mono ?_; clear kS3; rintro e wxc_9 ⟨rfl, hbxc_9⟩)
          (try go_simp)
          have hSxc_9 := below_next hSxc_8 hbxc_9
          refine hK.out _ _ hSxc_9 (fun h => ?_)
          clear h hK K hbxc_9
          (try simp only [Act.put, List.setIfInBounds_toArray, List.set_cons_zero, List.set_cons_succ])
          refine wpAnyH_take (i := 14) (oi := { dst := some 31, op := Op.unOp UnOp.not 4 (Operand.tmp 30), type := 4, pos := "ref.go:180", after := #[{ on := 13, ground := Ground.data }, { on := 10, ground := Ground.guard }], guard := some (10, true) }) (v := ?vxc_10) rfl (by kernel_rfl) (by kernel_rfl) (by kernel_rfl) (fun _ _ _ h => h) (Or.inl ⟨by rfl, ?hxc_10⟩) hSxc_9 ?rxc_10
          case hxc_10 =>
            intro w hSw
            go_simp
            try with_reducible rfl
          (try simp only [Act.put, List.setIfInBounds_toArray, List.set_cons_zero, List.set_cons_succ])
          refine wpAnyH_take (i := 15) (oi := { dst := some 32, op := Op.pick (Operand.tmp 27) (Operand.tmp 31) (Operand.const (Value.bool false)), type := 4, pos := "ref.go:180", after := #[{ on := 10, ground := Ground.data }, { on := 14, ground := Ground.data }, { on := 6, ground := Ground.guard }], guard := some (6, false) }) (v := ?vxc_11) rfl (by kernel_rfl) (by kernel_rfl) (by kernel_rfl) (fun _ _ _ h => h) (Or.inl ⟨by rfl, ?hxc_11⟩) hSxc_9 ?rxc_11
          case hxc_11 =>
            intro w hSw
            go_simp
            try with_reducible rfl
          (try simp only [Act.put, List.setIfInBounds_toArray, List.set_cons_zero, List.set_cons_succ])
          refine wpAnyH_take (i := 16) (oi := { dst := some 33, op := Op.pick (Operand.tmp 23) (Operand.const (Value.bool true)) (Operand.tmp 32), type := 4, pos := "ref.go:180", after := #[{ on := 6, ground := Ground.data }, { on := 15, ground := Ground.data }], guard := none }) (v := ?vxc_12) rfl (by kernel_rfl) (by kernel_rfl) (by kernel_rfl) (fun _ _ _ h => h) (Or.inl ⟨by rfl, ?hxc_12⟩) hSxc_9 ?rxc_12
          case hxc_12 =>
            intro w hSw
            go_simp
            try with_reducible rfl
          (try simp only [Act.put, List.setIfInBounds_toArray, List.set_cons_zero, List.set_cons_succ])
          refine wpAnyH_done (by kernel_rfl) ?_ _
          refine NoPanic.normal ?_
          go_wp2
          go_meet
          case rel => exact ⟨by rw [Hok.out]; rfl, below_next hdrew hSxc_9⟩
        | true =>
          have hdrew : Below V3.heap.size V3 V3.drew := (Below.refl _ _).drew
          replace hU := hU.still hdrew
          replace hV := hV.still hdrew
          replace h106 := h106.still hdrew
          replace h107 := h107.still hdrew
          refine wp_region_noPanic ?_
          refine wp_region_held_drew (S := fun w' => Below V3.drew.heap.size V3.drew w') (by kernel_rfl) (Below.refl _ _) (fun hS => ?_)
          generalize V3.drew = Vxd_ at *
          refine wpAnyH_take (i := 0) (oi := { dst := some 17, op := Op.load 46 (Operand.tmp 7), type := 46, pos := "ref.go:180", after := #[], guard := none }) (v := rV Z) rfl (by kernel_rfl) (by kernel_rfl) (by kernel_rfl) (fun _ _ _ h => h) (yieldsIf_load_mid (by rfl) 46 _ rfl g107 0 rfl (i16 Z) _ (fun _ h => (h107.still h).range) Tryd.underlying46 rfl (infoI _)) hS ?_
          (try simp only [Act.put, List.setIfInBounds_toArray, List.set_cons_zero, List.set_cons_succ])
          refine wpAnyH_take (i := 1) (oi := { dst := some 18, op := Op.load 46 (Operand.tmp 7), type := 46, pos := "ref.go:180", after := #[], guard := none }) (v := rV Z) rfl (by kernel_rfl) (by kernel_rfl) (by kernel_rfl) (fun _ _ _ h => h) (yieldsIf_load_mid (by rfl) 46 _ rfl g107 0 rfl (i16 Z) _ (fun _ h => (h107.still h).range) Tryd.underlying46 rfl (infoI _)) hS ?_
          (try simp only [Act.put, List.setIfInBounds_toArray, List.set_cons_zero, List.set_cons_succ])
          refine wpAnyH_take (i := 3) (oi := { dst := some 20, op := Op.load 46 (Operand.tmp 6), type := 46, pos := "ref.go:180", after := #[], guard := none }) (v := rV Q) rfl (by kernel_rfl) (by kernel_rfl) (by kernel_rfl) (fun _ _ _ h => h) (yieldsIf_load_mid (by rfl) 46 _ rfl g106 0 rfl (i16 Q) _ (fun _ h => (h106.still h).range) Tryd.underlying46 rfl (infoI _)) hS ?_
          (try simp only [Act.put, List.setIfInBounds_toArray, List.set_cons_zero, List.set_cons_succ])
          refine wpAnyH_ready (rs := [2]) (by kernel_rfl) (by simp) ?_
          refine AllReadyH.cons (o := qxdx2) rfl (fun K hK => ?_) (AllReadyH.nil)
          unfold qxdx2
          go_simp
          (go_at_call 32; refine (kT _).mono ?_; clear kT; rintro e wxd_1 ⟨R1, rfl, hR1, hbxd_1⟩; replace kS1 := kS1 R1 Q hR1 hQ)
          (try go_simp)
          have hSxd_1 := below_next hS hbxd_1
          refine hK.out _ _ hSxd_1 (fun h => ?_)
          clear h hK K hbxd_1
          (try simp only [Act.put, List.setIfInBounds_toArray, List.set_cons_zero, List.set_cons_succ])
          refine wpAnyH_ready (rs := [4]) (by kernel_rfl) (by simp) ?_
          refine AllReadyH.cons (o := qxdx4) rfl (fun K hK => ?_) (AllReadyH.nil)
          unfold qxdx4
          go_simp
          (go_at_call 36; refine (kS1 _).mono ?_; clear kS1; rintro e wxd_2 ⟨rfl, hbxd_2⟩)
          (try go_simp)
          have hSxd_2 := below_next hSxd_1 hbxd_2
          refine hK.out _ _ hSxd_2 (fun h => ?_)
          clear h hK K hbxd_2
          (try simp only [Act.put, List.setIfInBounds_toArray, List.set_cons_zero, List.set_cons_succ])
          refine wpAnyH_take (i := 5) (oi := { dst := some 22, op := Op.unOp UnOp.not 4 (Operand.tmp 21), type := 4, pos := "ref.go:180", after := #[{ on := 4, ground := Ground.data }], guard := none }) (v := ?vxd_3) rfl (by kernel_rfl) (by kernel_rfl) (by kernel_rfl) (fun _ _ _ h => h) (Or.inl ⟨by rfl, ?hxd_3⟩) hSxd_2 ?rxd_3
          case hxd_3 =>
            intro w hSw
            go_simp
            try with_reducible rfl
          (try simp only [Act.put, List.setIfInBounds_toArray, List.set_cons_zero, List.set_cons_succ])
          refine wpAnyH_take (i := 6) (oi := { dst := some 23, op := Op.move (Operand.tmp 22), type := 4, pos := "ref.go:180", after := #[{ on := 5, ground := Ground.data }, { on := 4, ground := Ground.chain }], guard := none }) (v := ?vxd_4) rfl (by kernel_rfl) (by kernel_rfl) (by kernel_rfl) (fun _ _ _ h => h) (Or.inl ⟨by rfl, ?hxd_4⟩) hSxd_2 ?rxd_4
          case hxd_4 =>
            intro w hSw
            go_simp
            try with_reducible rfl
          (try simp only [Act.put, List.setIfInBounds_toArray, List.set_cons_zero, List.set_cons_succ])
          refine wpAnyH_take (i := 7) (oi := { dst := some 24, op := Op.load 46 (Operand.tmp 3), type := 46, pos := "ref.go:180", after := #[{ on := 6, ground := Ground.guard }], guard := some (6, false) }) (v := rV V) rfl (by kernel_rfl) (by kernel_rfl) (by kernel_rfl) (fun _ _ _ h => h) (yieldsIf_load_mid (by rfl) 46 _ rfl g3 0 rfl (i16 V) _ (fun _ h => (hV.still h).range) Tryd.underlying46 rfl (infoI _)) hSxd_2 ?_
          (try simp only [Act.put, List.setIfInBounds_toArray, List.set_cons_zero, List.set_cons_succ])
          refine wpAnyH_ready (rs := [8]) (by kernel_rfl) (by simp) ?_
          refine AllReadyH.cons (o := qxdx8) rfl (fun K hK => ?_) (AllReadyH.nil)
          unfold qxdx8
          go_simp
          (go_at_call 37; refine (kO _).mono ?_; rintro e wxd_5 ⟨O1, rfl, hO1, hbxd_5⟩)
          (try go_simp)
          have hSxd_5 := below_next hSxd_2 hbxd_5
          refine hK.out _ _ hSxd_5 (fun h => ?_)
          clear h hK K hbxd_5
          (try simp only [Act.put, List.setIfInBounds_toArray, List.set_cons_zero, List.set_cons_succ])
          refine wpAnyH_ready (rs := [9]) (by kernel_rfl) (by simp) ?_
          refine AllReadyH.cons (o := qxdx9) rfl (fun K hK => ?_) (AllReadyH.nil)
          unfold qxdx9
          go_simp
          (go_at_call 36; refine (kS2 O1 hO1 _).mono ?_; clear kS2; rintro e wxd_6 ⟨rfl, hbxd_6⟩)
          (try go_simp)
          have hSxd_6 := below_next hSxd_5 hbxd_6
          refine hK.out _ _ hSxd_6 (fun h => ?_)
          clear h hK K hbxd_6
          (try simp only [Act.put, List.setIfInBounds_toArray, List.set_cons_zero, List.set_cons_succ])
          refine wpAnyH_take (i := 10) (oi := { dst := some 27, op := Op.move (Operand.tmp 26), type := 4, pos := "ref.go:180", after := #[{ on := 9, ground := Ground.data }, { on := 9, ground := Ground.chain }, { on := 6, ground := Ground.guard }], guard := some (6, false) }) (v := ?vxd_7) rfl (by kernel_rfl) (by kernel_rfl) (by kernel_rfl) (fun _ _ _ h => h) (Or.inl ⟨by rfl, ?hxd_7⟩) hSxd_6 ?rxd_7
          case hxd_7 =>
            intro w hSw
            go_simp
            try with_reducible rfl
          (try simp only [Act.put, List.setIfInBounds_toArray, List.set_cons_zero, List.set_cons_succ])
          refine wpAnyH_take (i := 11) (oi := { dst := some 28, op := Op.load 46 (Operand.tmp 2), type := 46, pos := "ref.go:180", after := #[{ on := 10, ground := Ground.guard }], guard := some (10, true) }) (v := rV U) rfl (by kernel_rfl) (by kernel_rfl) (by kernel_rfl) (fun _ _ _ h => h) (yieldsIf_load_mid (by rfl) 46 _ rfl g2 0 rfl (i16 U) _ (fun _ h => (hU.still h).range) Tryd.underlying46 rfl (infoI _)) hSxd_6 ?_
          (try simp only [Act.put, List.setIfInBounds_toArray, List.set_cons_zero, List.set_cons_succ])
          refine wpAnyH_ready (rs := [12]) (by kernel_rfl) (by simp) ?_
          refine AllReadyH.cons (o := qxdx12) rfl (fun K hK => ?_) (AllReadyH.nil)
          unfold qxdx12
          go_simp
          (go_at_call 37; refine (kO _).mono ?_; rintro e wxd_8 ⟨O2, rfl, hO2, hbxd_8⟩)
          (try go_simp)
          have hSxd_8 := below_next hSxd_6 hbxd_8
          refine hK.out _ _ hSxd_8 (fun h => ?_)
          clear h hK K hbxd_8
          (try simp only [Act.put, List.setIfInBounds_toArray, List.set_cons_zero, List.set_cons_succ])
          refine wpAnyH_ready (rs := [13]) (by kernel_rfl) (by simp) ?_
          refine AllReadyH.cons (o := qxdx13) rfl (fun K hK => ?_) (AllReadyH.nil)
          unfold qxdx13
          go_simp
          (go_at_call 36; refine (kS3 O2 hO2 _).mono ?_; clear kS3; rintro e wxd_9 ⟨rfl, hbxd_9⟩)
          (try go_simp)
          have hSxd_9 := below_next hSxd_8 hbxd_9
          refine hK.out _ _ hSxd_9 (fun h => ?_)
          clear h hK K hbxd_9
          (try simp only [Act.put, List.setIfInBounds_toArray, List.set_cons_zero, List.set_cons_succ])
          refine wpAnyH_take (i := 14) (oi := { dst := some 31, op := Op.unOp UnOp.not 4 (Operand.tmp 30), type := 4, pos := "ref.go:180", after := #[{ on := 13, ground := Ground.data }, { on := 10, ground := Ground.guard }], guard := some (10, true) }) (v := ?vxd_10) rfl (by kernel_rfl) (by kernel_rfl) (by kernel_rfl) (fun _ _ _ h => h) (Or.inl ⟨by rfl, ?hxd_10⟩) hSxd_9 ?rxd_10
          case hxd_10 =>
            intro w hSw
            go_simp
            try with_reducible rfl
          (try simp only [Act.put, List.setIfInBounds_toArray, List.set_cons_zero, List.set_cons_succ])
          refine wpAnyH_take (i := 15) (oi := { dst := some 32, op := Op.pick (Operand.tmp 27) (Operand.tmp 31) (Operand.const (Value.bool false)), type := 4, pos := "ref.go:180", after := #[{ on := 10, ground := Ground.data }, { on := 14, ground := Ground.data }, { on := 6, ground := Ground.guard }], guard := some (6, false) }) (v := ?vxd_11) rfl (by kernel_rfl) (by kernel_rfl) (by kernel_rfl) (fun _ _ _ h => h) (Or.inl ⟨by rfl, ?hxd_11⟩) hSxd_9 ?rxd_11
          case hxd_11 =>
            intro w hSw
            go_simp
            try with_reducible rfl
          (try simp only [Act.put, List.setIfInBounds_toArray, List.set_cons_zero, List.set_cons_succ])
          refine wpAnyH_take (i := 16) (oi := { dst := some 33, op := Op.pick (Operand.tmp 23) (Operand.const (Value.bool true)) (Operand.tmp 32), type := 4, pos := "ref.go:180", after := #[{ on := 6, ground := Ground.data }, { on := 15, ground := Ground.data }], guard := none }) (v := ?vxd_12) rfl (by kernel_rfl) (by kernel_rfl) (by kernel_rfl) (fun _ _ _ h => h) (Or.inl ⟨by rfl, ?hxd_12⟩) hSxd_9 ?rxd_12
          case hxd_12 =>
            intro w hSw
            go_simp
            try with_reducible rfl
          (try simp only [Act.put, List.setIfInBounds_toArray, List.set_cons_zero, List.set_cons_succ])
          refine wpAnyH_done (by kernel_rfl) ?_ _
          refine NoPanic.normal ?_
          go_wp2
          go_meet
          case rel => exact ⟨by rw [Hok.out]; rfl, below_next hdrew hSxd_9⟩
  case rest =>
  obtain ⟨rfl, hb5⟩ := hcut
  replace h107 := h107.still hb5
  replace h4 := h4.still hb5
  replace hbW := below_next hbW hb5
  clear hb5 hU hV h106 kT kS1 kS2 kS3 hQ Hok
  cases ok with
  | false =>
    have Hr : Hid (res = 0) := Hid.mk' (by rw [Hres.out]; rfl)
    clear Hres
    go_wp2_with (first
      | (go_at_call 37; refine (kO _).mono ?_; clear kO; rintro e w6 ⟨O, rfl, hO, hb6⟩; (replace h4 := h4.still hb6); (replace hbW := below_next hbW hb6); (have t4 : w6.there g4 0 (i16 O).toArray.size := by have := h4.there; rw [i16_len] at this; rw [List.size_toArray, i16_len]; exact this))
      | (with_reducible (refine id (?_ : wpList _ _ _ _ _ _)); refine wpList_store_mid rfl 46 _ _ rfl g4 0 (i16 O).toArray rfl rfl t4 (infoIA O) (oneI O) ?_))
    (try simp only [Exit.inBlock, Exit.then])
    exact bodyPost_ret (results_cell_tmp Tryd.results20 _ _ g4 0 (i16 O) _ rfl (h4.stored (i16 O) (by rw [i16_len, i16_len])).range Tryd.underlying46 rfl (infoI _)) rfl ⟨O, rfl, by rw [Hr.out]; exact hO.wide, below_setCells w4 _ _ _ hbW⟩
  | true =>
    replace kB := kB Z hZ
    cases hpar : (zc % 2 == 1) with
    | false =>
      have Hr : Hid (res = z) := Hid.mk' (by rw [Hres.out, if_pos rfl, if_neg (by simpa using hpar)])
      have hrem := rem2_even hpar
      clear Hres hpar kM kO
      go_wp2_with (first
        | (refine wpList_load_mid rfl 46 _ rfl g107 0 rfl (i16 Z) _ h107.range Tryd.underlying46 rfl (infoI _) ?_)
        | (go_at_call 22; refine (kB _).mono ?_; clear kB; rintro e w6 ⟨s6, rfl, hs6, hb6⟩; (replace h4 := h4.still hb6); (replace h107 := h107.still hb6); (replace hbW := below_next hbW hb6); clear hb6; (obtain ⟨bb, ob, cap, hsl, hl, hcap, hc⟩ : ∃ bb ob cap, s6 = .slice (some ⟨bb, ob, none⟩) 32 cap ∧ bb < w6.heap.size ∧ 32 ≤ cap ∧ ∀ j, j < 32 → w6.cell? ⟨bb, ob + j, none⟩ = some (.int .u8 (byt zc j)) := hs6.resolve_left (fun ⟨_, _, h⟩ => by omega)); subst hsl; clear hs6; (have cc := hc 0 (by decide)); rw [Nat.add_zero] at cc; clear hc; (have t4 : w6.there g4 0 (i16 Z).toArray.size := by have := h4.there; rw [i16_len] at this; rw [List.size_toArray, i16_len]; exact this))
        | (with_reducible (refine id (?_ : wpList _ _ _ _ _ _)); refine wpList_store_mid rfl 46 _ _ rfl g4 0 (i16 Z).toArray rfl rfl t4 (infoIA Z) (oneI Z) ?_))
      (try simp only [Exit.inBlock, Exit.then])
      exact bodyPost_ret (results_cell_tmp Tryd.results20 _ _ g4 0 (i16 Z) _ rfl (h4.stored (i16 Z) (by rw [i16_len, i16_len])).range Tryd.underlying46 rfl (infoI _)) rfl ⟨Z, rfl, by rw [Hr.out]; exact hZ.wide, below_setCells w4 _ _ _ hbW⟩
    | true =>
      have Hr : Hid (res = nz) := Hid.mk' (by rw [Hres.out, if_pos rfl, if_pos (by simpa using hpar)])
      have hrem := rem2_odd hpar
      clear Hres hpar
      go_upto_region 7 with (first
        | (refine wpList_load_mid rfl 46 _ rfl g107 0 rfl (i16 Z) _ h107.range Tryd.underlying46 rfl (infoI _) ?_)
        | (go_at_call 22; refine (kB _).mono ?_; clear kB; rintro e w6 ⟨s6, rfl, hs6, hb6⟩; (replace h4 := h4.still hb6); (replace h107 := h107.still hb6); (replace hbW := below_next hbW hb6); clear hb6; (obtain ⟨bb, ob, cap, hsl, hl, hcap, hc⟩ : ∃ bb ob cap, s6 = .slice (some ⟨bb, ob, none⟩) 32 cap ∧ bb < w6.heap.size ∧ 32 ≤ cap ∧ ∀ j, j < 32 → w6.cell? ⟨bb, ob + j, none⟩ = some (.int .u8 (byt zc j)) := hs6.resolve_left (fun ⟨_, _, h⟩ => by omega)); subst hsl; clear hs6; (have cc := hc 0 (by decide)); rw [Nat.add_zero] at cc; clear hc))
      (try simp only [Act.put, List.setIfInBounds_toArray, List.set_cons_zero, List.set_cons_succ])
      clear hrem cc hcap hl
      have kM' := fun O hO => kM O Z hO hZ
      clear kM
      have hdrew : Below w6.heap.size w6 w6.drew := (Below.refl _ _).drew
      replace hbW := below_next hbW hdrew
      replace h4 := h4.still hdrew
      replace h107 := h107.still hdrew
      refine wp_region_noPanic ?_
      refine wp_region_held_drew (S := fun _ => True) (by kernel_rfl) trivial (fun _ => ?_)
      generalize w6.drew = Vxe_ at *
      refine wpAnyH_ready (rs := [0, 1]) (by kernel_rfl) (by simp) ?_
      refine AllReadyH.cons (o := { dst := some 41, op := Op.call { callee := Callee.value (Operand.func 37), args := #[Operand.const (Value.int IntKind.i64 0)], argTypes := #[3] }, type := 46, pos := "ref.go:184", after := #[], guard := none }) rfl (fun K hK => ?_) (AllReadyH.cons (o := { dst := some 42, op := Op.load 46 (Operand.tmp 7), type := 46, pos := "ref.go:184", after := #[], guard := none }) rfl (fun K hK => ?_) (AllReadyH.nil))
      · go_simp
        (go_at_call 37; refine (kO _).mono ?_; clear kO; rintro e wxe_1 ⟨O, rfl, hO, hbS⟩; (replace h4 := h4.still hbS); (replace h107 := h107.still hbS); (replace hbW := below_next hbW hbS); clear hbS)
        (try go_simp)
        refine hK.out _ _ trivial (fun h => ?_)
        clear h hK K
        (try simp only [Act.put, List.setIfInBounds_toArray, List.set_cons_zero, List.set_cons_succ])
        refine wpAnyH_ready (rs := [1]) (by kernel_rfl) (by simp) ?_
        refine AllReadyH.cons (o := { dst := some 42, op := Op.load 46 (Operand.tmp 7), type := 46, pos := "ref.go:184", after := #[], guard := none }) rfl (fun K hK => ?_) (AllReadyH.nil)
        rw [if_pos (by rfl)]
        refine wp_load_mid 46 _ rfl g107 0 rfl (i16 Z) _ h107.range Tryd.underlying46 rfl (infoI _) ?_
        refine hK.out _ _ trivial (fun h => ?_)
        clear h hK K
        rw [show Value.agg (i16 Z).toArray = rV Z from rfl]
        (try simp only [Act.put, List.setIfInBounds_toArray, List.set_cons_zero, List.set_cons_succ])
        refine wpAnyH_ready (rs := [2]) (by kernel_rfl) (by simp) ?_
        refine AllReadyH.cons (o := { dst := some 43, op := Op.call { callee := Callee.value (Operand.func 38), args := #[Operand.tmp 41, Operand.tmp 42], argTypes := #[46, 46] }, type := 46, pos := "ref.go:184", after := #[{ on := 0, ground := Ground.data }, { on := 1, ground := Ground.data }, { on := 0, ground := Ground.chain }], guard := none }) rfl (fun K hK => ?_) (AllReadyH.nil)
        go_simp
        (go_at_call 38; refine (kM' O hO _).mono ?_; clear kM'; rintro e wxe_3 ⟨MZ, rfl, hMZ, hbS⟩; (replace h4 := h4.still hbS); (replace h107 := h107.still hbS); (replace hbW := below_next hbW hbS); clear hbS)
        (try go_simp)
        refine hK.out _ _ trivial (fun h => ?_)
        clear h hK K
        (try simp only [Act.put, List.setIfInBounds_toArray, List.set_cons_zero, List.set_cons_succ])
        refine wpAnyH_ready (rs := [3]) (by kernel_rfl) (by simp) ?_
        refine AllReadyH.cons (o := { dst := none, op := Op.store 46 (Operand.tmp 7) (Operand.tmp 43), type := 0, pos := "ref.go:184", after := #[{ on := 2, ground := Ground.data }, { on := 2, ground := Ground.chain }, { on := 0, ground := Ground.phase }, { on := 1, ground := Ground.phase }, { on := 2, ground := Ground.phase }], guard := none }) rfl (fun K hK => ?_) (AllReadyH.nil)
        rw [if_pos (by rfl)]
        refine wp_store_mid 46 _ _ rfl g107 0 (i16 MZ).toArray rfl rfl (by have := h107.there; rw [i16_len] at this; rw [List.size_toArray, i16_len]; exact this) (infoIA _) (oneI _) ?_
        have Oxe_4 := Out.setCells (b := g107) (o := 0) (n := (i16 MZ).length) wxe_3 (i16 MZ) (Nat.le_refl _) (Nat.le_refl _)
        replace hbW := below_setCells w107 (i16 MZ) 0 _ hbW
        replace h107 := h107.stored (i16 MZ) (by rw [i16_len, i16_len])
        replace h4 := h4.far g107 0 (i16 MZ) (.inl n4_107.symm)
        obtain ⟨wxe_4, hwxe_4⟩ : ∃ W, wxe_3.setCells g107 0 (i16 MZ) = W := ⟨_, rfl⟩
        rw [hwxe_4] at h4
        rw [hwxe_4] at hbW
        rw [hwxe_4] at h107
        rw [hwxe_4] at Oxe_4
        rw [show wxe_3.setCells g107 0 (i16 MZ).toArray.toList = wxe_4 from hwxe_4]
        refine hK.out _ _ trivial (fun h => ?_)
        clear h hK K hwxe_4
        (try dsimp only [Act.put])
        refine wpAnyH_done (by kernel_rfl) ?_ _
        refine NoPanic.normal ?_
        have t4 : wxe_4.there g4 0 (i16 MZ).toArray.size := by have := h4.there; rw [i16_len] at this; rw [List.size_toArray, i16_len]; exact this
        go_wp2_with (first
          | (refine wpList_load_mid rfl 46 _ rfl g107 0 rfl (i16 MZ) _ h107.range Tryd.underlying46 rfl (infoI _) ?_)
          | (with_reducible (refine id (?_ : wpList _ _ _ _ _ _)); refine wpList_store_mid rfl 46 _ _ rfl g4 0 (i16 MZ).toArray rfl rfl t4 (infoIA MZ) (oneI MZ) ?_))
        (try simp only [Exit.inBlock, Exit.then])
        exact bodyPost_ret (results_cell_tmp Tryd.results20 _ _ g4 0 (i16 MZ) _ rfl (h4.stored (i16 MZ) (by rw [i16_len, i16_len])).range Tryd.underlying46 rfl (infoI _)) rfl ⟨MZ, rfl, by rw [Hr.out]; exact hMZ, below_setCells w4 _ _ _ hbW⟩
      · rw [if_pos (by rfl)]
        refine wp_load_mid 46 _ rfl g107 0 rfl (i16 Z) _ h107.range Tryd.underlying46 rfl (infoI _) ?_
        refine hK.out _ _ trivial (fun h => ?_)
        clear h hK K
        rw [show Value.agg (i16 Z).toArray = rV Z from rfl]
        (try simp only [Act.put, List.setIfInBounds_toArray, List.set_cons_zero, List.set_cons_succ])
        refine wpAnyH_ready (rs := [0]) (by kernel_rfl) (by simp) ?_
        refine AllReadyH.cons (o := { dst := some 41, op := Op.call { callee := Callee.value (Operand.func 37), args := #[Operand.const (Value.int IntKind.i64 0)], argTypes := #[3] }, type := 46, pos := "ref.go:184", after := #[], guard := none }) rfl (fun K hK => ?_) (AllReadyH.nil)
        go_simp
        (go_at_call 37; refine (kO _).mono ?_; clear kO; rintro e wxe_6 ⟨O, rfl, hO, hbS⟩; (replace h4 := h4.still hbS); (replace h107 := h107.still hbS); (replace hbW := below_next hbW hbS); clear hbS)
        (try go_simp)
        refine hK.out _ _ trivial (fun h => ?_)
        clear h hK K
        (try simp only [Act.put, List.setIfInBounds_toArray, List.set_cons_zero, List.set_cons_succ])
        refine wpAnyH_ready (rs := [2]) (by kernel_rfl) (by simp) ?_
        refine AllReadyH.cons (o := { dst := some 43, op := Op.call { callee := Callee.value (Operand.func 38), args := #[Operand.tmp 41, Operand.tmp 42], argTypes := #[46, 46] }, type := 46, pos := "ref.go:184", after := #[{ on := 0, ground := Ground.data }, { on := 1, ground := Ground.data }, { on := 0, ground := Ground.chain }], guard := none }) rfl (fun K hK => ?_) (AllReadyH.nil)
        go_simp
        (go_at_call 38; refine (kM' O hO _).mono ?_; clear kM'; rintro e wxe_7 ⟨MZ, rfl, hMZ, hbS⟩; (replace h4 := h4.still hbS); (replace h107 := h107.still hbS); (replace hbW := below_next hbW hbS); clear hbS)
        (try go_simp)
        refine hK.out _ _ trivial (fun h => ?_)
        clear h hK K
        (try simp only [Act.put, List.setIfInBounds_toArray, List.set_cons_zero, List.set_cons_succ])
        refine wpAnyH_ready (rs := [3]) (by kernel_rfl) (by simp) ?_
        refine AllReadyH.cons (o := { dst := none, op := Op.store 46 (Operand.tmp 7) (Operand.tmp 43), type := 0, pos := "ref.go:184", after := #[{ on := 2, ground := Ground.data }, { on := 2, ground := Ground.chain }, { on := 0, ground := Ground.phase }, { on := 1, ground := Ground.phase }, { on := 2, ground := Ground.phase }], guard := none }) rfl (fun K hK => ?_) (AllReadyH.nil)
        rw [if_pos (by rfl)]
        refine wp_store_mid 46 _ _ rfl g107 0 (i16 MZ).toArray rfl rfl (by have := h107.there; rw [i16_len] at this; rw [List.size_toArray, i16_len]; exact this) (infoIA _) (oneI _) ?_
        have Oxe_8 := Out.setCells (b := g107) (o := 0) (n := (i16 MZ).length) wxe_7 (i16 MZ) (Nat.le_refl _) (Nat.le_refl _)
        replace hbW := below_setCells w107 (i16 MZ) 0 _ hbW
        replace h107 := h107.stored (i16 MZ) (by rw [i16_len, i16_len])
        replace h4 := h4.far g107 0 (i16 MZ) (.inl n4_107.symm)
        obtain ⟨wxe_8, hwxe_8⟩ : ∃ W, wxe_7.setCells g107 0 (i16 MZ) = W := ⟨_, rfl⟩
        rw [hwxe_8] at h4
        rw [hwxe_8] at hbW
        rw [hwxe_8] at h107
        rw [hwxe_8] at Oxe_8
        rw [show wxe_7.setCells g107 0 (i16 MZ).toArray.toList = wxe_8 from hwxe_8]
        refine hK.out _ _ trivial (fun h => ?_)
        clear h hK K hwxe_8
        (try dsimp only [Act.put])
        refine wpAnyH_done (by kernel_rfl) ?_ _
        refine NoPanic.normal ?_
        have t4 : wxe_8.there g4 0 (i16 MZ).toArray.size := by have := h4.there; rw [i16_len] at this; rw [List.size_toArray, i16_len]; exact this
        go_wp2_with (first
          | (refine wpList_load_mid rfl 46 _ rfl g107 0 rfl (i16 MZ) _ h107.range Tryd.underlying46 rfl (infoI _) ?_)
          | (with_reducible (refine id (?_ : wpList _ _ _ _ _ _)); refine wpList_store_mid rfl 46 _ _ rfl g4 0 (i16 MZ).toArray rfl rfl t4 (infoIA MZ) (oneI MZ) ?_))
        (try simp only [Exit.inBlock, Exit.then])
        exact bodyPost_ret (results_cell_tmp Tryd.results20 _ _ g4 0 (i16 MZ) _ rfl (h4.stored (i16 MZ) (by rw [i16_len, i16_len])).range Tryd.underlying46 rfl (infoI _)) rfl ⟨MZ, rfl, by rw [Hr.out]; exact hMZ, below_setCells w4 _ _ _ hbW⟩
end Go.Proofs.YtinigkpidhbgcaaDoor
