/- What add of package point does in the model. -/
import Derived.Test.YteekjcfbnoakgaaDoorPTw
namespace Go.Proofs.YteekjcfbnoakgaaDoor
open Go.RowKit
abbrev qd1x13 : Oper := { dst := none, op := Op.store 28 (Operand.tmp 6) (Operand.tmp 19), type := 0, pos := "curve.go:54", after := #[{ on := 11, ground := Ground.data }, { on := 9, ground := Ground.data }, { on := 12, ground := Ground.chain }, { on := 0, ground := Ground.phase }, { on := 1, ground := Ground.phase }, { on := 2, ground := Ground.phase }, { on := 3, ground := Ground.phase }, { on := 4, ground := Ground.phase }, { on := 5, ground := Ground.phase }, { on := 6, ground := Ground.phase }, { on := 7, ground := Ground.phase }, { on := 8, ground := Ground.phase }, { on := 9, ground := Ground.phase }, { on := 10, ground := Ground.phase }, { on := 11, ground := Ground.phase }, { on := 12, ground := Ground.phase }], guard := none }
abbrev qd1x12 : Oper := { dst := none, op := Op.store 28 (Operand.tmp 5) (Operand.tmp 14), type := 0, pos := "curve.go:54", after := #[{ on := 10, ground := Ground.data }, { on := 4, ground := Ground.data }, { on := 9, ground := Ground.chain }, { on := 0, ground := Ground.phase }, { on := 1, ground := Ground.phase }, { on := 2, ground := Ground.phase }, { on := 3, ground := Ground.phase }, { on := 4, ground := Ground.phase }, { on := 5, ground := Ground.textOnly Departure.lateStores }, { on := 6, ground := Ground.textOnly Departure.lateStores }, { on := 7, ground := Ground.textOnly Departure.lateStores }, { on := 8, ground := Ground.textOnly Departure.lateStores }, { on := 9, ground := Ground.textOnly Departure.lateStoresUnsure }, { on := 10, ground := Ground.phase }, { on := 11, ground := Ground.phase }], guard := none }
abbrev qd1x11 : Oper := { dst := some 6, op := Op.alloc 28, type := 0, pos := "curve.go:54", after := #[], guard := none }
abbrev qd1x10 : Oper := { dst := some 5, op := Op.alloc 28, type := 0, pos := "curve.go:54", after := #[], guard := none }
abbrev qd1x9 : Oper := { dst := some 19, op := Op.call { callee := Callee.value (Operand.func 51), args := #[Operand.tmp 16, Operand.tmp 18], argTypes := #[28, 28] }, type := 28, pos := "curve.go:54", after := #[{ on := 6, ground := Ground.data }, { on := 8, ground := Ground.data }, { on := 4, ground := Ground.chain }], guard := none }
abbrev qd1x4 : Oper := { dst := some 14, op := Op.call { callee := Callee.value (Operand.func 51), args := #[Operand.tmp 11, Operand.tmp 13], argTypes := #[28, 28] }, type := 28, pos := "curve.go:54", after := #[{ on := 1, ground := Ground.data }, { on := 3, ground := Ground.data }], guard := none }
abbrev qd2x15 : Oper := { dst := none, op := Op.store 28 (Operand.tmp 8) (Operand.tmp 31), type := 0, pos := "curve.go:55", after := #[{ on := 13, ground := Ground.data }, { on := 11, ground := Ground.data }, { on := 14, ground := Ground.chain }, { on := 0, ground := Ground.phase }, { on := 1, ground := Ground.phase }, { on := 2, ground := Ground.phase }, { on := 3, ground := Ground.phase }, { on := 4, ground := Ground.phase }, { on := 5, ground := Ground.phase }, { on := 6, ground := Ground.phase }, { on := 7, ground := Ground.phase }, { on := 8, ground := Ground.phase }, { on := 9, ground := Ground.phase }, { on := 10, ground := Ground.phase }, { on := 11, ground := Ground.phase }, { on := 12, ground := Ground.phase }, { on := 13, ground := Ground.phase }, { on := 14, ground := Ground.phase }], guard := none }
abbrev qd2x14 : Oper := { dst := none, op := Op.store 28 (Operand.tmp 7) (Operand.tmp 24), type := 0, pos := "curve.go:55", after := #[{ on := 12, ground := Ground.data }, { on := 4, ground := Ground.data }, { on := 11, ground := Ground.chain }, { on := 0, ground := Ground.phase }, { on := 1, ground := Ground.phase }, { on := 2, ground := Ground.phase }, { on := 3, ground := Ground.phase }, { on := 4, ground := Ground.phase }, { on := 5, ground := Ground.textOnly Departure.lateStores }, { on := 6, ground := Ground.textOnly Departure.lateStores }, { on := 7, ground := Ground.textOnly Departure.lateStores }, { on := 8, ground := Ground.textOnly Departure.lateStores }, { on := 9, ground := Ground.textOnly Departure.lateStoresUnsure }, { on := 10, ground := Ground.textOnly Departure.lateStoresUnsure }, { on := 11, ground := Ground.textOnly Departure.lateStoresUnsure }, { on := 12, ground := Ground.phase }, { on := 13, ground := Ground.phase }], guard := none }
abbrev qd2x13 : Oper := { dst := some 8, op := Op.alloc 28, type := 0, pos := "curve.go:55", after := #[], guard := none }
abbrev qd2x12 : Oper := { dst := some 7, op := Op.alloc 28, type := 0, pos := "curve.go:55", after := #[], guard := none }
abbrev qd2x11 : Oper := { dst := some 31, op := Op.call { callee := Callee.value (Operand.func 51), args := #[Operand.tmp 29, Operand.tmp 30], argTypes := #[28, 28] }, type := 28, pos := "curve.go:55", after := #[{ on := 9, ground := Ground.data }, { on := 10, ground := Ground.data }, { on := 10, ground := Ground.chain }], guard := none }
abbrev qd2x10 : Oper := { dst := some 30, op := Op.call { callee := Callee.value (Operand.func 66), args := #[], argTypes := #[] }, type := 28, pos := "curve.go:55", after := #[{ on := 9, ground := Ground.chain }], guard := none }
abbrev qd2x9 : Oper := { dst := some 29, op := Op.call { callee := Callee.value (Operand.func 51), args := #[Operand.tmp 26, Operand.tmp 28], argTypes := #[28, 28] }, type := 28, pos := "curve.go:55", after := #[{ on := 6, ground := Ground.data }, { on := 8, ground := Ground.data }, { on := 4, ground := Ground.chain }], guard := none }
abbrev qd2x4 : Oper := { dst := some 24, op := Op.call { callee := Callee.value (Operand.func 51), args := #[Operand.tmp 21, Operand.tmp 23], argTypes := #[28, 28] }, type := 28, pos := "curve.go:55", after := #[{ on := 1, ground := Ground.data }, { on := 3, ground := Ground.data }], guard := none }
abbrev qd3x16 : Oper := { dst := none, op := Op.store 28 (Operand.tmp 9) (Operand.tmp 46), type := 0, pos := "curve.go:56", after := #[{ on := 15, ground := Ground.data }, { on := 14, ground := Ground.data }, { on := 14, ground := Ground.chain }, { on := 0, ground := Ground.phase }, { on := 1, ground := Ground.phase }, { on := 2, ground := Ground.phase }, { on := 3, ground := Ground.phase }, { on := 4, ground := Ground.phase }, { on := 5, ground := Ground.phase }, { on := 6, ground := Ground.phase }, { on := 7, ground := Ground.phase }, { on := 8, ground := Ground.phase }, { on := 9, ground := Ground.phase }, { on := 10, ground := Ground.phase }, { on := 11, ground := Ground.phase }, { on := 12, ground := Ground.phase }, { on := 13, ground := Ground.phase }, { on := 14, ground := Ground.phase }, { on := 15, ground := Ground.phase }], guard := none }
abbrev qd3x15 : Oper := { dst := some 9, op := Op.alloc 28, type := 0, pos := "curve.go:56", after := #[], guard := none }
abbrev qd3x14 : Oper := { dst := some 46, op := Op.call { callee := Callee.value (Operand.func 35), args := #[Operand.tmp 44, Operand.tmp 45], argTypes := #[28, 28] }, type := 28, pos := "curve.go:56", after := #[{ on := 12, ground := Ground.data }, { on := 13, ground := Ground.data }, { on := 12, ground := Ground.chain }], guard := none }
abbrev qd3x12 : Oper := { dst := some 44, op := Op.call { callee := Callee.value (Operand.func 35), args := #[Operand.tmp 42, Operand.tmp 43], argTypes := #[28, 28] }, type := 28, pos := "curve.go:56", after := #[{ on := 10, ground := Ground.data }, { on := 11, ground := Ground.data }, { on := 10, ground := Ground.chain }], guard := none }
abbrev qd3x10 : Oper := { dst := some 42, op := Op.call { callee := Callee.value (Operand.func 51), args := #[Operand.tmp 36, Operand.tmp 41], argTypes := #[28, 28] }, type := 28, pos := "curve.go:56", after := #[{ on := 4, ground := Ground.data }, { on := 9, ground := Ground.data }, { on := 9, ground := Ground.chain }], guard := none }
abbrev qd3x9 : Oper := { dst := some 41, op := Op.call { callee := Callee.value (Operand.func 67), args := #[Operand.tmp 38, Operand.tmp 40], argTypes := #[28, 28] }, type := 28, pos := "curve.go:56", after := #[{ on := 6, ground := Ground.data }, { on := 8, ground := Ground.data }, { on := 4, ground := Ground.chain }], guard := none }
abbrev qd3x4 : Oper := { dst := some 36, op := Op.call { callee := Callee.value (Operand.func 67), args := #[Operand.tmp 33, Operand.tmp 35], argTypes := #[28, 28] }, type := 28, pos := "curve.go:56", after := #[{ on := 1, ground := Ground.data }, { on := 3, ground := Ground.data }], guard := none }
abbrev qd4x3 : Oper := { dst := some 50, op := Op.call { callee := Callee.value (Operand.func 67), args := #[Operand.tmp 48, Operand.tmp 49], argTypes := #[28, 28] }, type := 28, pos := "curve.go:57", after := #[{ on := 1, ground := Ground.data }, { on := 2, ground := Ground.data }], guard := none }
abbrev qd4x6 : Oper := { dst := some 53, op := Op.call { callee := Callee.value (Operand.func 67), args := #[Operand.tmp 51, Operand.tmp 52], argTypes := #[28, 28] }, type := 28, pos := "curve.go:57", after := #[{ on := 4, ground := Ground.data }, { on := 5, ground := Ground.data }, { on := 3, ground := Ground.chain }], guard := none }
abbrev qd4x9 : Oper := { dst := some 56, op := Op.call { callee := Callee.value (Operand.func 35), args := #[Operand.tmp 54, Operand.tmp 55], argTypes := #[28, 28] }, type := 28, pos := "curve.go:57", after := #[{ on := 7, ground := Ground.data }, { on := 8, ground := Ground.data }, { on := 6, ground := Ground.chain }], guard := none }
abbrev qd4x10 : Oper := { dst := some 57, op := Op.call { callee := Callee.value (Operand.func 75), args := #[Operand.tmp 47, Operand.tmp 50, Operand.tmp 53, Operand.tmp 56], argTypes := #[28, 28, 28, 28] }, type := 30, pos := "curve.go:57", after := #[{ on := 0, ground := Ground.data }, { on := 3, ground := Ground.data }, { on := 6, ground := Ground.data }, { on := 9, ground := Ground.data }, { on := 9, ground := Ground.chain }], guard := none }
abbrev qd4x11 : Oper := { dst := none, op := Op.store 30 (Operand.tmp 4) (Operand.tmp 57), type := 0, pos := "curve.go:57", after := #[{ on := 10, ground := Ground.data }, { on := 10, ground := Ground.chain }, { on := 0, ground := Ground.phase }, { on := 1, ground := Ground.phase }, { on := 2, ground := Ground.phase }, { on := 3, ground := Ground.phase }, { on := 4, ground := Ground.phase }, { on := 5, ground := Ground.phase }, { on := 6, ground := Ground.phase }, { on := 7, ground := Ground.phase }, { on := 8, ground := Ground.phase }, { on := 9, ground := Ground.phase }, { on := 10, ground := Ground.phase }], guard := none }
set_option maxRecDepth 20000 in
set_option maxHeartbeats 16000000 in
theorem add_raw (px py pz pt qx qy qz qt dd xx yy zz t0 tt f1 f2 f3 f4 cr qb qc qd o1 o2 o3 o4 : Nat)
    (k1 : ∀ W, Calls Tryd.prog 51 #[numV px, numV qx] W fun e w' => e = .returned (numV xx) ∧ Below W.heap.size W w')
    (k2 : ∀ W, Calls Tryd.prog 51 #[numV py, numV qy] W fun e w' => e = .returned (numV yy) ∧ Below W.heap.size W w')
    (k3 : ∀ W, Calls Tryd.prog 51 #[numV pz, numV qz] W fun e w' => e = .returned (numV zz) ∧ Below W.heap.size W w')
    (k4 : ∀ W, Calls Tryd.prog 51 #[numV pt, numV qt] W fun e w' => e = .returned (numV t0) ∧ Below W.heap.size W w')
    (k5 : ∀ W, Calls Tryd.prog 66 #[] W fun e w' => e = .returned (numV dd) ∧ Below W.heap.size W w')
    (k6 : ∀ W, Calls Tryd.prog 51 #[numV t0, numV dd] W fun e w' => e = .returned (numV tt) ∧ Below W.heap.size W w')
    (k7 : ∀ W, Calls Tryd.prog 67 #[numV px, numV py] W fun e w' => e = .returned (numV f1) ∧ Below W.heap.size W w')
    (k8 : ∀ W, Calls Tryd.prog 67 #[numV qx, numV qy] W fun e w' => e = .returned (numV f2) ∧ Below W.heap.size W w')
    (k9 : ∀ W, Calls Tryd.prog 51 #[numV f1, numV f2] W fun e w' => e = .returned (numV f3) ∧ Below W.heap.size W w')
    (k10 : ∀ W, Calls Tryd.prog 35 #[numV f3, numV xx] W fun e w' => e = .returned (numV f4) ∧ Below W.heap.size W w')
    (k11 : ∀ W, Calls Tryd.prog 35 #[numV f4, numV yy] W fun e w' => e = .returned (numV cr) ∧ Below W.heap.size W w')
    (k12 : ∀ W, Calls Tryd.prog 67 #[numV zz, numV tt] W fun e w' => e = .returned (numV qb) ∧ Below W.heap.size W w')
    (k13 : ∀ W, Calls Tryd.prog 67 #[numV yy, numV xx] W fun e w' => e = .returned (numV qc) ∧ Below W.heap.size W w')
    (k14 : ∀ W, Calls Tryd.prog 35 #[numV zz, numV tt] W fun e w' => e = .returned (numV qd) ∧ Below W.heap.size W w')
    (k15 : ∀ W, Calls Tryd.prog 75 #[numV cr, numV qb, numV qc, numV qd] W fun e w' => e = .returned (pV o1 o2 o3 o4) ∧ Below W.heap.size W w')
    (w : World) : Calls Tryd.prog 58 #[pV px py pz pt, pV qx qy qz qt] w fun e w' => e = .returned (pV o1 o2 o3 o4) ∧ Below w.heap.size w w' := by
  have hzp := zeroP
  obtain ⟨V1, g2, eg2, hg2, bg2, hp⟩ : ∃ V g, w.alloc (.cells (p16 px py pz pt).toArray 30) = V ∧ w.heap.size = g ∧ Below w.heap.size w V ∧ RW V g 0 (p16 px py pz pt) := ⟨_, _, rfl, rfl, (Below.refl _ _).alloc (Nat.le_refl _) _, RW.fresh w _ _⟩
  obtain ⟨V2, g3, eg3, hg3, bg3, hq⟩ : ∃ V g, V1.alloc (.cells (p16 qx qy qz qt).toArray 30) = V ∧ V1.heap.size = g ∧ Below V1.heap.size V1 V ∧ RW V g 0 (p16 qx qy qz qt) := ⟨_, _, rfl, rfl, (Below.refl _ _).alloc (Nat.le_refl _) _, RW.fresh V1 _ _⟩
  obtain ⟨W, g4, eg4, hg4, bg4, hres⟩ := fresh16 V2
  have t1 : V1.heap.size = w.heap.size + 1 := by rw [← eg2]; simp
  have t2 : V2.heap.size = V1.heap.size + 1 := by rw [← eg3]; simp
  have HW : Hid (W = ((w.alloc (.cells (p16 px py pz pt).toArray 30)).alloc (.cells (p16 qx qy qz qt).toArray 30)).alloc (.cells zP 30)) := Hid.mk' (by rw [← eg4, ← eg3, ← eg2])
  have q2 : Hid (w.heap.size = g2) := Hid.mk' hg2
  have q3 : Hid (w.heap.size + 1 = g3) := Hid.mk' (by omega)
  have q4 : Hid (w.heap.size + 1 + 1 = g4) := Hid.mk' (by omega)
  replace hp := (hp.still bg3).still bg4
  replace hq := hq.still bg4
  have hbW : Below w.heap.size w W := (bg2.trans (bg3.mono (by omega))).trans (bg4.mono (by omega))
  have w4 : w.heap.size ≤ g4 := by omega
  obtain ⟨pX, pY, pZ, pT⟩ := parts16 hp
  obtain ⟨qX, qY, qZ, qT⟩ := parts16 hq
  clear eg2 eg3 eg4 hg2 hg3 hg4 bg2 bg3 bg4 t1 t2 hp hq V1 V2
  rw [show pV px py pz pt = .agg (p16 px py pz pt).toArray from rfl, show pV qx qy qz qt = .agg (p16 qx qy qz qt).toArray from rfl]
  go_enter Tryd.func58, Tryd.ntmps58
  go_upto_region 1 with (fail)
  rw [← HW.out, q4.out, q3.out, q2.out]
  clear HW q4 q3 q2
  go_cut [5, 6] from 10 (fun s5 s6 wc => ∃ h5 h6 : Nat, s5 = .pointer (some ⟨h5, 0, none⟩) ∧ s6 = .pointer (some ⟨h6, 0, none⟩) ∧ Below W.heap.size W wc ∧ W.heap.size ≤ h5 ∧ W.heap.size ≤ h6 ∧ RW wc h5 0 (c4 xx) ∧ RW wc h6 0 (c4 yy))
  case first =>
    clear k3 k4 k5 k6 k7 k8 k9 k10 k11 k12 k13 k14 k15 pZ pT qZ qT hres hbW
    have hdrew : Below W.heap.size W W.drew := (Below.refl _ _).drew
    replace pX := pX.still hdrew
    replace pY := pY.still hdrew
    replace qX := qX.still hdrew
    replace qY := qY.still hdrew
    refine wp_region_noPanic ?_
    refine wp_region_held_drew (S := fun w' => Below W.drew.heap.size W.drew w') (by kernel_rfl) (Below.refl _ _) (fun hS => ?_)
    generalize W.drew = Vd1_ at *
    refine wpAnyH_take (i := 0) (oi := { dst := some 10, op := Op.fieldAddr 30 (Operand.tmp 2) 0, type := 0, pos := "curve.go:54", after := #[], guard := none }) (v := ?vd1_t1) rfl (by kernel_rfl) (by kernel_rfl) (by kernel_rfl) (fun _ _ _ h => h) (Or.inl ⟨by rfl, ?hd1_t1⟩) hS ?rd1_t1
    case hd1_t1 =>
      intro w hSw
      go_simp
      try with_reducible rfl
    (try simp only [Act.put, List.setIfInBounds_toArray, List.set_cons_zero, List.set_cons_succ])
    refine wpAnyH_take (i := 1) (oi := { dst := some 11, op := Op.load 28 (Operand.tmp 10), type := 28, pos := "curve.go:54", after := #[{ on := 0, ground := Ground.data }], guard := none }) (v := numV px) rfl (by kernel_rfl) (by kernel_rfl) (by kernel_rfl) (fun _ _ _ h => h) (yieldsIf_load_mid (by rfl) 28 _ rfl g2 0 rfl (c4 px) _ (fun _ h => (pX.still h).range) Tryd.underlying28 rfl info4) hS ?_
    (try simp only [Act.put, List.setIfInBounds_toArray, List.set_cons_zero, List.set_cons_succ])
    refine wpAnyH_take (i := 2) (oi := { dst := some 12, op := Op.fieldAddr 30 (Operand.tmp 3) 0, type := 0, pos := "curve.go:54", after := #[], guard := none }) (v := ?vd1_t2) rfl (by kernel_rfl) (by kernel_rfl) (by kernel_rfl) (fun _ _ _ h => h) (Or.inl ⟨by rfl, ?hd1_t2⟩) hS ?rd1_t2
    case hd1_t2 =>
      intro w hSw
      go_simp
      try with_reducible rfl
    (try simp only [Act.put, List.setIfInBounds_toArray, List.set_cons_zero, List.set_cons_succ])
    refine wpAnyH_take (i := 3) (oi := { dst := some 13, op := Op.load 28 (Operand.tmp 12), type := 28, pos := "curve.go:54", after := #[{ on := 2, ground := Ground.data }], guard := none }) (v := numV qx) rfl (by kernel_rfl) (by kernel_rfl) (by kernel_rfl) (fun _ _ _ h => h) (yieldsIf_load_mid (by rfl) 28 _ rfl g3 0 rfl (c4 qx) _ (fun _ h => (qX.still h).range) Tryd.underlying28 rfl info4) hS ?_
    (try simp only [Act.put, List.setIfInBounds_toArray, List.set_cons_zero, List.set_cons_succ])
    refine wpAnyH_take (i := 5) (oi := { dst := some 15, op := Op.fieldAddr 30 (Operand.tmp 2) 1, type := 0, pos := "curve.go:54", after := #[], guard := none }) (v := ?vd1_t3) rfl (by kernel_rfl) (by kernel_rfl) (by kernel_rfl) (fun _ _ _ h => h) (Or.inl ⟨by rfl, ?hd1_t3⟩) hS ?rd1_t3
    case hd1_t3 =>
      intro w hSw
      go_simp
      try with_reducible rfl
    (try simp only [Act.put, List.setIfInBounds_toArray, List.set_cons_zero, List.set_cons_succ])
    refine wpAnyH_take (i := 6) (oi := { dst := some 16, op := Op.load 28 (Operand.tmp 15), type := 28, pos := "curve.go:54", after := #[{ on := 5, ground := Ground.data }], guard := none }) (v := numV py) rfl (by kernel_rfl) (by kernel_rfl) (by kernel_rfl) (fun _ _ _ h => h) (yieldsIf_load_mid (by rfl) 28 _ rfl g2 4 rfl (c4 py) _ (fun _ h => (pY.still h).range) Tryd.underlying28 rfl info4) hS ?_
    (try simp only [Act.put, List.setIfInBounds_toArray, List.set_cons_zero, List.set_cons_succ])
    refine wpAnyH_take (i := 7) (oi := { dst := some 17, op := Op.fieldAddr 30 (Operand.tmp 3) 1, type := 0, pos := "curve.go:54", after := #[], guard := none }) (v := ?vd1_t4) rfl (by kernel_rfl) (by kernel_rfl) (by kernel_rfl) (fun _ _ _ h => h) (Or.inl ⟨by rfl, ?hd1_t4⟩) hS ?rd1_t4
    case hd1_t4 =>
      intro w hSw
      go_simp
      try with_reducible rfl
    (try simp only [Act.put, List.setIfInBounds_toArray, List.set_cons_zero, List.set_cons_succ])
    refine wpAnyH_take (i := 8) (oi := { dst := some 18, op := Op.load 28 (Operand.tmp 17), type := 28, pos := "curve.go:54", after := #[{ on := 7, ground := Ground.data }], guard := none }) (v := numV qy) rfl (by kernel_rfl) (by kernel_rfl) (by kernel_rfl) (fun _ _ _ h => h) (yieldsIf_load_mid (by rfl) 28 _ rfl g3 4 rfl (c4 qy) _ (fun _ h => (qY.still h).range) Tryd.underlying28 rfl info4) hS ?_
    (try simp only [Act.put, List.setIfInBounds_toArray, List.set_cons_zero, List.set_cons_succ])
    refine dag_root (fun G hG0 => ?_)
    have hG := Hid.mk' hG0
    clear hG0
    obtain ⟨F, hF0⟩ : ∃ F : Value → Value → Value → Value → Act, ∀ v5 v6 v14 v19, F v5 v6 v14 v19 = { tmps := #[.agg (p16 px py pz pt).toArray, .agg (p16 qx qy qz qt).toArray, .pointer (some ⟨g2, 0, none⟩), .pointer (some ⟨g3, 0, none⟩), .pointer (some ⟨g4, 0, none⟩), v5, v6, undef, undef, undef, .pointer (some ⟨g2, 0, none⟩), numV px, .pointer (some ⟨g3, 0, none⟩), numV qx, v14, .pointer (some ⟨g2, 4, none⟩), numV py, .pointer (some ⟨g3, 4, none⟩), numV qy, v19, undef, undef, undef, undef, undef, undef, undef, undef, undef, undef, undef, undef, undef, undef, undef, undef, undef, undef, undef, undef, undef, undef, undef, undef, undef, undef, undef, undef, undef, undef, undef, undef, undef, undef, undef, undef, undef, undef], defers := [] } := ⟨_, fun _ _ _ _ => rfl⟩
    have hF := Hid.mk' hF0
    clear hF0
    have std1_0 : Hid (∀ (cur : World) (g10 g11 : Nat), Below Vd1_.heap.size Vd1_ cur → RW cur g10 0 (c4 (xx)) → RW cur g11 0 (c4 (yy)) → Vd1_.heap.size ≤ g10 → Vd1_.heap.size ≤ g11 → g10 ≠ g11 → G 0 #[true, true, true, true, true, true, true, true, true, true, true, true, true, true] (F (.pointer (some ⟨g10, 0, none⟩)) (.pointer (some ⟨g11, 0, none⟩)) (numV xx) (numV yy)) cur) := Hid.mk' (by
      intro cur g10 g11 hS r10 r11 G10 G11 d10_11
      rw [hF.out, hG.out]
      refine wpAnyH_done (by kernel_rfl) ?_ _
      refine NoPanic.normal ?_
      go_wp2
      go_meet
      case rel => exact ⟨g10, g11, rfl, rfl, below_next hdrew hS, Nat.le_trans hdrew.size G10, Nat.le_trans hdrew.size G11, r10, r11⟩)
    have std1_1 : Hid (∀ (cur : World) (g10 g11 : Nat), Below Vd1_.heap.size Vd1_ cur → RW cur g10 0 (c4 (xx)) → RW cur g11 0 (c4 (0)) → Vd1_.heap.size ≤ g10 → Vd1_.heap.size ≤ g11 → g10 ≠ g11 → G 1 #[true, true, true, true, true, true, true, true, true, true, true, true, true, false] (F (.pointer (some ⟨g10, 0, none⟩)) (.pointer (some ⟨g11, 0, none⟩)) (numV xx) (numV yy)) cur) := Hid.mk' (by
      intro cur g10 g11 hS r10 r11 G10 G11 d10_11
      rw [hF.out, hG.out]
      refine wpAnyH_ready (rs := [13]) (by kernel_rfl) (by simp) ?_
      refine AllReadyH.cons (o := qd1x13) rfl (fun K hK => ?_) (AllReadyH.nil)
      · unfold qd1x13
        rw [if_pos (by rfl)]
        refine num_store _ _ rfl g11 0 (yy) rfl rfl r11 hS G11 (fun w1 r0 hS1 far => ?_)
        replace r10 := far _ _ _ (by omega) r10
        refine hK.out _ _ hS1 (fun h => ?_)
        clear h hK K far r11
        have r11 := r0
        clear r0
        (try dsimp only [Act.put])
        rw [← hG.out]
        exact dag_step3 (std1_0.out w1 g10 g11 hS1 r10 r11 G10 G11 d10_11) (by kernel_rfl) (by kernel_rfl) (hF.out _ _ _ _))
    have std1_2 : Hid (∀ (cur : World) (g10 g11 : Nat), Below Vd1_.heap.size Vd1_ cur → RW cur g10 0 (c4 (0)) → RW cur g11 0 (c4 (0)) → Vd1_.heap.size ≤ g10 → Vd1_.heap.size ≤ g11 → g10 ≠ g11 → G 2 #[true, true, true, true, true, true, true, true, true, true, true, true, false, false] (F (.pointer (some ⟨g10, 0, none⟩)) (.pointer (some ⟨g11, 0, none⟩)) (numV xx) (numV yy)) cur) := Hid.mk' (by
      intro cur g10 g11 hS r10 r11 G10 G11 d10_11
      rw [hF.out, hG.out]
      clear std1_0
      refine wpAnyH_ready (rs := [12]) (by kernel_rfl) (by simp) ?_
      refine AllReadyH.cons (o := qd1x12) rfl (fun K hK => ?_) (AllReadyH.nil)
      · unfold qd1x12
        rw [if_pos (by rfl)]
        refine num_store _ _ rfl g10 0 (xx) rfl rfl r10 hS G10 (fun w1 r0 hS1 far => ?_)
        replace r11 := far _ _ _ (by omega) r11
        refine hK.out _ _ hS1 (fun h => ?_)
        clear h hK K far r10
        have r10 := r0
        clear r0
        (try dsimp only [Act.put])
        rw [← hG.out]
        exact dag_step3 (std1_1.out w1 g10 g11 hS1 r10 r11 G10 G11 d10_11) (by kernel_rfl) (by kernel_rfl) (hF.out _ _ _ _))
    have std1_3 : Hid (∀ (cur : World) (g10 : Nat), Below Vd1_.heap.size Vd1_ cur → RW cur g10 0 (c4 (0)) → Vd1_.heap.size ≤ g10 → G 3 #[true, true, true, true, true, true, true, true, true, true, true, false, false, false] (F (.pointer (some ⟨g10, 0, none⟩)) undef (numV xx) (numV yy)) cur) := Hid.mk' (by
      intro cur g10 hS r10 G10
      rw [hF.out, hG.out]
      clear std1_0 std1_1
      refine wpAnyH_ready (rs := [11]) (by kernel_rfl) (by simp) ?_
      refine AllReadyH.cons (o := qd1x11) rfl (fun K hK => ?_) (AllReadyH.nil)
      · unfold qd1x11
        go_simp
        obtain ⟨w1, g11, hw1, hg1, hb1, r11⟩ := fresh4 cur
        rw [hw1, hg1]
        have hS1 := below_next hS hb1
        have G11 : Vd1_.heap.size ≤ g11 := by have := hS.size; omega
        have d10_11 : g10 ≠ g11 := by have := r10.lt; omega
        replace r10 := r10.still hb1
        refine hK.out _ _ hS1 (fun h => ?_)
        clear h hK K hb1 hw1 hg1
        rw [← hG.out]
        exact dag_step3 (std1_2.out w1 g10 g11 hS1 r10 r11 G10 G11 d10_11) (by kernel_rfl) (by kernel_rfl) (hF.out _ _ _ _))
    have std1_4 : Hid (∀ (cur : World) (g11 : Nat), Below Vd1_.heap.size Vd1_ cur → RW cur g11 0 (c4 (0)) → Vd1_.heap.size ≤ g11 → G 3 #[true, true, true, true, true, true, true, true, true, true, false, true, false, false] (F undef (.pointer (some ⟨g11, 0, none⟩)) (numV xx) (numV yy)) cur) := Hid.mk' (by
      intro cur g11 hS r11 G11
      rw [hF.out, hG.out]
      clear std1_0 std1_1 std1_3
      refine wpAnyH_ready (rs := [10]) (by kernel_rfl) (by simp) ?_
      refine AllReadyH.cons (o := qd1x10) rfl (fun K hK => ?_) (AllReadyH.nil)
      · unfold qd1x10
        go_simp
        obtain ⟨w1, g10, hw1, hg1, hb1, r10⟩ := fresh4 cur
        rw [hw1, hg1]
        have hS1 := below_next hS hb1
        have G10 : Vd1_.heap.size ≤ g10 := by have := hS.size; omega
        have d10_11 : g10 ≠ g11 := by have := r11.lt; omega
        replace r11 := r11.still hb1
        refine hK.out _ _ hS1 (fun h => ?_)
        clear h hK K hb1 hw1 hg1
        rw [← hG.out]
        exact dag_step3 (std1_2.out w1 g10 g11 hS1 r10 r11 G10 G11 d10_11) (by kernel_rfl) (by kernel_rfl) (hF.out _ _ _ _))
    have std1_5 : Hid (∀ (cur : World), Below Vd1_.heap.size Vd1_ cur → G 4 #[true, true, true, true, true, true, true, true, true, true, false, false, false, false] (F undef undef (numV xx) (numV yy)) cur) := Hid.mk' (by
      intro cur  hS 
      rw [hF.out, hG.out]
      clear std1_0 std1_1 std1_2
      refine wpAnyH_ready (rs := [10, 11]) (by kernel_rfl) (by simp) ?_
      refine AllReadyH.cons (o := qd1x10) rfl (fun K hK => ?_) (AllReadyH.cons (o := qd1x11) rfl (fun K hK => ?_) (AllReadyH.nil))
      · unfold qd1x10
        go_simp
        obtain ⟨w1, g10, hw1, hg1, hb1, r10⟩ := fresh4 cur
        rw [hw1, hg1]
        have hS1 := below_next hS hb1
        have G10 : Vd1_.heap.size ≤ g10 := by have := hS.size; omega
        refine hK.out _ _ hS1 (fun h => ?_)
        clear h hK K hb1 hw1 hg1
        rw [← hG.out]
        exact dag_step3 (std1_3.out w1 g10 hS1 r10 G10) (by kernel_rfl) (by kernel_rfl) (hF.out _ _ _ _)
      · unfold qd1x11
        go_simp
        obtain ⟨w1, g11, hw1, hg1, hb1, r11⟩ := fresh4 cur
        rw [hw1, hg1]
        have hS1 := below_next hS hb1
        have G11 : Vd1_.heap.size ≤ g11 := by have := hS.size; omega
        refine hK.out _ _ hS1 (fun h => ?_)
        clear h hK K hb1 hw1 hg1
        rw [← hG.out]
        exact dag_step3 (std1_4.out w1 g11 hS1 r11 G11) (by kernel_rfl) (by kernel_rfl) (hF.out _ _ _ _))
    have std1_6 : Hid (∀ (cur : World) (g10 g11 : Nat), Below Vd1_.heap.size Vd1_ cur → RW cur g10 0 (c4 (0)) → RW cur g11 0 (c4 (0)) → Vd1_.heap.size ≤ g10 → Vd1_.heap.size ≤ g11 → g10 ≠ g11 → G 3 #[true, true, true, true, true, true, true, true, true, false, true, true, false, false] (F (.pointer (some ⟨g10, 0, none⟩)) (.pointer (some ⟨g11, 0, none⟩)) (numV xx) undef) cur) := Hid.mk' (by
      intro cur g10 g11 hS r10 r11 G10 G11 d10_11
      rw [hF.out, hG.out]
      clear std1_0 std1_1 std1_3 std1_4 std1_5
      refine wpAnyH_ready (rs := [9]) (by kernel_rfl) (by simp) ?_
      refine AllReadyH.cons (o := qd1x9) rfl (fun K hK => ?_) (AllReadyH.nil)
      · unfold qd1x9
        go_simp
        (go_at_call 51; refine (k2 _).mono ?_; rintro e w1 ⟨rfl, hb1⟩)
        (try go_simp)
        have hS1 := below_next hS hb1
        replace r10 := r10.still hb1
        replace r11 := r11.still hb1
        refine hK.out _ _ hS1 (fun h => ?_)
        clear h hK K hb1
        rw [← hG.out]
        exact dag_step3 (std1_2.out w1 g10 g11 hS1 r10 r11 G10 G11 d10_11) (by kernel_rfl) (by kernel_rfl) (hF.out _ _ _ _))
    have std1_7 : Hid (∀ (cur : World) (g10 : Nat), Below Vd1_.heap.size Vd1_ cur → RW cur g10 0 (c4 (0)) → Vd1_.heap.size ≤ g10 → G 4 #[true, true, true, true, true, true, true, true, true, false, true, false, false, false] (F (.pointer (some ⟨g10, 0, none⟩)) undef (numV xx) undef) cur) := Hid.mk' (by
      intro cur g10 hS r10 G10
      rw [hF.out, hG.out]
      clear std1_0 std1_1 std1_2 std1_4 std1_5
      refine wpAnyH_ready (rs := [9, 11]) (by kernel_rfl) (by simp) ?_
      refine AllReadyH.cons (o := qd1x9) rfl (fun K hK => ?_) (AllReadyH.cons (o := qd1x11) rfl (fun K hK => ?_) (AllReadyH.nil))
      · unfold qd1x9
        go_simp
        (go_at_call 51; refine (k2 _).mono ?_; rintro e w1 ⟨rfl, hb1⟩)
        (try go_simp)
        have hS1 := below_next hS hb1
        replace r10 := r10.still hb1
        refine hK.out _ _ hS1 (fun h => ?_)
        clear h hK K hb1
        rw [← hG.out]
        exact dag_step3 (std1_3.out w1 g10 hS1 r10 G10) (by kernel_rfl) (by kernel_rfl) (hF.out _ _ _ _)
      · unfold qd1x11
        go_simp
        obtain ⟨w1, g11, hw1, hg1, hb1, r11⟩ := fresh4 cur
        rw [hw1, hg1]
        have hS1 := below_next hS hb1
        have G11 : Vd1_.heap.size ≤ g11 := by have := hS.size; omega
        have d10_11 : g10 ≠ g11 := by have := r10.lt; omega
        replace r10 := r10.still hb1
        refine hK.out _ _ hS1 (fun h => ?_)
        clear h hK K hb1 hw1 hg1
        rw [← hG.out]
        exact dag_step3 (std1_6.out w1 g10 g11 hS1 r10 r11 G10 G11 d10_11) (by kernel_rfl) (by kernel_rfl) (hF.out _ _ _ _))
    have std1_8 : Hid (∀ (cur : World) (g11 : Nat), Below Vd1_.heap.size Vd1_ cur → RW cur g11 0 (c4 (0)) → Vd1_.heap.size ≤ g11 → G 4 #[true, true, true, true, true, true, true, true, true, false, false, true, false, false] (F undef (.pointer (some ⟨g11, 0, none⟩)) (numV xx) undef) cur) := Hid.mk' (by
      intro cur g11 hS r11 G11
      rw [hF.out, hG.out]
      clear std1_0 std1_1 std1_2 std1_3 std1_5 std1_7
      refine wpAnyH_ready (rs := [9, 10]) (by kernel_rfl) (by simp) ?_
      refine AllReadyH.cons (o := qd1x9) rfl (fun K hK => ?_) (AllReadyH.cons (o := qd1x10) rfl (fun K hK => ?_) (AllReadyH.nil))
      · unfold qd1x9
        go_simp
        (go_at_call 51; refine (k2 _).mono ?_; rintro e w1 ⟨rfl, hb1⟩)
        (try go_simp)
        have hS1 := below_next hS hb1
        replace r11 := r11.still hb1
        refine hK.out _ _ hS1 (fun h => ?_)
        clear h hK K hb1
        rw [← hG.out]
        exact dag_step3 (std1_4.out w1 g11 hS1 r11 G11) (by kernel_rfl) (by kernel_rfl) (hF.out _ _ _ _)
      · unfold qd1x10
        go_simp
        obtain ⟨w1, g10, hw1, hg1, hb1, r10⟩ := fresh4 cur
        rw [hw1, hg1]
        have hS1 := below_next hS hb1
        have G10 : Vd1_.heap.size ≤ g10 := by have := hS.size; omega
        have d10_11 : g10 ≠ g11 := by have := r11.lt; omega
        replace r11 := r11.still hb1
        refine hK.out _ _ hS1 (fun h => ?_)
        clear h hK K hb1 hw1 hg1
        rw [← hG.out]
        exact dag_step3 (std1_6.out w1 g10 g11 hS1 r10 r11 G10 G11 d10_11) (by kernel_rfl) (by kernel_rfl) (hF.out _ _ _ _))
    have std1_9 : Hid (∀ (cur : World), Below Vd1_.heap.size Vd1_ cur → G 5 #[true, true, true, true, true, true, true, true, true, false, false, false, false, false] (F undef undef (numV xx) undef) cur) := Hid.mk' (by
      intro cur  hS 
      rw [hF.out, hG.out]
      clear std1_0 std1_1 std1_2 std1_3 std1_4 std1_6
      refine wpAnyH_ready (rs := [9, 10, 11]) (by kernel_rfl) (by simp) ?_
      refine AllReadyH.cons (o := qd1x9) rfl (fun K hK => ?_) (AllReadyH.cons (o := qd1x10) rfl (fun K hK => ?_) (AllReadyH.cons (o := qd1x11) rfl (fun K hK => ?_) (AllReadyH.nil)))
      · unfold qd1x9
        go_simp
        (go_at_call 51; refine (k2 _).mono ?_; rintro e w1 ⟨rfl, hb1⟩)
        (try go_simp)
        have hS1 := below_next hS hb1
        refine hK.out _ _ hS1 (fun h => ?_)
        clear h hK K hb1
        rw [← hG.out]
        exact dag_step3 (std1_5.out w1  hS1 ) (by kernel_rfl) (by kernel_rfl) (hF.out _ _ _ _)
      · unfold qd1x10
        go_simp
        obtain ⟨w1, g10, hw1, hg1, hb1, r10⟩ := fresh4 cur
        rw [hw1, hg1]
        have hS1 := below_next hS hb1
        have G10 : Vd1_.heap.size ≤ g10 := by have := hS.size; omega
        refine hK.out _ _ hS1 (fun h => ?_)
        clear h hK K hb1 hw1 hg1
        rw [← hG.out]
        exact dag_step3 (std1_7.out w1 g10 hS1 r10 G10) (by kernel_rfl) (by kernel_rfl) (hF.out _ _ _ _)
      · unfold qd1x11
        go_simp
        obtain ⟨w1, g11, hw1, hg1, hb1, r11⟩ := fresh4 cur
        rw [hw1, hg1]
        have hS1 := below_next hS hb1
        have G11 : Vd1_.heap.size ≤ g11 := by have := hS.size; omega
        refine hK.out _ _ hS1 (fun h => ?_)
        clear h hK K hb1 hw1 hg1
        rw [← hG.out]
        exact dag_step3 (std1_8.out w1 g11 hS1 r11 G11) (by kernel_rfl) (by kernel_rfl) (hF.out _ _ _ _))
    have std1_10 : Hid (∀ (cur : World) (g10 g11 : Nat), Below Vd1_.heap.size Vd1_ cur → RW cur g10 0 (c4 (0)) → RW cur g11 0 (c4 (0)) → Vd1_.heap.size ≤ g10 → Vd1_.heap.size ≤ g11 → g10 ≠ g11 → G 4 #[true, true, true, true, false, true, true, true, true, false, true, true, false, false] (F (.pointer (some ⟨g10, 0, none⟩)) (.pointer (some ⟨g11, 0, none⟩)) undef undef) cur) := Hid.mk' (by
      intro cur g10 g11 hS r10 r11 G10 G11 d10_11
      rw [hF.out, hG.out]
      clear std1_0 std1_1 std1_2 std1_3 std1_4 std1_5 std1_7 std1_8 std1_9
      refine wpAnyH_ready (rs := [4]) (by kernel_rfl) (by simp) ?_
      refine AllReadyH.cons (o := qd1x4) rfl (fun K hK => ?_) (AllReadyH.nil)
      · unfold qd1x4
        go_simp
        (go_at_call 51; refine (k1 _).mono ?_; rintro e w1 ⟨rfl, hb1⟩)
        (try go_simp)
        have hS1 := below_next hS hb1
        replace r10 := r10.still hb1
        replace r11 := r11.still hb1
        refine hK.out _ _ hS1 (fun h => ?_)
        clear h hK K hb1
        rw [← hG.out]
        exact dag_step3 (std1_6.out w1 g10 g11 hS1 r10 r11 G10 G11 d10_11) (by kernel_rfl) (by kernel_rfl) (hF.out _ _ _ _))
    have std1_11 : Hid (∀ (cur : World) (g10 : Nat), Below Vd1_.heap.size Vd1_ cur → RW cur g10 0 (c4 (0)) → Vd1_.heap.size ≤ g10 → G 5 #[true, true, true, true, false, true, true, true, true, false, true, false, false, false] (F (.pointer (some ⟨g10, 0, none⟩)) undef undef undef) cur) := Hid.mk' (by
      intro cur g10 hS r10 G10
      rw [hF.out, hG.out]
      clear std1_0 std1_1 std1_2 std1_3 std1_4 std1_5 std1_6 std1_8 std1_9
      refine wpAnyH_ready (rs := [4, 11]) (by kernel_rfl) (by simp) ?_
      refine AllReadyH.cons (o := qd1x4) rfl (fun K hK => ?_) (AllReadyH.cons (o := qd1x11) rfl (fun K hK => ?_) (AllReadyH.nil))
      · unfold qd1x4
        go_simp
        (go_at_call 51; refine (k1 _).mono ?_; rintro e w1 ⟨rfl, hb1⟩)
        (try go_simp)
        have hS1 := below_next hS hb1
        replace r10 := r10.still hb1
        refine hK.out _ _ hS1 (fun h => ?_)
        clear h hK K hb1
        rw [← hG.out]
        exact dag_step3 (std1_7.out w1 g10 hS1 r10 G10) (by kernel_rfl) (by kernel_rfl) (hF.out _ _ _ _)
      · unfold qd1x11
        go_simp
        obtain ⟨w1, g11, hw1, hg1, hb1, r11⟩ := fresh4 cur
        rw [hw1, hg1]
        have hS1 := below_next hS hb1
        have G11 : Vd1_.heap.size ≤ g11 := by have := hS.size; omega
        have d10_11 : g10 ≠ g11 := by have := r10.lt; omega
        replace r10 := r10.still hb1
        refine hK.out _ _ hS1 (fun h => ?_)
        clear h hK K hb1 hw1 hg1
        rw [← hG.out]
        exact dag_step3 (std1_10.out w1 g10 g11 hS1 r10 r11 G10 G11 d10_11) (by kernel_rfl) (by kernel_rfl) (hF.out _ _ _ _))
    have std1_12 : Hid (∀ (cur : World) (g11 : Nat), Below Vd1_.heap.size Vd1_ cur → RW cur g11 0 (c4 (0)) → Vd1_.heap.size ≤ g11 → G 5 #[true, true, true, true, false, true, true, true, true, false, false, true, false, false] (F undef (.pointer (some ⟨g11, 0, none⟩)) undef undef) cur) := Hid.mk' (by
      intro cur g11 hS r11 G11
      rw [hF.out, hG.out]
      clear std1_0 std1_1 std1_2 std1_3 std1_4 std1_5 std1_6 std1_7 std1_9 std1_11
      refine wpAnyH_ready (rs := [4, 10]) (by kernel_rfl) (by simp) ?_
      refine AllReadyH.cons (o := qd1x4) rfl (fun K hK => ?_) (AllReadyH.cons (o := qd1x10) rfl (fun K hK => ?_) (AllReadyH.nil))
      · unfold qd1x4
        go_simp
        (go_at_call 51; refine (k1 _).mono ?_; rintro e w1 ⟨rfl, hb1⟩)
        (try go_simp)
        have hS1 := below_next hS hb1
        replace r11 := r11.still hb1
        refine hK.out _ _ hS1 (fun h => ?_)
        clear h hK K hb1
        rw [← hG.out]
        exact dag_step3 (std1_8.out w1 g11 hS1 r11 G11) (by kernel_rfl) (by kernel_rfl) (hF.out _ _ _ _)
      · unfold qd1x10
        go_simp
        obtain ⟨w1, g10, hw1, hg1, hb1, r10⟩ := fresh4 cur
        rw [hw1, hg1]
        have hS1 := below_next hS hb1
        have G10 : Vd1_.heap.size ≤ g10 := by have := hS.size; omega
        have d10_11 : g10 ≠ g11 := by have := r11.lt; omega
        replace r11 := r11.still hb1
        refine hK.out _ _ hS1 (fun h => ?_)
        clear h hK K hb1 hw1 hg1
        rw [← hG.out]
        exact dag_step3 (std1_10.out w1 g10 g11 hS1 r10 r11 G10 G11 d10_11) (by kernel_rfl) (by kernel_rfl) (hF.out _ _ _ _))
    have std1_13 : Hid (∀ (cur : World), Below Vd1_.heap.size Vd1_ cur → G 6 #[true, true, true, true, false, true, true, true, true, false, false, false, false, false] (F undef undef undef undef) cur) := Hid.mk' (by
      intro cur  hS 
      rw [hF.out, hG.out]
      clear std1_0 std1_1 std1_2 std1_3 std1_4 std1_5 std1_6 std1_7 std1_8 std1_10
      refine wpAnyH_ready (rs := [4, 10, 11]) (by kernel_rfl) (by simp) ?_
      refine AllReadyH.cons (o := qd1x4) rfl (fun K hK => ?_) (AllReadyH.cons (o := qd1x10) rfl (fun K hK => ?_) (AllReadyH.cons (o := qd1x11) rfl (fun K hK => ?_) (AllReadyH.nil)))
      · unfold qd1x4
        go_simp
        (go_at_call 51; refine (k1 _).mono ?_; rintro e w1 ⟨rfl, hb1⟩)
        (try go_simp)
        have hS1 := below_next hS hb1
        refine hK.out _ _ hS1 (fun h => ?_)
        clear h hK K hb1
        rw [← hG.out]
        exact dag_step3 (std1_9.out w1  hS1 ) (by kernel_rfl) (by kernel_rfl) (hF.out _ _ _ _)
      · unfold qd1x10
        go_simp
        obtain ⟨w1, g10, hw1, hg1, hb1, r10⟩ := fresh4 cur
        rw [hw1, hg1]
        have hS1 := below_next hS hb1
        have G10 : Vd1_.heap.size ≤ g10 := by have := hS.size; omega
        refine hK.out _ _ hS1 (fun h => ?_)
        clear h hK K hb1 hw1 hg1
        rw [← hG.out]
        exact dag_step3 (std1_11.out w1 g10 hS1 r10 G10) (by kernel_rfl) (by kernel_rfl) (hF.out _ _ _ _)
      · unfold qd1x11
        go_simp
        obtain ⟨w1, g11, hw1, hg1, hb1, r11⟩ := fresh4 cur
        rw [hw1, hg1]
        have hS1 := below_next hS hb1
        have G11 : Vd1_.heap.size ≤ g11 := by have := hS.size; omega
        refine hK.out _ _ hS1 (fun h => ?_)
        clear h hK K hb1 hw1 hg1
        rw [← hG.out]
        exact dag_step3 (std1_12.out w1 g11 hS1 r11 G11) (by kernel_rfl) (by kernel_rfl) (hF.out _ _ _ _))
    exact dag_step3 (std1_13.out Vd1_ hS) (by kernel_rfl) (by kernel_rfl) (hF.out _ _ _ _)
  case rest =>
  obtain ⟨b5, b6, rfl, rfl, hb1, B5, B6, h5, h6⟩ := hcut
  have lt4 := hres.lt
  have n54 : b5 ≠ g4 := by omega
  have n64 : b6 ≠ g4 := by omega
  clear lt4 B5 B6 k1 k2 
  replace pX := pX.still hb1
  replace pY := pY.still hb1
  replace pZ := pZ.still hb1
  replace pT := pT.still hb1
  replace qX := qX.still hb1
  replace qY := qY.still hb1
  replace qZ := qZ.still hb1
  replace qT := qT.still hb1
  replace hres := hres.still hb1
  obtain ⟨U1, hU⟩ : ∃ W, W = wc := ⟨_, rfl⟩
  rw [← hU]
  rw [← hU] at pX pY pZ pT qX qY qZ qT hres h5 h6 hb1
  replace hbW := below_next hbW hb1
  clear hU hb1
  go_upto_region 2 with (fail)
  go_cut [7, 8] from 10 (fun s7 s8 wc => ∃ h7 h8 : Nat, s7 = .pointer (some ⟨h7, 0, none⟩) ∧ s8 = .pointer (some ⟨h8, 0, none⟩) ∧ Below U1.heap.size U1 wc ∧ U1.heap.size ≤ h7 ∧ U1.heap.size ≤ h8 ∧ RW wc h7 0 (c4 zz) ∧ RW wc h8 0 (c4 tt))
  case first =>
    clear k7 k8 k9 k10 k11 k12 k13 k14 k15 pX pY qX qY hres h5 h6 hbW
    have hdrew : Below U1.heap.size U1 U1.drew := (Below.refl _ _).drew
    replace pZ := pZ.still hdrew
    replace pT := pT.still hdrew
    replace qZ := qZ.still hdrew
    replace qT := qT.still hdrew
    refine wp_region_noPanic ?_
    refine wp_region_held_drew (S := fun w' => Below U1.drew.heap.size U1.drew w') (by kernel_rfl) (Below.refl _ _) (fun hS => ?_)
    generalize U1.drew = Vd2_ at *
    refine wpAnyH_take (i := 0) (oi := { dst := some 20, op := Op.fieldAddr 30 (Operand.tmp 2) 2, type := 0, pos := "curve.go:55", after := #[], guard := none }) (v := ?vd2_t1) rfl (by kernel_rfl) (by kernel_rfl) (by kernel_rfl) (fun _ _ _ h => h) (Or.inl ⟨by rfl, ?hd2_t1⟩) hS ?rd2_t1
    case hd2_t1 =>
      intro w hSw
      go_simp
      try with_reducible rfl
    (try simp only [Act.put, List.setIfInBounds_toArray, List.set_cons_zero, List.set_cons_succ])
    refine wpAnyH_take (i := 1) (oi := { dst := some 21, op := Op.load 28 (Operand.tmp 20), type := 28, pos := "curve.go:55", after := #[{ on := 0, ground := Ground.data }], guard := none }) (v := numV pz) rfl (by kernel_rfl) (by kernel_rfl) (by kernel_rfl) (fun _ _ _ h => h) (yieldsIf_load_mid (by rfl) 28 _ rfl g2 8 rfl (c4 pz) _ (fun _ h => (pZ.still h).range) Tryd.underlying28 rfl info4) hS ?_
    (try simp only [Act.put, List.setIfInBounds_toArray, List.set_cons_zero, List.set_cons_succ])
    refine wpAnyH_take (i := 2) (oi := { dst := some 22, op := Op.fieldAddr 30 (Operand.tmp 3) 2, type := 0, pos := "curve.go:55", after := #[], guard := none }) (v := ?vd2_t2) rfl (by kernel_rfl) (by kernel_rfl) (by kernel_rfl) (fun _ _ _ h => h) (Or.inl ⟨by rfl, ?hd2_t2⟩) hS ?rd2_t2
    case hd2_t2 =>
      intro w hSw
      go_simp
      try with_reducible rfl
    (try simp only [Act.put, List.setIfInBounds_toArray, List.set_cons_zero, List.set_cons_succ])
    refine wpAnyH_take (i := 3) (oi := { dst := some 23, op := Op.load 28 (Operand.tmp 22), type := 28, pos := "curve.go:55", after := #[{ on := 2, ground := Ground.data }], guard := none }) (v := numV qz) rfl (by kernel_rfl) (by kernel_rfl) (by kernel_rfl) (fun _ _ _ h => h) (yieldsIf_load_mid (by rfl) 28 _ rfl g3 8 rfl (c4 qz) _ (fun _ h => (qZ.still h).range) Tryd.underlying28 rfl info4) hS ?_
    (try simp only [Act.put, List.setIfInBounds_toArray, List.set_cons_zero, List.set_cons_succ])
    refine wpAnyH_take (i := 5) (oi := { dst := some 25, op := Op.fieldAddr 30 (Operand.tmp 2) 3, type := 0, pos := "curve.go:55", after := #[], guard := none }) (v := ?vd2_t3) rfl (by kernel_rfl) (by kernel_rfl) (by kernel_rfl) (fun _ _ _ h => h) (Or.inl ⟨by rfl, ?hd2_t3⟩) hS ?rd2_t3
    case hd2_t3 =>
      intro w hSw
      go_simp
      try with_reducible rfl
    (try simp only [Act.put, List.setIfInBounds_toArray, List.set_cons_zero, List.set_cons_succ])
    refine wpAnyH_take (i := 6) (oi := { dst := some 26, op := Op.load 28 (Operand.tmp 25), type := 28, pos := "curve.go:55", after := #[{ on := 5, ground := Ground.data }], guard := none }) (v := numV pt) rfl (by kernel_rfl) (by kernel_rfl) (by kernel_rfl) (fun _ _ _ h => h) (yieldsIf_load_mid (by rfl) 28 _ rfl g2 12 rfl (c4 pt) _ (fun _ h => (pT.still h).range) Tryd.underlying28 rfl info4) hS ?_
    (try simp only [Act.put, List.setIfInBounds_toArray, List.set_cons_zero, List.set_cons_succ])
    refine wpAnyH_take (i := 7) (oi := { dst := some 27, op := Op.fieldAddr 30 (Operand.tmp 3) 3, type := 0, pos := "curve.go:55", after := #[], guard := none }) (v := ?vd2_t4) rfl (by kernel_rfl) (by kernel_rfl) (by kernel_rfl) (fun _ _ _ h => h) (Or.inl ⟨by rfl, ?hd2_t4⟩) hS ?rd2_t4
    case hd2_t4 =>
      intro w hSw
      go_simp
      try with_reducible rfl
    (try simp only [Act.put, List.setIfInBounds_toArray, List.set_cons_zero, List.set_cons_succ])
    refine wpAnyH_take (i := 8) (oi := { dst := some 28, op := Op.load 28 (Operand.tmp 27), type := 28, pos := "curve.go:55", after := #[{ on := 7, ground := Ground.data }], guard := none }) (v := numV qt) rfl (by kernel_rfl) (by kernel_rfl) (by kernel_rfl) (fun _ _ _ h => h) (yieldsIf_load_mid (by rfl) 28 _ rfl g3 12 rfl (c4 qt) _ (fun _ h => (qT.still h).range) Tryd.underlying28 rfl info4) hS ?_
    (try simp only [Act.put, List.setIfInBounds_toArray, List.set_cons_zero, List.set_cons_succ])
    refine dag_root (fun G hG0 => ?_)
    have hG := Hid.mk' hG0
    clear hG0
    obtain ⟨F, hF0⟩ : ∃ F : Value → Value → Value → Value → Value → Value → Act, ∀ v7 v8 v24 v29 v30 v31, F v7 v8 v24 v29 v30 v31 = { tmps := #[.agg (p16 px py pz pt).toArray, .agg (p16 qx qy qz qt).toArray, .pointer (some ⟨g2, 0, none⟩), .pointer (some ⟨g3, 0, none⟩), .pointer (some ⟨g4, 0, none⟩), .pointer (some ⟨b5, 0, none⟩), .pointer (some ⟨b6, 0, none⟩), v7, v8, undef, u10, u11, u12, u13, u14, u15, u16, u17, u18, u19, .pointer (some ⟨g2, 8, none⟩), numV pz, .pointer (some ⟨g3, 8, none⟩), numV qz, v24, .pointer (some ⟨g2, 12, none⟩), numV pt, .pointer (some ⟨g3, 12, none⟩), numV qt, v29, v30, v31, u32, u33, u34, u35, u36, u37, u38, u39, u40, u41, u42, u43, u44, u45, u46, u47, u48, u49, u50, u51, u52, u53, u54, u55, u56, u57], defers := [] } := ⟨_, fun _ _ _ _ _ _ => rfl⟩
    have hF := Hid.mk' hF0
    clear hF0
    have std2_0 : Hid (∀ (cur : World) (g12 g13 : Nat), Below Vd2_.heap.size Vd2_ cur → RW cur g12 0 (c4 (zz)) → RW cur g13 0 (c4 (tt)) → Vd2_.heap.size ≤ g12 → Vd2_.heap.size ≤ g13 → g12 ≠ g13 → G 0 #[true, true, true, true, true, true, true, true, true, true, true, true, true, true, true, true] (F (.pointer (some ⟨g12, 0, none⟩)) (.pointer (some ⟨g13, 0, none⟩)) (numV zz) (numV t0) (numV dd) (numV tt)) cur) := Hid.mk' (by
      intro cur g12 g13 hS r12 r13 G12 G13 d12_13
      rw [hF.out, hG.out]
      refine wpAnyH_done (by kernel_rfl) ?_ _
      refine NoPanic.normal ?_
      go_wp2
      go_meet
      case rel => exact ⟨g12, g13, rfl, rfl, below_next hdrew hS, Nat.le_trans hdrew.size G12, Nat.le_trans hdrew.size G13, r12, r13⟩)
    have std2_1 : Hid (∀ (cur : World) (g12 g13 : Nat), Below Vd2_.heap.size Vd2_ cur → RW cur g12 0 (c4 (zz)) → RW cur g13 0 (c4 (0)) → Vd2_.heap.size ≤ g12 → Vd2_.heap.size ≤ g13 → g12 ≠ g13 → G 1 #[true, true, true, true, true, true, true, true, true, true, true, true, true, true, true, false] (F (.pointer (some ⟨g12, 0, none⟩)) (.pointer (some ⟨g13, 0, none⟩)) (numV zz) (numV t0) (numV dd) (numV tt)) cur) := Hid.mk' (by
      intro cur g12 g13 hS r12 r13 G12 G13 d12_13
      rw [hF.out, hG.out]
      refine wpAnyH_ready (rs := [15]) (by kernel_rfl) (by simp) ?_
      refine AllReadyH.cons (o := qd2x15) rfl (fun K hK => ?_) (AllReadyH.nil)
      · unfold qd2x15
        rw [if_pos (by rfl)]
        refine num_store _ _ rfl g13 0 (tt) rfl rfl r13 hS G13 (fun w1 r0 hS1 far => ?_)
        replace r12 := far _ _ _ (by omega) r12
        refine hK.out _ _ hS1 (fun h => ?_)
        clear h hK K far r13
        have r13 := r0
        clear r0
        (try dsimp only [Act.put])
        rw [← hG.out]
        exact dag_step3 (std2_0.out w1 g12 g13 hS1 r12 r13 G12 G13 d12_13) (by kernel_rfl) (by kernel_rfl) (hF.out _ _ _ _ _ _))
    have std2_2 : Hid (∀ (cur : World) (g12 g13 : Nat), Below Vd2_.heap.size Vd2_ cur → RW cur g12 0 (c4 (0)) → RW cur g13 0 (c4 (0)) → Vd2_.heap.size ≤ g12 → Vd2_.heap.size ≤ g13 → g12 ≠ g13 → G 2 #[true, true, true, true, true, true, true, true, true, true, true, true, true, true, false, false] (F (.pointer (some ⟨g12, 0, none⟩)) (.pointer (some ⟨g13, 0, none⟩)) (numV zz) (numV t0) (numV dd) (numV tt)) cur) := Hid.mk' (by
      intro cur g12 g13 hS r12 r13 G12 G13 d12_13
      rw [hF.out, hG.out]
      clear std2_0
      refine wpAnyH_ready (rs := [14]) (by kernel_rfl) (by simp) ?_
      refine AllReadyH.cons (o := qd2x14) rfl (fun K hK => ?_) (AllReadyH.nil)
      · unfold qd2x14
        rw [if_pos (by rfl)]
        refine num_store _ _ rfl g12 0 (zz) rfl rfl r12 hS G12 (fun w1 r0 hS1 far => ?_)
        replace r13 := far _ _ _ (by omega) r13
        refine hK.out _ _ hS1 (fun h => ?_)
        clear h hK K far r12
        have r12 := r0
        clear r0
        (try dsimp only [Act.put])
        rw [← hG.out]
        exact dag_step3 (std2_1.out w1 g12 g13 hS1 r12 r13 G12 G13 d12_13) (by kernel_rfl) (by kernel_rfl) (hF.out _ _ _ _ _ _))
    have std2_3 : Hid (∀ (cur : World) (g12 : Nat), Below Vd2_.heap.size Vd2_ cur → RW cur g12 0 (c4 (0)) → Vd2_.heap.size ≤ g12 → G 3 #[true, true, true, true, true, true, true, true, true, true, true, true, true, false, false, false] (F (.pointer (some ⟨g12, 0, none⟩)) undef (numV zz) (numV t0) (numV dd) (numV tt)) cur) := Hid.mk' (by
      intro cur g12 hS r12 G12
      rw [hF.out, hG.out]
      clear std2_0 std2_1
      refine wpAnyH_ready (rs := [13]) (by kernel_rfl) (by simp) ?_
      refine AllReadyH.cons (o := qd2x13) rfl (fun K hK => ?_) (AllReadyH.nil)
      · unfold qd2x13
        go_simp
        obtain ⟨w1, g13, hw1, hg1, hb1, r13⟩ := fresh4 cur
        rw [hw1, hg1]
        have hS1 := below_next hS hb1
        have G13 : Vd2_.heap.size ≤ g13 := by have := hS.size; omega
        have d12_13 : g12 ≠ g13 := by have := r12.lt; omega
        replace r12 := r12.still hb1
        refine hK.out _ _ hS1 (fun h => ?_)
        clear h hK K hb1 hw1 hg1
        rw [← hG.out]
        exact dag_step3 (std2_2.out w1 g12 g13 hS1 r12 r13 G12 G13 d12_13) (by kernel_rfl) (by kernel_rfl) (hF.out _ _ _ _ _ _))
    have std2_4 : Hid (∀ (cur : World) (g13 : Nat), Below Vd2_.heap.size Vd2_ cur → RW cur g13 0 (c4 (0)) → Vd2_.heap.size ≤ g13 → G 3 #[true, true, true, true, true, true, true, true, true, true, true, true, false, true, false, false] (F undef (.pointer (some ⟨g13, 0, none⟩)) (numV zz) (numV t0) (numV dd) (numV tt)) cur) := Hid.mk' (by
      intro cur g13 hS r13 G13
      rw [hF.out, hG.out]
      clear std2_0 std2_1 std2_3
      refine wpAnyH_ready (rs := [12]) (by kernel_rfl) (by simp) ?_
      refine AllReadyH.cons (o := qd2x12) rfl (fun K hK => ?_) (AllReadyH.nil)
      · unfold qd2x12
        go_simp
        obtain ⟨w1, g12, hw1, hg1, hb1, r12⟩ := fresh4 cur
        rw [hw1, hg1]
        have hS1 := below_next hS hb1
        have G12 : Vd2_.heap.size ≤ g12 := by have := hS.size; omega
        have d12_13 : g12 ≠ g13 := by have := r13.lt; omega
        replace r13 := r13.still hb1
        refine hK.out _ _ hS1 (fun h => ?_)
        clear h hK K hb1 hw1 hg1
        rw [← hG.out]
        exact dag_step3 (std2_2.out w1 g12 g13 hS1 r12 r13 G12 G13 d12_13) (by kernel_rfl) (by kernel_rfl) (hF.out _ _ _ _ _ _))
    have std2_5 : Hid (∀ (cur : World), Below Vd2_.heap.size Vd2_ cur → G 4 #[true, true, true, true, true, true, true, true, true, true, true, true, false, false, false, false] (F undef undef (numV zz) (numV t0) (numV dd) (numV tt)) cur) := Hid.mk' (by
      intro cur  hS 
      rw [hF.out, hG.out]
      clear std2_0 std2_1 std2_2
      refine wpAnyH_ready (rs := [12, 13]) (by kernel_rfl) (by simp) ?_
      refine AllReadyH.cons (o := qd2x12) rfl (fun K hK => ?_) (AllReadyH.cons (o := qd2x13) rfl (fun K hK => ?_) (AllReadyH.nil))
      · unfold qd2x12
        go_simp
        obtain ⟨w1, g12, hw1, hg1, hb1, r12⟩ := fresh4 cur
        rw [hw1, hg1]
        have hS1 := below_next hS hb1
        have G12 : Vd2_.heap.size ≤ g12 := by have := hS.size; omega
        refine hK.out _ _ hS1 (fun h => ?_)
        clear h hK K hb1 hw1 hg1
        rw [← hG.out]
        exact dag_step3 (std2_3.out w1 g12 hS1 r12 G12) (by kernel_rfl) (by kernel_rfl) (hF.out _ _ _ _ _ _)
      · unfold qd2x13
        go_simp
        obtain ⟨w1, g13, hw1, hg1, hb1, r13⟩ := fresh4 cur
        rw [hw1, hg1]
        have hS1 := below_next hS hb1
        have G13 : Vd2_.heap.size ≤ g13 := by have := hS.size; omega
        refine hK.out _ _ hS1 (fun h => ?_)
        clear h hK K hb1 hw1 hg1
        rw [← hG.out]
        exact dag_step3 (std2_4.out w1 g13 hS1 r13 G13) (by kernel_rfl) (by kernel_rfl) (hF.out _ _ _ _ _ _))
    have std2_6 : Hid (∀ (cur : World) (g12 g13 : Nat), Below Vd2_.heap.size Vd2_ cur → RW cur g12 0 (c4 (0)) → RW cur g13 0 (c4 (0)) → Vd2_.heap.size ≤ g12 → Vd2_.heap.size ≤ g13 → g12 ≠ g13 → G 3 #[true, true, true, true, true, true, true, true, true, true, true, false, true, true, false, false] (F (.pointer (some ⟨g12, 0, none⟩)) (.pointer (some ⟨g13, 0, none⟩)) (numV zz) (numV t0) (numV dd) u31) cur) := Hid.mk' (by
      intro cur g12 g13 hS r12 r13 G12 G13 d12_13
      rw [hF.out, hG.out]
      clear std2_0 std2_1 std2_3 std2_4 std2_5
      refine wpAnyH_ready (rs := [11]) (by kernel_rfl) (by simp) ?_
      refine AllReadyH.cons (o := qd2x11) rfl (fun K hK => ?_) (AllReadyH.nil)
      · unfold qd2x11
        go_simp
        (go_at_call 51; refine (k6 _).mono ?_; rintro e w1 ⟨rfl, hb1⟩)
        (try go_simp)
        have hS1 := below_next hS hb1
        replace r12 := r12.still hb1
        replace r13 := r13.still hb1
        refine hK.out _ _ hS1 (fun h => ?_)
        clear h hK K hb1
        rw [← hG.out]
        exact dag_step3 (std2_2.out w1 g12 g13 hS1 r12 r13 G12 G13 d12_13) (by kernel_rfl) (by kernel_rfl) (hF.out _ _ _ _ _ _))
    have std2_7 : Hid (∀ (cur : World) (g12 : Nat), Below Vd2_.heap.size Vd2_ cur → RW cur g12 0 (c4 (0)) → Vd2_.heap.size ≤ g12 → G 4 #[true, true, true, true, true, true, true, true, true, true, true, false, true, false, false, false] (F (.pointer (some ⟨g12, 0, none⟩)) undef (numV zz) (numV t0) (numV dd) u31) cur) := Hid.mk' (by
      intro cur g12 hS r12 G12
      rw [hF.out, hG.out]
      clear std2_0 std2_1 std2_2 std2_4 std2_5
      refine wpAnyH_ready (rs := [11, 13]) (by kernel_rfl) (by simp) ?_
      refine AllReadyH.cons (o := qd2x11) rfl (fun K hK => ?_) (AllReadyH.cons (o := qd2x13) rfl (fun K hK => ?_) (AllReadyH.nil))
      · unfold qd2x11
        go_simp
        (go_at_call 51; refine (k6 _).mono ?_; rintro e w1 ⟨rfl, hb1⟩)
        (try go_simp)
        have hS1 := below_next hS hb1
        replace r12 := r12.still hb1
        refine hK.out _ _ hS1 (fun h => ?_)
        clear h hK K hb1
        rw [← hG.out]
        exact dag_step3 (std2_3.out w1 g12 hS1 r12 G12) (by kernel_rfl) (by kernel_rfl) (hF.out _ _ _ _ _ _)
      · unfold qd2x13
        go_simp
        obtain ⟨w1, g13, hw1, hg1, hb1, r13⟩ := fresh4 cur
        rw [hw1, hg1]
        have hS1 := below_next hS hb1
        have G13 : Vd2_.heap.size ≤ g13 := by have := hS.size; omega
        have d12_13 : g12 ≠ g13 := by have := r12.lt; omega
        replace r12 := r12.still hb1
        refine hK.out _ _ hS1 (fun h => ?_)
        clear h hK K hb1 hw1 hg1
        rw [← hG.out]
        exact dag_step3 (std2_6.out w1 g12 g13 hS1 r12 r13 G12 G13 d12_13) (by kernel_rfl) (by kernel_rfl) (hF.out _ _ _ _ _ _))
    have std2_8 : Hid (∀ (cur : World) (g13 : Nat), Below Vd2_.heap.size Vd2_ cur → RW cur g13 0 (c4 (0)) → Vd2_.heap.size ≤ g13 → G 4 #[true, true, true, true, true, true, true, true, true, true, true, false, false, true, false, false] (F undef (.pointer (some ⟨g13, 0, none⟩)) (numV zz) (numV t0) (numV dd) u31) cur) := Hid.mk' (by
      intro cur g13 hS r13 G13
      rw [hF.out, hG.out]
      clear std2_0 std2_1 std2_2 std2_3 std2_5 std2_7
      refine wpAnyH_ready (rs := [11, 12]) (by kernel_rfl) (by simp) ?_
      refine AllReadyH.cons (o := qd2x11) rfl (fun K hK => ?_) (AllReadyH.cons (o := qd2x12) rfl (fun K hK => ?_) (AllReadyH.nil))
      · unfold qd2x11
        go_simp
        (go_at_call 51; refine (k6 _).mono ?_; rintro e w1 ⟨rfl, hb1⟩)
        (try go_simp)
        have hS1 := below_next hS hb1
        replace r13 := r13.still hb1
        refine hK.out _ _ hS1 (fun h => ?_)
        clear h hK K hb1
        rw [← hG.out]
        exact dag_step3 (std2_4.out w1 g13 hS1 r13 G13) (by kernel_rfl) (by kernel_rfl) (hF.out _ _ _ _ _ _)
      · unfold qd2x12
        go_simp
        obtain ⟨w1, g12, hw1, hg1, hb1, r12⟩ := fresh4 cur
        rw [hw1, hg1]
        have hS1 := below_next hS hb1
        have G12 : Vd2_.heap.size ≤ g12 := by have := hS.size; omega
        have d12_13 : g12 ≠ g13 := by have := r13.lt; omega
        replace r13 := r13.still hb1
        refine hK.out _ _ hS1 (fun h => ?_)
        clear h hK K hb1 hw1 hg1
        rw [← hG.out]
        exact dag_step3 (std2_6.out w1 g12 g13 hS1 r12 r13 G12 G13 d12_13) (by kernel_rfl) (by kernel_rfl) (hF.out _ _ _ _ _ _))
    have std2_9 : Hid (∀ (cur : World), Below Vd2_.heap.size Vd2_ cur → G 5 #[true, true, true, true, true, true, true, true, true, true, true, false, false, false, false, false] (F undef undef (numV zz) (numV t0) (numV dd) u31) cur) := Hid.mk' (by
      intro cur  hS 
      rw [hF.out, hG.out]
      clear std2_0 std2_1 std2_2 std2_3 std2_4 std2_6
      refine wpAnyH_ready (rs := [11, 12, 13]) (by kernel_rfl) (by simp) ?_
      refine AllReadyH.cons (o := qd2x11) rfl (fun K hK => ?_) (AllReadyH.cons (o := qd2x12) rfl (fun K hK => ?_) (AllReadyH.cons (o := qd2x13) rfl (fun K hK => ?_) (AllReadyH.nil)))
      · unfold qd2x11
        go_simp
        (go_at_call 51; refine (k6 _).mono ?_; rintro e w1 ⟨rfl, hb1⟩)
        (try go_simp)
        have hS1 := below_next hS hb1
        refine hK.out _ _ hS1 (fun h => ?_)
        clear h hK K hb1
        rw [← hG.out]
        exact dag_step3 (std2_5.out w1  hS1 ) (by kernel_rfl) (by kernel_rfl) (hF.out _ _ _ _ _ _)
      · unfold qd2x12
        go_simp
        obtain ⟨w1, g12, hw1, hg1, hb1, r12⟩ := fresh4 cur
        rw [hw1, hg1]
        have hS1 := below_next hS hb1
        have G12 : Vd2_.heap.size ≤ g12 := by have := hS.size; omega
        refine hK.out _ _ hS1 (fun h => ?_)
        clear h hK K hb1 hw1 hg1
        rw [← hG.out]
        exact dag_step3 (std2_7.out w1 g12 hS1 r12 G12) (by kernel_rfl) (by kernel_rfl) (hF.out _ _ _ _ _ _)
      · unfold qd2x13
        go_simp
        obtain ⟨w1, g13, hw1, hg1, hb1, r13⟩ := fresh4 cur
        rw [hw1, hg1]
        have hS1 := below_next hS hb1
        have G13 : Vd2_.heap.size ≤ g13 := by have := hS.size; omega
        refine hK.out _ _ hS1 (fun h => ?_)
        clear h hK K hb1 hw1 hg1
        rw [← hG.out]
        exact dag_step3 (std2_8.out w1 g13 hS1 r13 G13) (by kernel_rfl) (by kernel_rfl) (hF.out _ _ _ _ _ _))
    have std2_10 : Hid (∀ (cur : World) (g12 g13 : Nat), Below Vd2_.heap.size Vd2_ cur → RW cur g12 0 (c4 (0)) → RW cur g13 0 (c4 (0)) → Vd2_.heap.size ≤ g12 → Vd2_.heap.size ≤ g13 → g12 ≠ g13 → G 4 #[true, true, true, true, true, true, true, true, true, true, false, false, true, true, false, false] (F (.pointer (some ⟨g12, 0, none⟩)) (.pointer (some ⟨g13, 0, none⟩)) (numV zz) (numV t0) u30 u31) cur) := Hid.mk' (by
      intro cur g12 g13 hS r12 r13 G12 G13 d12_13
      rw [hF.out, hG.out]
      clear std2_0 std2_1 std2_2 std2_3 std2_4 std2_5 std2_7 std2_8 std2_9
      refine wpAnyH_ready (rs := [10]) (by kernel_rfl) (by simp) ?_
      refine AllReadyH.cons (o := qd2x10) rfl (fun K hK => ?_) (AllReadyH.nil)
      · unfold qd2x10
        go_simp
        (go_at_call 66; refine (k5 _).mono ?_; rintro e w1 ⟨rfl, hb1⟩)
        (try go_simp)
        have hS1 := below_next hS hb1
        replace r12 := r12.still hb1
        replace r13 := r13.still hb1
        refine hK.out _ _ hS1 (fun h => ?_)
        clear h hK K hb1
        rw [← hG.out]
        exact dag_step3 (std2_6.out w1 g12 g13 hS1 r12 r13 G12 G13 d12_13) (by kernel_rfl) (by kernel_rfl) (hF.out _ _ _ _ _ _))
    have std2_11 : Hid (∀ (cur : World) (g12 : Nat), Below Vd2_.heap.size Vd2_ cur → RW cur g12 0 (c4 (0)) → Vd2_.heap.size ≤ g12 → G 5 #[true, true, true, true, true, true, true, true, true, true, false, false, true, false, false, false] (F (.pointer (some ⟨g12, 0, none⟩)) undef (numV zz) (numV t0) u30 u31) cur) := Hid.mk' (by
      intro cur g12 hS r12 G12
      rw [hF.out, hG.out]
      clear std2_0 std2_1 std2_2 std2_3 std2_4 std2_5 std2_6 std2_8 std2_9
      refine wpAnyH_ready (rs := [10, 13]) (by kernel_rfl) (by simp) ?_
      refine AllReadyH.cons (o := qd2x10) rfl (fun K hK => ?_) (AllReadyH.cons (o := qd2x13) rfl (fun K hK => ?_) (AllReadyH.nil))
      · unfold qd2x10
        go_simp
        (go_at_call 66; refine (k5 _).mono ?_; rintro e w1 ⟨rfl, hb1⟩)
        (try go_simp)
        have hS1 := below_next hS hb1
        replace r12 := r12.still hb1
        refine hK.out _ _ hS1 (fun h => ?_)
        clear h hK K hb1
        rw [← hG.out]
        exact dag_step3 (std2_7.out w1 g12 hS1 r12 G12) (by kernel_rfl) (by kernel_rfl) (hF.out _ _ _ _ _ _)
      · unfold qd2x13
        go_simp
        obtain ⟨w1, g13, hw1, hg1, hb1, r13⟩ := fresh4 cur
        rw [hw1, hg1]
        have hS1 := below_next hS hb1
        have G13 : Vd2_.heap.size ≤ g13 := by have := hS.size; omega
        have d12_13 : g12 ≠ g13 := by have := r12.lt; omega
        replace r12 := r12.still hb1
        refine hK.out _ _ hS1 (fun h => ?_)
        clear h hK K hb1 hw1 hg1
        rw [← hG.out]
        exact dag_step3 (std2_10.out w1 g12 g13 hS1 r12 r13 G12 G13 d12_13) (by kernel_rfl) (by kernel_rfl) (hF.out _ _ _ _ _ _))
    have std2_12 : Hid (∀ (cur : World) (g13 : Nat), Below Vd2_.heap.size Vd2_ cur → RW cur g13 0 (c4 (0)) → Vd2_.heap.size ≤ g13 → G 5 #[true, true, true, true, true, true, true, true, true, true, false, false, false, true, false, false] (F undef (.pointer (some ⟨g13, 0, none⟩)) (numV zz) (numV t0) u30 u31) cur) := Hid.mk' (by
      intro cur g13 hS r13 G13
      rw [hF.out, hG.out]
      clear std2_0 std2_1 std2_2 std2_3 std2_4 std2_5 std2_6 std2_7 std2_9 std2_11
      refine wpAnyH_ready (rs := [10, 12]) (by kernel_rfl) (by simp) ?_
      refine AllReadyH.cons (o := qd2x10) rfl (fun K hK => ?_) (AllReadyH.cons (o := qd2x12) rfl (fun K hK => ?_) (AllReadyH.nil))
      · unfold qd2x10
        go_simp
        (go_at_call 66; refine (k5 _).mono ?_; rintro e w1 ⟨rfl, hb1⟩)
        (try go_simp)
        have hS1 := below_next hS hb1
        replace r13 := r13.still hb1
        refine hK.out _ _ hS1 (fun h => ?_)
        clear h hK K hb1
        rw [← hG.out]
        exact dag_step3 (std2_8.out w1 g13 hS1 r13 G13) (by kernel_rfl) (by kernel_rfl) (hF.out _ _ _ _ _ _)
      · unfold qd2x12
        go_simp
        obtain ⟨w1, g12, hw1, hg1, hb1, r12⟩ := fresh4 cur
        rw [hw1, hg1]
        have hS1 := below_next hS hb1
        have G12 : Vd2_.heap.size ≤ g12 := by have := hS.size; omega
        have d12_13 : g12 ≠ g13 := by have := r13.lt; omega
        replace r13 := r13.still hb1
        refine hK.out _ _ hS1 (fun h => ?_)
        clear h hK K hb1 hw1 hg1
        rw [← hG.out]
        exact dag_step3 (std2_10.out w1 g12 g13 hS1 r12 r13 G12 G13 d12_13) (by kernel_rfl) (by kernel_rfl) (hF.out _ _ _ _ _ _))
    have std2_13 : Hid (∀ (cur : World), Below Vd2_.heap.size Vd2_ cur → G 6 #[true, true, true, true, true, true, true, true, true, true, false, false, false, false, false, false] (F undef undef (numV zz) (numV t0) u30 u31) cur) := Hid.mk' (by
      intro cur  hS 
      rw [hF.out, hG.out]
      clear std2_0 std2_1 std2_2 std2_3 std2_4 std2_5 std2_6 std2_7 std2_8 std2_10
      refine wpAnyH_ready (rs := [10, 12, 13]) (by kernel_rfl) (by simp) ?_
      refine AllReadyH.cons (o := qd2x10) rfl (fun K hK => ?_) (AllReadyH.cons (o := qd2x12) rfl (fun K hK => ?_) (AllReadyH.cons (o := qd2x13) rfl (fun K hK => ?_) (AllReadyH.nil)))
      · unfold qd2x10
        go_simp
        (go_at_call 66; refine (k5 _).mono ?_; rintro e w1 ⟨rfl, hb1⟩)
        (try go_simp)
        have hS1 := below_next hS hb1
        refine hK.out _ _ hS1 (fun h => ?_)
        clear h hK K hb1
        rw [← hG.out]
        exact dag_step3 (std2_9.out w1  hS1 ) (by kernel_rfl) (by kernel_rfl) (hF.out _ _ _ _ _ _)
      · unfold qd2x12
        go_simp
        obtain ⟨w1, g12, hw1, hg1, hb1, r12⟩ := fresh4 cur
        rw [hw1, hg1]
        have hS1 := below_next hS hb1
        have G12 : Vd2_.heap.size ≤ g12 := by have := hS.size; omega
        refine hK.out _ _ hS1 (fun h => ?_)
        clear h hK K hb1 hw1 hg1
        rw [← hG.out]
        exact dag_step3 (std2_11.out w1 g12 hS1 r12 G12) (by kernel_rfl) (by kernel_rfl) (hF.out _ _ _ _ _ _)
      · unfold qd2x13
        go_simp
        obtain ⟨w1, g13, hw1, hg1, hb1, r13⟩ := fresh4 cur
        rw [hw1, hg1]
        have hS1 := below_next hS hb1
        have G13 : Vd2_.heap.size ≤ g13 := by have := hS.size; omega
        refine hK.out _ _ hS1 (fun h => ?_)
        clear h hK K hb1 hw1 hg1
        rw [← hG.out]
        exact dag_step3 (std2_12.out w1 g13 hS1 r13 G13) (by kernel_rfl) (by kernel_rfl) (hF.out _ _ _ _ _ _))
    have std2_14 : Hid (∀ (cur : World) (g12 g13 : Nat), Below Vd2_.heap.size Vd2_ cur → RW cur g12 0 (c4 (0)) → RW cur g13 0 (c4 (0)) → Vd2_.heap.size ≤ g12 → Vd2_.heap.size ≤ g13 → g12 ≠ g13 → G 5 #[true, true, true, true, true, true, true, true, true, false, false, false, true, true, false, false] (F (.pointer (some ⟨g12, 0, none⟩)) (.pointer (some ⟨g13, 0, none⟩)) (numV zz) u29 u30 u31) cur) := Hid.mk' (by
      intro cur g12 g13 hS r12 r13 G12 G13 d12_13
      rw [hF.out, hG.out]
      clear std2_0 std2_1 std2_2 std2_3 std2_4 std2_5 std2_6 std2_7 std2_8 std2_9 std2_11 std2_12 std2_13
      refine wpAnyH_ready (rs := [9]) (by kernel_rfl) (by simp) ?_
      refine AllReadyH.cons (o := qd2x9) rfl (fun K hK => ?_) (AllReadyH.nil)
      · unfold qd2x9
        go_simp
        (go_at_call 51; refine (k4 _).mono ?_; rintro e w1 ⟨rfl, hb1⟩)
        (try go_simp)
        have hS1 := below_next hS hb1
        replace r12 := r12.still hb1
        replace r13 := r13.still hb1
        refine hK.out _ _ hS1 (fun h => ?_)
        clear h hK K hb1
        rw [← hG.out]
        exact dag_step3 (std2_10.out w1 g12 g13 hS1 r12 r13 G12 G13 d12_13) (by kernel_rfl) (by kernel_rfl) (hF.out _ _ _ _ _ _))
    have std2_15 : Hid (∀ (cur : World) (g12 : Nat), Below Vd2_.heap.size Vd2_ cur → RW cur g12 0 (c4 (0)) → Vd2_.heap.size ≤ g12 → G 6 #[true, true, true, true, true, true, true, true, true, false, false, false, true, false, false, false] (F (.pointer (some ⟨g12, 0, none⟩)) undef (numV zz) u29 u30 u31) cur) := Hid.mk' (by
      intro cur g12 hS r12 G12
      rw [hF.out, hG.out]
      clear std2_0 std2_1 std2_2 std2_3 std2_4 std2_5 std2_6 std2_7 std2_8 std2_9 std2_10 std2_12 std2_13
      refine wpAnyH_ready (rs := [9, 13]) (by kernel_rfl) (by simp) ?_
      refine AllReadyH.cons (o := qd2x9) rfl (fun K hK => ?_) (AllReadyH.cons (o := qd2x13) rfl (fun K hK => ?_) (AllReadyH.nil))
      · unfold qd2x9
        go_simp
        (go_at_call 51; refine (k4 _).mono ?_; rintro e w1 ⟨rfl, hb1⟩)
        (try go_simp)
        have hS1 := below_next hS hb1
        replace r12 := r12.still hb1
        refine hK.out _ _ hS1 (fun h => ?_)
        clear h hK K hb1
        rw [← hG.out]
        exact dag_step3 (std2_11.out w1 g12 hS1 r12 G12) (by kernel_rfl) (by kernel_rfl) (hF.out _ _ _ _ _ _)
      · unfold qd2x13
        go_simp
        obtain ⟨w1, g13, hw1, hg1, hb1, r13⟩ := fresh4 cur
        rw [hw1, hg1]
        have hS1 := below_next hS hb1
        have G13 : Vd2_.heap.size ≤ g13 := by have := hS.size; omega
        have d12_13 : g12 ≠ g13 := by have := r12.lt; omega
        replace r12 := r12.still hb1
        refine hK.out _ _ hS1 (fun h => ?_)
        clear h hK K hb1 hw1 hg1
        rw [← hG.out]
        exact dag_step3 (std2_14.out w1 g12 g13 hS1 r12 r13 G12 G13 d12_13) (by kernel_rfl) (by kernel_rfl) (hF.out _ _ _ _ _ _))
    have std2_16 : Hid (∀ (cur : World) (g13 : Nat), Below Vd2_.heap.size Vd2_ cur → RW cur g13 0 (c4 (0)) → Vd2_.heap.size ≤ g13 → G 6 #[true, true, true, true, true, true, true, true, true, false, false, false, false, true, false, false] (F undef (.pointer (some ⟨g13, 0, none⟩)) (numV zz) u29 u30 u31) cur) := Hid.mk' (by
      intro cur g13 hS r13 G13
      rw [hF.out, hG.out]
      clear std2_0 std2_1 std2_2 std2_3 std2_4 std2_5 std2_6 std2_7 std2_8 std2_9 std2_10 std2_11 std2_13 std2_15
      refine wpAnyH_ready (rs := [9, 12]) (by kernel_rfl) (by simp) ?_
      refine AllReadyH.cons (o := qd2x9) rfl (fun K hK => ?_) (AllReadyH.cons (o := qd2x12) rfl (fun K hK => ?_) (AllReadyH.nil))
      · unfold qd2x9
        go_simp
        (go_at_call 51; refine (k4 _).mono ?_; rintro e w1 ⟨rfl, hb1⟩)
        (try go_simp)
        have hS1 := below_next hS hb1
        replace r13 := r13.still hb1
        refine hK.out _ _ hS1 (fun h => ?_)
        clear h hK K hb1
        rw [← hG.out]
        exact dag_step3 (std2_12.out w1 g13 hS1 r13 G13) (by kernel_rfl) (by kernel_rfl) (hF.out _ _ _ _ _ _)
      · unfold qd2x12
        go_simp
        obtain ⟨w1, g12, hw1, hg1, hb1, r12⟩ := fresh4 cur
        rw [hw1, hg1]
        have hS1 := below_next hS hb1
        have G12 : Vd2_.heap.size ≤ g12 := by have := hS.size; omega
        have d12_13 : g12 ≠ g13 := by have := r13.lt; omega
        replace r13 := r13.still hb1
        refine hK.out _ _ hS1 (fun h => ?_)
        clear h hK K hb1 hw1 hg1
        rw [← hG.out]
        exact dag_step3 (std2_14.out w1 g12 g13 hS1 r12 r13 G12 G13 d12_13) (by kernel_rfl) (by kernel_rfl) (hF.out _ _ _ _ _ _))
    have std2_17 : Hid (∀ (cur : World), Below Vd2_.heap.size Vd2_ cur → G 7 #[true, true, true, true, true, true, true, true, true, false, false, false, false, false, false, false] (F undef undef (numV zz) u29 u30 u31) cur) := Hid.mk' (by
      intro cur  hS 
      rw [hF.out, hG.out]
      clear std2_0 std2_1 std2_2 std2_3 std2_4 std2_5 std2_6 std2_7 std2_8 std2_9 std2_10 std2_11 std2_12 std2_14
      refine wpAnyH_ready (rs := [9, 12, 13]) (by kernel_rfl) (by simp) ?_
      refine AllReadyH.cons (o := qd2x9) rfl (fun K hK => ?_) (AllReadyH.cons (o := qd2x12) rfl (fun K hK => ?_) (AllReadyH.cons (o := qd2x13) rfl (fun K hK => ?_) (AllReadyH.nil)))
      · unfold qd2x9
        go_simp
        (go_at_call 51; refine (k4 _).mono ?_; rintro e w1 ⟨rfl, hb1⟩)
        (try go_simp)
        have hS1 := below_next hS hb1
        refine hK.out _ _ hS1 (fun h => ?_)
        clear h hK K hb1
        rw [← hG.out]
        exact dag_step3 (std2_13.out w1  hS1 ) (by kernel_rfl) (by kernel_rfl) (hF.out _ _ _ _ _ _)
      · unfold qd2x12
        go_simp
        obtain ⟨w1, g12, hw1, hg1, hb1, r12⟩ := fresh4 cur
        rw [hw1, hg1]
        have hS1 := below_next hS hb1
        have G12 : Vd2_.heap.size ≤ g12 := by have := hS.size; omega
        refine hK.out _ _ hS1 (fun h => ?_)
        clear h hK K hb1 hw1 hg1
        rw [← hG.out]
        exact dag_step3 (std2_15.out w1 g12 hS1 r12 G12) (by kernel_rfl) (by kernel_rfl) (hF.out _ _ _ _ _ _)
      · unfold qd2x13
        go_simp
        obtain ⟨w1, g13, hw1, hg1, hb1, r13⟩ := fresh4 cur
        rw [hw1, hg1]
        have hS1 := below_next hS hb1
        have G13 : Vd2_.heap.size ≤ g13 := by have := hS.size; omega
        refine hK.out _ _ hS1 (fun h => ?_)
        clear h hK K hb1 hw1 hg1
        rw [← hG.out]
        exact dag_step3 (std2_16.out w1 g13 hS1 r13 G13) (by kernel_rfl) (by kernel_rfl) (hF.out _ _ _ _ _ _))
    have std2_18 : Hid (∀ (cur : World) (g12 g13 : Nat), Below Vd2_.heap.size Vd2_ cur → RW cur g12 0 (c4 (0)) → RW cur g13 0 (c4 (0)) → Vd2_.heap.size ≤ g12 → Vd2_.heap.size ≤ g13 → g12 ≠ g13 → G 6 #[true, true, true, true, false, true, true, true, true, false, false, false, true, true, false, false] (F (.pointer (some ⟨g12, 0, none⟩)) (.pointer (some ⟨g13, 0, none⟩)) u24 u29 u30 u31) cur) := Hid.mk' (by
      intro cur g12 g13 hS r12 r13 G12 G13 d12_13
      rw [hF.out, hG.out]
      clear std2_0 std2_1 std2_2 std2_3 std2_4 std2_5 std2_6 std2_7 std2_8 std2_9 std2_10 std2_11 std2_12 std2_13 std2_15 std2_16 std2_17
      refine wpAnyH_ready (rs := [4]) (by kernel_rfl) (by simp) ?_
      refine AllReadyH.cons (o := qd2x4) rfl (fun K hK => ?_) (AllReadyH.nil)
      · unfold qd2x4
        go_simp
        (go_at_call 51; refine (k3 _).mono ?_; rintro e w1 ⟨rfl, hb1⟩)
        (try go_simp)
        have hS1 := below_next hS hb1
        replace r12 := r12.still hb1
        replace r13 := r13.still hb1
        refine hK.out _ _ hS1 (fun h => ?_)
        clear h hK K hb1
        rw [← hG.out]
        exact dag_step3 (std2_14.out w1 g12 g13 hS1 r12 r13 G12 G13 d12_13) (by kernel_rfl) (by kernel_rfl) (hF.out _ _ _ _ _ _))
    have std2_19 : Hid (∀ (cur : World) (g12 : Nat), Below Vd2_.heap.size Vd2_ cur → RW cur g12 0 (c4 (0)) → Vd2_.heap.size ≤ g12 → G 7 #[true, true, true, true, false, true, true, true, true, false, false, false, true, false, false, false] (F (.pointer (some ⟨g12, 0, none⟩)) undef u24 u29 u30 u31) cur) := Hid.mk' (by
      intro cur g12 hS r12 G12
      rw [hF.out, hG.out]
      clear std2_0 std2_1 std2_2 std2_3 std2_4 std2_5 std2_6 std2_7 std2_8 std2_9 std2_10 std2_11 std2_12 std2_13 std2_14 std2_16 std2_17
      refine wpAnyH_ready (rs := [4, 13]) (by kernel_rfl) (by simp) ?_
      refine AllReadyH.cons (o := qd2x4) rfl (fun K hK => ?_) (AllReadyH.cons (o := qd2x13) rfl (fun K hK => ?_) (AllReadyH.nil))
      · unfold qd2x4
        go_simp
        (go_at_call 51; refine (k3 _).mono ?_; rintro e w1 ⟨rfl, hb1⟩)
        (try go_simp)
        have hS1 := below_next hS hb1
        replace r12 := r12.still hb1
        refine hK.out _ _ hS1 (fun h => ?_)
        clear h hK K hb1
        rw [← hG.out]
        exact dag_step3 (std2_15.out w1 g12 hS1 r12 G12) (by kernel_rfl) (by kernel_rfl) (hF.out _ _ _ _ _ _)
      · unfold qd2x13
        go_simp
        obtain ⟨w1, g13, hw1, hg1, hb1, r13⟩ := fresh4 cur
        rw [hw1, hg1]
        have hS1 := below_next hS hb1
        have G13 : Vd2_.heap.size ≤ g13 := by have := hS.size; omega
        have d12_13 : g12 ≠ g13 := by have := r12.lt; omega
        replace r12 := r12.still hb1
        refine hK.out _ _ hS1 (fun h => ?_)
        clear h hK K hb1 hw1 hg1
        rw [← hG.out]
        exact dag_step3 (std2_18.out w1 g12 g13 hS1 r12 r13 G12 G13 d12_13) (by kernel_rfl) (by kernel_rfl) (hF.out _ _ _ _ _ _))
    have std2_20 : Hid (∀ (cur : World) (g13 : Nat), Below Vd2_.heap.size Vd2_ cur → RW cur g13 0 (c4 (0)) → Vd2_.heap.size ≤ g13 → G 7 #[true, true, true, true, false, true, true, true, true, false, false, false, false, true, false, false] (F undef (.pointer (some ⟨g13, 0, none⟩)) u24 u29 u30 u31) cur) := Hid.mk' (by
      intro cur g13 hS r13 G13
      rw [hF.out, hG.out]
      clear std2_0 std2_1 std2_2 std2_3 std2_4 std2_5 std2_6 std2_7 std2_8 std2_9 std2_10 std2_11 std2_12 std2_13 std2_14 std2_15 std2_17 std2_19
      refine wpAnyH_ready (rs := [4, 12]) (by kernel_rfl) (by simp) ?_
      refine AllReadyH.cons (o := qd2x4) rfl (fun K hK => ?_) (AllReadyH.cons (o := qd2x12) rfl (fun K hK => ?_) (AllReadyH.nil))
      · unfold qd2x4
        go_simp
        (go_at_call 51; refine (k3 _).mono ?_; rintro e w1 ⟨rfl, hb1⟩)
        (try go_simp)
        have hS1 := below_next hS hb1
        replace r13 := r13.still hb1
        refine hK.out _ _ hS1 (fun h => ?_)
        clear h hK K hb1
        rw [← hG.out]
        exact dag_step3 (std2_16.out w1 g13 hS1 r13 G13) (by kernel_rfl) (by kernel_rfl) (hF.out _ _ _ _ _ _)
      · unfold qd2x12
        go_simp
        obtain ⟨w1, g12, hw1, hg1, hb1, r12⟩ := fresh4 cur
        rw [hw1, hg1]
        have hS1 := below_next hS hb1
        have G12 : Vd2_.heap.size ≤ g12 := by have := hS.size; omega
        have d12_13 : g12 ≠ g13 := by have := r13.lt; omega
        replace r13 := r13.still hb1
        refine hK.out _ _ hS1 (fun h => ?_)
        clear h hK K hb1 hw1 hg1
        rw [← hG.out]
        exact dag_step3 (std2_18.out w1 g12 g13 hS1 r12 r13 G12 G13 d12_13) (by kernel_rfl) (by kernel_rfl) (hF.out _ _ _ _ _ _))
    have std2_21 : Hid (∀ (cur : World), Below Vd2_.heap.size Vd2_ cur → G 8 #[true, true, true, true, false, true, true, true, true, false, false, false, false, false, false, false] (F undef undef u24 u29 u30 u31) cur) := Hid.mk' (by
      intro cur  hS 
      rw [hF.out, hG.out]
      clear std2_0 std2_1 std2_2 std2_3 std2_4 std2_5 std2_6 std2_7 std2_8 std2_9 std2_10 std2_11 std2_12 std2_13 std2_14 std2_15 std2_16 std2_18
      refine wpAnyH_ready (rs := [4, 12, 13]) (by kernel_rfl) (by simp) ?_
      refine AllReadyH.cons (o := qd2x4) rfl (fun K hK => ?_) (AllReadyH.cons (o := qd2x12) rfl (fun K hK => ?_) (AllReadyH.cons (o := qd2x13) rfl (fun K hK => ?_) (AllReadyH.nil)))
      · unfold qd2x4
        go_simp
        (go_at_call 51; refine (k3 _).mono ?_; rintro e w1 ⟨rfl, hb1⟩)
        (try go_simp)
        have hS1 := below_next hS hb1
        refine hK.out _ _ hS1 (fun h => ?_)
        clear h hK K hb1
        rw [← hG.out]
        exact dag_step3 (std2_17.out w1  hS1 ) (by kernel_rfl) (by kernel_rfl) (hF.out _ _ _ _ _ _)
      · unfold qd2x12
        go_simp
        obtain ⟨w1, g12, hw1, hg1, hb1, r12⟩ := fresh4 cur
        rw [hw1, hg1]
        have hS1 := below_next hS hb1
        have G12 : Vd2_.heap.size ≤ g12 := by have := hS.size; omega
        refine hK.out _ _ hS1 (fun h => ?_)
        clear h hK K hb1 hw1 hg1
        rw [← hG.out]
        exact dag_step3 (std2_19.out w1 g12 hS1 r12 G12) (by kernel_rfl) (by kernel_rfl) (hF.out _ _ _ _ _ _)
      · unfold qd2x13
        go_simp
        obtain ⟨w1, g13, hw1, hg1, hb1, r13⟩ := fresh4 cur
        rw [hw1, hg1]
        have hS1 := below_next hS hb1
        have G13 : Vd2_.heap.size ≤ g13 := by have := hS.size; omega
        refine hK.out _ _ hS1 (fun h => ?_)
        clear h hK K hb1 hw1 hg1
        rw [← hG.out]
        exact dag_step3 (std2_20.out w1 g13 hS1 r13 G13) (by kernel_rfl) (by kernel_rfl) (hF.out _ _ _ _ _ _))
    exact dag_step3 (std2_21.out Vd2_ hS) (by kernel_rfl) (by kernel_rfl) (hF.out _ _ _ _ _ _)
  case rest =>
  obtain ⟨b7, b8, rfl, rfl, hb1, B7, B8, h7, h8⟩ := hcut
  have lt4 := hres.lt
  have n74 : b7 ≠ g4 := by omega
  have n84 : b8 ≠ g4 := by omega
  clear lt4 B7 B8 k3 k4 k5 k6 pZ pT qZ qT
  replace pX := pX.still hb1
  replace pY := pY.still hb1
  replace qX := qX.still hb1
  replace qY := qY.still hb1
  replace hres := hres.still hb1
  replace h5 := h5.still hb1
  replace h6 := h6.still hb1
  obtain ⟨U2, hU⟩ : ∃ W, W = wc := ⟨_, rfl⟩
  rw [← hU]
  rw [← hU] at pX pY qX qY hres h5 h6 h7 h8 hb1
  replace hbW := below_next hbW hb1
  clear hU hb1
  go_upto_region 3 with (fail)
  go_cut [9] from 10 (fun s9 wc => ∃ h9 : Nat, s9 = .pointer (some ⟨h9, 0, none⟩) ∧ Below U2.heap.size U2 wc ∧ U2.heap.size ≤ h9 ∧ RW wc h9 0 (c4 cr))
  case first =>
    clear k12 k13 k14 k15 hres h7 h8 hbW
    have hdrew : Below U2.heap.size U2 U2.drew := (Below.refl _ _).drew
    replace pX := pX.still hdrew
    replace pY := pY.still hdrew
    replace qX := qX.still hdrew
    replace qY := qY.still hdrew
    replace h5 := h5.still hdrew
    replace h6 := h6.still hdrew
    refine wp_region_noPanic ?_
    refine wp_region_held_drew (S := fun w' => Below U2.drew.heap.size U2.drew w') (by kernel_rfl) (Below.refl _ _) (fun hS => ?_)
    generalize U2.drew = Vd3_ at *
    refine wpAnyH_take (i := 0) (oi := { dst := some 32, op := Op.fieldAddr 30 (Operand.tmp 2) 0, type := 0, pos := "curve.go:56", after := #[], guard := none }) (v := ?vd3_t1) rfl (by kernel_rfl) (by kernel_rfl) (by kernel_rfl) (fun _ _ _ h => h) (Or.inl ⟨by rfl, ?hd3_t1⟩) hS ?rd3_t1
    case hd3_t1 =>
      intro w hSw
      go_simp
      try with_reducible rfl
    (try simp only [Act.put, List.setIfInBounds_toArray, List.set_cons_zero, List.set_cons_succ])
    refine wpAnyH_take (i := 1) (oi := { dst := some 33, op := Op.load 28 (Operand.tmp 32), type := 28, pos := "curve.go:56", after := #[{ on := 0, ground := Ground.data }], guard := none }) (v := numV px) rfl (by kernel_rfl) (by kernel_rfl) (by kernel_rfl) (fun _ _ _ h => h) (yieldsIf_load_mid (by rfl) 28 _ rfl g2 0 rfl (c4 px) _ (fun _ h => (pX.still h).range) Tryd.underlying28 rfl info4) hS ?_
    (try simp only [Act.put, List.setIfInBounds_toArray, List.set_cons_zero, List.set_cons_succ])
    refine wpAnyH_take (i := 2) (oi := { dst := some 34, op := Op.fieldAddr 30 (Operand.tmp 2) 1, type := 0, pos := "curve.go:56", after := #[], guard := none }) (v := ?vd3_t2) rfl (by kernel_rfl) (by kernel_rfl) (by kernel_rfl) (fun _ _ _ h => h) (Or.inl ⟨by rfl, ?hd3_t2⟩) hS ?rd3_t2
    case hd3_t2 =>
      intro w hSw
      go_simp
      try with_reducible rfl
    (try simp only [Act.put, List.setIfInBounds_toArray, List.set_cons_zero, List.set_cons_succ])
    refine wpAnyH_take (i := 3) (oi := { dst := some 35, op := Op.load 28 (Operand.tmp 34), type := 28, pos := "curve.go:56", after := #[{ on := 2, ground := Ground.data }], guard := none }) (v := numV py) rfl (by kernel_rfl) (by kernel_rfl) (by kernel_rfl) (fun _ _ _ h => h) (yieldsIf_load_mid (by rfl) 28 _ rfl g2 4 rfl (c4 py) _ (fun _ h => (pY.still h).range) Tryd.underlying28 rfl info4) hS ?_
    (try simp only [Act.put, List.setIfInBounds_toArray, List.set_cons_zero, List.set_cons_succ])
    refine wpAnyH_take (i := 5) (oi := { dst := some 37, op := Op.fieldAddr 30 (Operand.tmp 3) 0, type := 0, pos := "curve.go:56", after := #[], guard := none }) (v := ?vd3_t3) rfl (by kernel_rfl) (by kernel_rfl) (by kernel_rfl) (fun _ _ _ h => h) (Or.inl ⟨by rfl, ?hd3_t3⟩) hS ?rd3_t3
    case hd3_t3 =>
      intro w hSw
      go_simp
      try with_reducible rfl
    (try simp only [Act.put, List.setIfInBounds_toArray, List.set_cons_zero, List.set_cons_succ])
    refine wpAnyH_take (i := 6) (oi := { dst := some 38, op := Op.load 28 (Operand.tmp 37), type := 28, pos := "curve.go:56", after := #[{ on := 5, ground := Ground.data }], guard := none }) (v := numV qx) rfl (by kernel_rfl) (by kernel_rfl) (by kernel_rfl) (fun _ _ _ h => h) (yieldsIf_load_mid (by rfl) 28 _ rfl g3 0 rfl (c4 qx) _ (fun _ h => (qX.still h).range) Tryd.underlying28 rfl info4) hS ?_
    (try simp only [Act.put, List.setIfInBounds_toArray, List.set_cons_zero, List.set_cons_succ])
    refine wpAnyH_take (i := 7) (oi := { dst := some 39, op := Op.fieldAddr 30 (Operand.tmp 3) 1, type := 0, pos := "curve.go:56", after := #[], guard := none }) (v := ?vd3_t4) rfl (by kernel_rfl) (by kernel_rfl) (by kernel_rfl) (fun _ _ _ h => h) (Or.inl ⟨by rfl, ?hd3_t4⟩) hS ?rd3_t4
    case hd3_t4 =>
      intro w hSw
      go_simp
      try with_reducible rfl
    (try simp only [Act.put, List.setIfInBounds_toArray, List.set_cons_zero, List.set_cons_succ])
    refine wpAnyH_take (i := 8) (oi := { dst := some 40, op := Op.load 28 (Operand.tmp 39), type := 28, pos := "curve.go:56", after := #[{ on := 7, ground := Ground.data }], guard := none }) (v := numV qy) rfl (by kernel_rfl) (by kernel_rfl) (by kernel_rfl) (fun _ _ _ h => h) (yieldsIf_load_mid (by rfl) 28 _ rfl g3 4 rfl (c4 qy) _ (fun _ h => (qY.still h).range) Tryd.underlying28 rfl info4) hS ?_
    (try simp only [Act.put, List.setIfInBounds_toArray, List.set_cons_zero, List.set_cons_succ])
    refine wpAnyH_take (i := 11) (oi := { dst := some 43, op := Op.load 28 (Operand.tmp 5), type := 28, pos := "curve.go:56", after := #[], guard := none }) (v := numV xx) rfl (by kernel_rfl) (by kernel_rfl) (by kernel_rfl) (fun _ _ _ h => h) (yieldsIf_load_mid (by rfl) 28 _ rfl b5 0 rfl (c4 xx) _ (fun _ h => (h5.still h).range) Tryd.underlying28 rfl info4) hS ?_
    (try simp only [Act.put, List.setIfInBounds_toArray, List.set_cons_zero, List.set_cons_succ])
    refine wpAnyH_take (i := 13) (oi := { dst := some 45, op := Op.load 28 (Operand.tmp 6), type := 28, pos := "curve.go:56", after := #[], guard := none }) (v := numV yy) rfl (by kernel_rfl) (by kernel_rfl) (by kernel_rfl) (fun _ _ _ h => h) (yieldsIf_load_mid (by rfl) 28 _ rfl b6 0 rfl (c4 yy) _ (fun _ h => (h6.still h).range) Tryd.underlying28 rfl info4) hS ?_
    (try simp only [Act.put, List.setIfInBounds_toArray, List.set_cons_zero, List.set_cons_succ])
    refine dag_root (fun G hG0 => ?_)
    have hG := Hid.mk' hG0
    clear hG0
    obtain ⟨F, hF0⟩ : ∃ F : Value → Value → Value → Value → Value → Value → Act, ∀ v9 v36 v41 v42 v44 v46, F v9 v36 v41 v42 v44 v46 = { tmps := #[.agg (p16 px py pz pt).toArray, .agg (p16 qx qy qz qt).toArray, .pointer (some ⟨g2, 0, none⟩), .pointer (some ⟨g3, 0, none⟩), .pointer (some ⟨g4, 0, none⟩), .pointer (some ⟨b5, 0, none⟩), .pointer (some ⟨b6, 0, none⟩), .pointer (some ⟨b7, 0, none⟩), .pointer (some ⟨b8, 0, none⟩), v9, u10, u11, u12, u13, u14, u15, u16, u17, u18, u19, u20, u21, u22, u23, u24, u25, u26, u27, u28, u29, u30, u31, .pointer (some ⟨g2, 0, none⟩), numV px, .pointer (some ⟨g2, 4, none⟩), numV py, v36, .pointer (some ⟨g3, 0, none⟩), numV qx, .pointer (some ⟨g3, 4, none⟩), numV qy, v41, v42, numV xx, v44, numV yy, v46, u47, u48, u49, u50, u51, u52, u53, u54, u55, u56, u57], defers := [] } := ⟨_, fun _ _ _ _ _ _ => rfl⟩
    have hF := Hid.mk' hF0
    clear hF0
    have std3_0 : Hid (∀ (cur : World) (g15 : Nat), Below Vd3_.heap.size Vd3_ cur → RW cur g15 0 (c4 (cr)) → Vd3_.heap.size ≤ g15 → G 0 #[true, true, true, true, true, true, true, true, true, true, true, true, true, true, true, true, true] (F (.pointer (some ⟨g15, 0, none⟩)) (numV f1) (numV f2) (numV f3) (numV f4) (numV cr)) cur) := Hid.mk' (by
      intro cur g15 hS r15 G15
      rw [hF.out, hG.out]
      refine wpAnyH_done (by kernel_rfl) ?_ _
      refine NoPanic.normal ?_
      go_wp2
      go_meet
      case rel => exact ⟨g15, rfl, below_next hdrew hS, Nat.le_trans hdrew.size G15, r15⟩)
    have std3_1 : Hid (∀ (cur : World) (g15 : Nat), Below Vd3_.heap.size Vd3_ cur → RW cur g15 0 (c4 (0)) → Vd3_.heap.size ≤ g15 → G 1 #[true, true, true, true, true, true, true, true, true, true, true, true, true, true, true, true, false] (F (.pointer (some ⟨g15, 0, none⟩)) (numV f1) (numV f2) (numV f3) (numV f4) (numV cr)) cur) := Hid.mk' (by
      intro cur g15 hS r15 G15
      rw [hF.out, hG.out]
      refine wpAnyH_ready (rs := [16]) (by kernel_rfl) (by simp) ?_
      refine AllReadyH.cons (o := qd3x16) rfl (fun K hK => ?_) (AllReadyH.nil)
      · unfold qd3x16
        rw [if_pos (by rfl)]
        refine num_store _ _ rfl g15 0 (cr) rfl rfl r15 hS G15 (fun w1 r0 hS1 far => ?_)
        refine hK.out _ _ hS1 (fun h => ?_)
        clear h hK K far r15
        have r15 := r0
        clear r0
        (try dsimp only [Act.put])
        rw [← hG.out]
        exact dag_step3 (std3_0.out w1 g15 hS1 r15 G15) (by kernel_rfl) (by kernel_rfl) (hF.out _ _ _ _ _ _))
    have std3_2 : Hid (∀ (cur : World), Below Vd3_.heap.size Vd3_ cur → G 2 #[true, true, true, true, true, true, true, true, true, true, true, true, true, true, true, false, false] (F undef (numV f1) (numV f2) (numV f3) (numV f4) (numV cr)) cur) := Hid.mk' (by
      intro cur  hS 
      rw [hF.out, hG.out]
      clear std3_0
      refine wpAnyH_ready (rs := [15]) (by kernel_rfl) (by simp) ?_
      refine AllReadyH.cons (o := qd3x15) rfl (fun K hK => ?_) (AllReadyH.nil)
      · unfold qd3x15
        go_simp
        obtain ⟨w1, g15, hw1, hg1, hb1, r15⟩ := fresh4 cur
        rw [hw1, hg1]
        have hS1 := below_next hS hb1
        have G15 : Vd3_.heap.size ≤ g15 := by have := hS.size; omega
        refine hK.out _ _ hS1 (fun h => ?_)
        clear h hK K hb1 hw1 hg1
        rw [← hG.out]
        exact dag_step3 (std3_1.out w1 g15 hS1 r15 G15) (by kernel_rfl) (by kernel_rfl) (hF.out _ _ _ _ _ _))
    have std3_3 : Hid (∀ (cur : World) (g15 : Nat), Below Vd3_.heap.size Vd3_ cur → RW cur g15 0 (c4 (0)) → Vd3_.heap.size ≤ g15 → G 2 #[true, true, true, true, true, true, true, true, true, true, true, true, true, true, false, true, false] (F (.pointer (some ⟨g15, 0, none⟩)) (numV f1) (numV f2) (numV f3) (numV f4) u46) cur) := Hid.mk' (by
      intro cur g15 hS r15 G15
      rw [hF.out, hG.out]
      clear std3_0 std3_2
      refine wpAnyH_ready (rs := [14]) (by kernel_rfl) (by simp) ?_
      refine AllReadyH.cons (o := qd3x14) rfl (fun K hK => ?_) (AllReadyH.nil)
      · unfold qd3x14
        go_simp
        (go_at_call 35; refine (k11 _).mono ?_; rintro e w1 ⟨rfl, hb1⟩)
        (try go_simp)
        have hS1 := below_next hS hb1
        replace r15 := r15.still hb1
        refine hK.out _ _ hS1 (fun h => ?_)
        clear h hK K hb1
        rw [← hG.out]
        exact dag_step3 (std3_1.out w1 g15 hS1 r15 G15) (by kernel_rfl) (by kernel_rfl) (hF.out _ _ _ _ _ _))
    have std3_4 : Hid (∀ (cur : World), Below Vd3_.heap.size Vd3_ cur → G 3 #[true, true, true, true, true, true, true, true, true, true, true, true, true, true, false, false, false] (F undef (numV f1) (numV f2) (numV f3) (numV f4) u46) cur) := Hid.mk' (by
      intro cur  hS 
      rw [hF.out, hG.out]
      clear std3_0 std3_1
      refine wpAnyH_ready (rs := [14, 15]) (by kernel_rfl) (by simp) ?_
      refine AllReadyH.cons (o := qd3x14) rfl (fun K hK => ?_) (AllReadyH.cons (o := qd3x15) rfl (fun K hK => ?_) (AllReadyH.nil))
      · unfold qd3x14
        go_simp
        (go_at_call 35; refine (k11 _).mono ?_; rintro e w1 ⟨rfl, hb1⟩)
        (try go_simp)
        have hS1 := below_next hS hb1
        refine hK.out _ _ hS1 (fun h => ?_)
        clear h hK K hb1
        rw [← hG.out]
        exact dag_step3 (std3_2.out w1  hS1 ) (by kernel_rfl) (by kernel_rfl) (hF.out _ _ _ _ _ _)
      · unfold qd3x15
        go_simp
        obtain ⟨w1, g15, hw1, hg1, hb1, r15⟩ := fresh4 cur
        rw [hw1, hg1]
        have hS1 := below_next hS hb1
        have G15 : Vd3_.heap.size ≤ g15 := by have := hS.size; omega
        refine hK.out _ _ hS1 (fun h => ?_)
        clear h hK K hb1 hw1 hg1
        rw [← hG.out]
        exact dag_step3 (std3_3.out w1 g15 hS1 r15 G15) (by kernel_rfl) (by kernel_rfl) (hF.out _ _ _ _ _ _))
    have std3_5 : Hid (∀ (cur : World) (g15 : Nat), Below Vd3_.heap.size Vd3_ cur → RW cur g15 0 (c4 (0)) → Vd3_.heap.size ≤ g15 → G 3 #[true, true, true, true, true, true, true, true, true, true, true, true, false, true, false, true, false] (F (.pointer (some ⟨g15, 0, none⟩)) (numV f1) (numV f2) (numV f3) u44 u46) cur) := Hid.mk' (by
      intro cur g15 hS r15 G15
      rw [hF.out, hG.out]
      clear std3_0 std3_1 std3_2 std3_4
      refine wpAnyH_ready (rs := [12]) (by kernel_rfl) (by simp) ?_
      refine AllReadyH.cons (o := qd3x12) rfl (fun K hK => ?_) (AllReadyH.nil)
      · unfold qd3x12
        go_simp
        (go_at_call 35; refine (k10 _).mono ?_; rintro e w1 ⟨rfl, hb1⟩)
        (try go_simp)
        have hS1 := below_next hS hb1
        replace r15 := r15.still hb1
        refine hK.out _ _ hS1 (fun h => ?_)
        clear h hK K hb1
        rw [← hG.out]
        exact dag_step3 (std3_3.out w1 g15 hS1 r15 G15) (by kernel_rfl) (by kernel_rfl) (hF.out _ _ _ _ _ _))
    have std3_6 : Hid (∀ (cur : World), Below Vd3_.heap.size Vd3_ cur → G 4 #[true, true, true, true, true, true, true, true, true, true, true, true, false, true, false, false, false] (F undef (numV f1) (numV f2) (numV f3) u44 u46) cur) := Hid.mk' (by
      intro cur  hS 
      rw [hF.out, hG.out]
      clear std3_0 std3_1 std3_2 std3_3
      refine wpAnyH_ready (rs := [12, 15]) (by kernel_rfl) (by simp) ?_
      refine AllReadyH.cons (o := qd3x12) rfl (fun K hK => ?_) (AllReadyH.cons (o := qd3x15) rfl (fun K hK => ?_) (AllReadyH.nil))
      · unfold qd3x12
        go_simp
        (go_at_call 35; refine (k10 _).mono ?_; rintro e w1 ⟨rfl, hb1⟩)
        (try go_simp)
        have hS1 := below_next hS hb1
        refine hK.out _ _ hS1 (fun h => ?_)
        clear h hK K hb1
        rw [← hG.out]
        exact dag_step3 (std3_4.out w1  hS1 ) (by kernel_rfl) (by kernel_rfl) (hF.out _ _ _ _ _ _)
      · unfold qd3x15
        go_simp
        obtain ⟨w1, g15, hw1, hg1, hb1, r15⟩ := fresh4 cur
        rw [hw1, hg1]
        have hS1 := below_next hS hb1
        have G15 : Vd3_.heap.size ≤ g15 := by have := hS.size; omega
        refine hK.out _ _ hS1 (fun h => ?_)
        clear h hK K hb1 hw1 hg1
        rw [← hG.out]
        exact dag_step3 (std3_5.out w1 g15 hS1 r15 G15) (by kernel_rfl) (by kernel_rfl) (hF.out _ _ _ _ _ _))
    have std3_7 : Hid (∀ (cur : World) (g15 : Nat), Below Vd3_.heap.size Vd3_ cur → RW cur g15 0 (c4 (0)) → Vd3_.heap.size ≤ g15 → G 4 #[true, true, true, true, true, true, true, true, true, true, false, true, false, true, false, true, false] (F (.pointer (some ⟨g15, 0, none⟩)) (numV f1) (numV f2) u42 u44 u46) cur) := Hid.mk' (by
      intro cur g15 hS r15 G15
      rw [hF.out, hG.out]
      clear std3_0 std3_1 std3_2 std3_3 std3_4 std3_6
      refine wpAnyH_ready (rs := [10]) (by kernel_rfl) (by simp) ?_
      refine AllReadyH.cons (o := qd3x10) rfl (fun K hK => ?_) (AllReadyH.nil)
      · unfold qd3x10
        go_simp
        (go_at_call 51; refine (k9 _).mono ?_; rintro e w1 ⟨rfl, hb1⟩)
        (try go_simp)
        have hS1 := below_next hS hb1
        replace r15 := r15.still hb1
        refine hK.out _ _ hS1 (fun h => ?_)
        clear h hK K hb1
        rw [← hG.out]
        exact dag_step3 (std3_5.out w1 g15 hS1 r15 G15) (by kernel_rfl) (by kernel_rfl) (hF.out _ _ _ _ _ _))
    have std3_8 : Hid (∀ (cur : World), Below Vd3_.heap.size Vd3_ cur → G 5 #[true, true, true, true, true, true, true, true, true, true, false, true, false, true, false, false, false] (F undef (numV f1) (numV f2) u42 u44 u46) cur) := Hid.mk' (by
      intro cur  hS 
      rw [hF.out, hG.out]
      clear std3_0 std3_1 std3_2 std3_3 std3_4 std3_5
      refine wpAnyH_ready (rs := [10, 15]) (by kernel_rfl) (by simp) ?_
      refine AllReadyH.cons (o := qd3x10) rfl (fun K hK => ?_) (AllReadyH.cons (o := qd3x15) rfl (fun K hK => ?_) (AllReadyH.nil))
      · unfold qd3x10
        go_simp
        (go_at_call 51; refine (k9 _).mono ?_; rintro e w1 ⟨rfl, hb1⟩)
        (try go_simp)
        have hS1 := below_next hS hb1
        refine hK.out _ _ hS1 (fun h => ?_)
        clear h hK K hb1
        rw [← hG.out]
        exact dag_step3 (std3_6.out w1  hS1 ) (by kernel_rfl) (by kernel_rfl) (hF.out _ _ _ _ _ _)
      · unfold qd3x15
        go_simp
        obtain ⟨w1, g15, hw1, hg1, hb1, r15⟩ := fresh4 cur
        rw [hw1, hg1]
        have hS1 := below_next hS hb1
        have G15 : Vd3_.heap.size ≤ g15 := by have := hS.size; omega
        refine hK.out _ _ hS1 (fun h => ?_)
        clear h hK K hb1 hw1 hg1
        rw [← hG.out]
        exact dag_step3 (std3_7.out w1 g15 hS1 r15 G15) (by kernel_rfl) (by kernel_rfl) (hF.out _ _ _ _ _ _))
    have std3_9 : Hid (∀ (cur : World) (g15 : Nat), Below Vd3_.heap.size Vd3_ cur → RW cur g15 0 (c4 (0)) → Vd3_.heap.size ≤ g15 → G 5 #[true, true, true, true, true, true, true, true, true, false, false, true, false, true, false, true, false] (F (.pointer (some ⟨g15, 0, none⟩)) (numV f1) u41 u42 u44 u46) cur) := Hid.mk' (by
      intro cur g15 hS r15 G15
      rw [hF.out, hG.out]
      clear std3_0 std3_1 std3_2 std3_3 std3_4 std3_5 std3_6 std3_8
      refine wpAnyH_ready (rs := [9]) (by kernel_rfl) (by simp) ?_
      refine AllReadyH.cons (o := qd3x9) rfl (fun K hK => ?_) (AllReadyH.nil)
      · unfold qd3x9
        go_simp
        (go_at_call 67; refine (k8 _).mono ?_; rintro e w1 ⟨rfl, hb1⟩)
        (try go_simp)
        have hS1 := below_next hS hb1
        replace r15 := r15.still hb1
        refine hK.out _ _ hS1 (fun h => ?_)
        clear h hK K hb1
        rw [← hG.out]
        exact dag_step3 (std3_7.out w1 g15 hS1 r15 G15) (by kernel_rfl) (by kernel_rfl) (hF.out _ _ _ _ _ _))
    have std3_10 : Hid (∀ (cur : World), Below Vd3_.heap.size Vd3_ cur → G 6 #[true, true, true, true, true, true, true, true, true, false, false, true, false, true, false, false, false] (F undef (numV f1) u41 u42 u44 u46) cur) := Hid.mk' (by
      intro cur  hS 
      rw [hF.out, hG.out]
      clear std3_0 std3_1 std3_2 std3_3 std3_4 std3_5 std3_6 std3_7
      refine wpAnyH_ready (rs := [9, 15]) (by kernel_rfl) (by simp) ?_
      refine AllReadyH.cons (o := qd3x9) rfl (fun K hK => ?_) (AllReadyH.cons (o := qd3x15) rfl (fun K hK => ?_) (AllReadyH.nil))
      · unfold qd3x9
        go_simp
        (go_at_call 67; refine (k8 _).mono ?_; rintro e w1 ⟨rfl, hb1⟩)
        (try go_simp)
        have hS1 := below_next hS hb1
        refine hK.out _ _ hS1 (fun h => ?_)
        clear h hK K hb1
        rw [← hG.out]
        exact dag_step3 (std3_8.out w1  hS1 ) (by kernel_rfl) (by kernel_rfl) (hF.out _ _ _ _ _ _)
      · unfold qd3x15
        go_simp
        obtain ⟨w1, g15, hw1, hg1, hb1, r15⟩ := fresh4 cur
        rw [hw1, hg1]
        have hS1 := below_next hS hb1
        have G15 : Vd3_.heap.size ≤ g15 := by have := hS.size; omega
        refine hK.out _ _ hS1 (fun h => ?_)
        clear h hK K hb1 hw1 hg1
        rw [← hG.out]
        exact dag_step3 (std3_9.out w1 g15 hS1 r15 G15) (by kernel_rfl) (by kernel_rfl) (hF.out _ _ _ _ _ _))
    have std3_11 : Hid (∀ (cur : World) (g15 : Nat), Below Vd3_.heap.size Vd3_ cur → RW cur g15 0 (c4 (0)) → Vd3_.heap.size ≤ g15 → G 6 #[true, true, true, true, false, true, true, true, true, false, false, true, false, true, false, true, false] (F (.pointer (some ⟨g15, 0, none⟩)) u36 u41 u42 u44 u46) cur) := Hid.mk' (by
      intro cur g15 hS r15 G15
      rw [hF.out, hG.out]
      clear std3_0 std3_1 std3_2 std3_3 std3_4 std3_5 std3_6 std3_7 std3_8 std3_10
      refine wpAnyH_ready (rs := [4]) (by kernel_rfl) (by simp) ?_
      refine AllReadyH.cons (o := qd3x4) rfl (fun K hK => ?_) (AllReadyH.nil)
      · unfold qd3x4
        go_simp
        (go_at_call 67; refine (k7 _).mono ?_; rintro e w1 ⟨rfl, hb1⟩)
        (try go_simp)
        have hS1 := below_next hS hb1
        replace r15 := r15.still hb1
        refine hK.out _ _ hS1 (fun h => ?_)
        clear h hK K hb1
        rw [← hG.out]
        exact dag_step3 (std3_9.out w1 g15 hS1 r15 G15) (by kernel_rfl) (by kernel_rfl) (hF.out _ _ _ _ _ _))
    have std3_12 : Hid (∀ (cur : World), Below Vd3_.heap.size Vd3_ cur → G 7 #[true, true, true, true, false, true, true, true, true, false, false, true, false, true, false, false, false] (F undef u36 u41 u42 u44 u46) cur) := Hid.mk' (by
      intro cur  hS 
      rw [hF.out, hG.out]
      clear std3_0 std3_1 std3_2 std3_3 std3_4 std3_5 std3_6 std3_7 std3_8 std3_9
      refine wpAnyH_ready (rs := [4, 15]) (by kernel_rfl) (by simp) ?_
      refine AllReadyH.cons (o := qd3x4) rfl (fun K hK => ?_) (AllReadyH.cons (o := qd3x15) rfl (fun K hK => ?_) (AllReadyH.nil))
      · unfold qd3x4
        go_simp
        (go_at_call 67; refine (k7 _).mono ?_; rintro e w1 ⟨rfl, hb1⟩)
        (try go_simp)
        have hS1 := below_next hS hb1
        refine hK.out _ _ hS1 (fun h => ?_)
        clear h hK K hb1
        rw [← hG.out]
        exact dag_step3 (std3_10.out w1  hS1 ) (by kernel_rfl) (by kernel_rfl) (hF.out _ _ _ _ _ _)
      · unfold qd3x15
        go_simp
        obtain ⟨w1, g15, hw1, hg1, hb1, r15⟩ := fresh4 cur
        rw [hw1, hg1]
        have hS1 := below_next hS hb1
        have G15 : Vd3_.heap.size ≤ g15 := by have := hS.size; omega
        refine hK.out _ _ hS1 (fun h => ?_)
        clear h hK K hb1 hw1 hg1
        rw [← hG.out]
        exact dag_step3 (std3_11.out w1 g15 hS1 r15 G15) (by kernel_rfl) (by kernel_rfl) (hF.out _ _ _ _ _ _))
    exact dag_step3 (std3_12.out Vd3_ hS) (by kernel_rfl) (by kernel_rfl) (hF.out _ _ _ _ _ _)
  case rest =>
  obtain ⟨b9, rfl, hb1, B9, h9⟩ := hcut
  have lt4 := hres.lt
  have n94 : b9 ≠ g4 := by omega
  clear lt4 B9 k7 k8 k9 k10 k11 pX pY qX qY
  replace hres := hres.still hb1
  replace h5 := h5.still hb1
  replace h6 := h6.still hb1
  replace h7 := h7.still hb1
  replace h8 := h8.still hb1
  obtain ⟨U3, hU⟩ : ∃ W, W = wc := ⟨_, rfl⟩
  rw [← hU]
  rw [← hU] at hres h5 h6 h7 h8 h9 hb1
  replace hbW := below_next hbW hb1
  clear hU hb1
  go_upto_region 4 with (fail)
  have l4 := hres.lt
  have hdrew : Below U3.heap.size U3 U3.drew := (Below.refl _ _).drew
  replace hres := hres.still hdrew
  replace h5 := h5.still hdrew
  replace h6 := h6.still hdrew
  replace h7 := h7.still hdrew
  replace h8 := h8.still hdrew
  replace h9 := h9.still hdrew
  refine wp_region_noPanic ?_
  replace l4 := Nat.lt_of_lt_of_le l4 hdrew.size
  refine wp_region_held_drew (S := fun w' => Out g4 0 16 U3.drew w') (by kernel_rfl) (Out.refl _ _ _ _) (fun hS => ?_)
  generalize U3.drew = Vd4_ at *
  refine wpAnyH_take (i := 0) (oi := { dst := some 47, op := Op.load 28 (Operand.tmp 9), type := 28, pos := "curve.go:57", after := #[], guard := none }) (v := numV cr) rfl (by kernel_rfl) (by kernel_rfl) (by kernel_rfl) (fun _ _ _ h => h) (yieldsIf_load_mid (by rfl) 28 _ rfl b9 0 rfl (c4 cr) _ (fun _ h => (h9.out h n94).range) Tryd.underlying28 rfl info4) hS ?_
  (try simp only [Act.put, List.setIfInBounds_toArray, List.set_cons_zero, List.set_cons_succ])
  refine wpAnyH_take (i := 1) (oi := { dst := some 48, op := Op.load 28 (Operand.tmp 7), type := 28, pos := "curve.go:57", after := #[], guard := none }) (v := numV zz) rfl (by kernel_rfl) (by kernel_rfl) (by kernel_rfl) (fun _ _ _ h => h) (yieldsIf_load_mid (by rfl) 28 _ rfl b7 0 rfl (c4 zz) _ (fun _ h => (h7.out h n74).range) Tryd.underlying28 rfl info4) hS ?_
  (try simp only [Act.put, List.setIfInBounds_toArray, List.set_cons_zero, List.set_cons_succ])
  refine wpAnyH_take (i := 2) (oi := { dst := some 49, op := Op.load 28 (Operand.tmp 8), type := 28, pos := "curve.go:57", after := #[], guard := none }) (v := numV tt) rfl (by kernel_rfl) (by kernel_rfl) (by kernel_rfl) (fun _ _ _ h => h) (yieldsIf_load_mid (by rfl) 28 _ rfl b8 0 rfl (c4 tt) _ (fun _ h => (h8.out h n84).range) Tryd.underlying28 rfl info4) hS ?_
  (try simp only [Act.put, List.setIfInBounds_toArray, List.set_cons_zero, List.set_cons_succ])
  refine wpAnyH_take (i := 4) (oi := { dst := some 51, op := Op.load 28 (Operand.tmp 6), type := 28, pos := "curve.go:57", after := #[], guard := none }) (v := numV yy) rfl (by kernel_rfl) (by kernel_rfl) (by kernel_rfl) (fun _ _ _ h => h) (yieldsIf_load_mid (by rfl) 28 _ rfl b6 0 rfl (c4 yy) _ (fun _ h => (h6.out h n64).range) Tryd.underlying28 rfl info4) hS ?_
  (try simp only [Act.put, List.setIfInBounds_toArray, List.set_cons_zero, List.set_cons_succ])
  refine wpAnyH_take (i := 5) (oi := { dst := some 52, op := Op.load 28 (Operand.tmp 5), type := 28, pos := "curve.go:57", after := #[], guard := none }) (v := numV xx) rfl (by kernel_rfl) (by kernel_rfl) (by kernel_rfl) (fun _ _ _ h => h) (yieldsIf_load_mid (by rfl) 28 _ rfl b5 0 rfl (c4 xx) _ (fun _ h => (h5.out h n54).range) Tryd.underlying28 rfl info4) hS ?_
  (try simp only [Act.put, List.setIfInBounds_toArray, List.set_cons_zero, List.set_cons_succ])
  refine wpAnyH_take (i := 7) (oi := { dst := some 54, op := Op.load 28 (Operand.tmp 7), type := 28, pos := "curve.go:57", after := #[], guard := none }) (v := numV zz) rfl (by kernel_rfl) (by kernel_rfl) (by kernel_rfl) (fun _ _ _ h => h) (yieldsIf_load_mid (by rfl) 28 _ rfl b7 0 rfl (c4 zz) _ (fun _ h => (h7.out h n74).range) Tryd.underlying28 rfl info4) hS ?_
  (try simp only [Act.put, List.setIfInBounds_toArray, List.set_cons_zero, List.set_cons_succ])
  refine wpAnyH_take (i := 8) (oi := { dst := some 55, op := Op.load 28 (Operand.tmp 8), type := 28, pos := "curve.go:57", after := #[], guard := none }) (v := numV tt) rfl (by kernel_rfl) (by kernel_rfl) (by kernel_rfl) (fun _ _ _ h => h) (yieldsIf_load_mid (by rfl) 28 _ rfl b8 0 rfl (c4 tt) _ (fun _ h => (h8.out h n84).range) Tryd.underlying28 rfl info4) hS ?_
  (try simp only [Act.put, List.setIfInBounds_toArray, List.set_cons_zero, List.set_cons_succ])
  refine wpAnyH_ready (rs := [3]) (by kernel_rfl) (by simp) ?_
  refine AllReadyH.cons (o := qd4x3) rfl (fun K hK => ?_) (AllReadyH.nil)
  unfold qd4x3
  go_simp
  (go_at_call 67; refine (k12 _).mono ?_; rintro e wd4_1 ⟨rfl, hbd4_1⟩)
  (try go_simp)
  have hSd4_1 := hS.trans (Out.of_below hbd4_1 l4)
  replace l4 := Nat.lt_of_lt_of_le l4 hbd4_1.size
  replace hres := hres.still hbd4_1
  refine hK.out _ _ hSd4_1 (fun h => ?_)
  clear h hK K hbd4_1
  (try simp only [Act.put, List.setIfInBounds_toArray, List.set_cons_zero, List.set_cons_succ])
  refine wpAnyH_ready (rs := [6]) (by kernel_rfl) (by simp) ?_
  refine AllReadyH.cons (o := qd4x6) rfl (fun K hK => ?_) (AllReadyH.nil)
  unfold qd4x6
  go_simp
  (go_at_call 67; refine (k13 _).mono ?_; rintro e wd4_2 ⟨rfl, hbd4_2⟩)
  (try go_simp)
  have hSd4_2 := hSd4_1.trans (Out.of_below hbd4_2 l4)
  replace l4 := Nat.lt_of_lt_of_le l4 hbd4_2.size
  replace hres := hres.still hbd4_2
  refine hK.out _ _ hSd4_2 (fun h => ?_)
  clear h hK K hbd4_2
  (try simp only [Act.put, List.setIfInBounds_toArray, List.set_cons_zero, List.set_cons_succ])
  refine wpAnyH_ready (rs := [9]) (by kernel_rfl) (by simp) ?_
  refine AllReadyH.cons (o := qd4x9) rfl (fun K hK => ?_) (AllReadyH.nil)
  unfold qd4x9
  go_simp
  (go_at_call 35; refine (k14 _).mono ?_; rintro e wd4_3 ⟨rfl, hbd4_3⟩)
  (try go_simp)
  have hSd4_3 := hSd4_2.trans (Out.of_below hbd4_3 l4)
  replace l4 := Nat.lt_of_lt_of_le l4 hbd4_3.size
  replace hres := hres.still hbd4_3
  refine hK.out _ _ hSd4_3 (fun h => ?_)
  clear h hK K hbd4_3
  (try simp only [Act.put, List.setIfInBounds_toArray, List.set_cons_zero, List.set_cons_succ])
  refine wpAnyH_ready (rs := [10]) (by kernel_rfl) (by simp) ?_
  refine AllReadyH.cons (o := qd4x10) rfl (fun K hK => ?_) (AllReadyH.nil)
  unfold qd4x10
  go_simp
  (go_at_call 75; refine (k15 _).mono ?_; rintro e wd4_4 ⟨rfl, hbd4_4⟩)
  (try go_simp)
  have hSd4_4 := hSd4_3.trans (Out.of_below hbd4_4 l4)
  replace l4 := Nat.lt_of_lt_of_le l4 hbd4_4.size
  replace hres := hres.still hbd4_4
  refine hK.out _ _ hSd4_4 (fun h => ?_)
  clear h hK K hbd4_4
  (try simp only [Act.put, List.setIfInBounds_toArray, List.set_cons_zero, List.set_cons_succ])
  refine wpAnyH_ready (rs := [11]) (by kernel_rfl) (by simp) ?_
  refine AllReadyH.cons (o := qd4x11) rfl (fun K hK => ?_) (AllReadyH.nil)
  unfold qd4x11
  rw [if_pos (by rfl)]
  refine wp_store_mid 30 _ _ rfl g4 0 (p16 o1 o2 o3 o4).toArray rfl rfl (thr16 hres _ _ _ _) (info16A _ _ _ _) (one16 _ _ _ _) ?_
  have hSd4_5 := hSd4_4.trans (Out.setCells (b := g4) (o := 0) (n := 16) wd4_4 (p16 o1 o2 o3 o4) (Nat.le_refl _) (by rw [p16_len]; exact Nat.le_refl _))
  replace hres := hres.stored (p16 o1 o2 o3 o4) (p16_same _ _ _ _ _ _ _ _)
  obtain ⟨wd4_5, hwd4_5⟩ : ∃ W, wd4_4.setCells g4 0 (p16 o1 o2 o3 o4) = W := ⟨_, rfl⟩
  rw [hwd4_5] at hres
  rw [hwd4_5] at hSd4_5
  rw [show wd4_4.setCells g4 0 (p16 o1 o2 o3 o4).toArray.toList = wd4_5 from hwd4_5]
  refine hK.out _ _ hSd4_5 (fun h => ?_)
  clear h hK K hwd4_5
  (try dsimp only [Act.put])
  refine wpAnyH_done (by kernel_rfl) ?_ _
  refine NoPanic.normal ?_
  clear k12 k13 k14 k15
  have fin := (hbW.trans (hdrew.mono hbW.size)).trans (hSd4_5.below w4 (Nat.le_trans hbW.size hdrew.size))
  go_wp2
  exact bodyPost_ret (results_cell_mid Tryd.results58 _ _ g4 0 (p16 o1 o2 o3 o4) _ rfl hres.range Tryd.underlying30 rfl (info16 _ _ _ _)) rfl ⟨rfl, fin⟩
end Go.Proofs.YteekjcfbnoakgaaDoor
