/- What twice of package point does in the model. -/
import Derived.Test.YteekjcfbnoakgaaDoorPAt
namespace Go.Proofs.YteekjcfbnoakgaaDoor
open Go.RowKit
theorem dag_step3 {G : Nat → Array Bool → Act → World → Prop} {f f' : Nat} {l l' : Array Bool} {a a' : Act} {w : World} (h : G f l a w) (hf : f = f') (hl : l = l') (ha : a = a') : G f' l' a' w := by
  subst hf; subst hl; subst ha; exact h
theorem dag_root {P : Program} {md : Region.Mode} {ops : Array Oper} {Q : Exit → Act → World → Prop} {S : World → Prop} {f : Nat} {l : Array Bool} {a : Act} {w : World} (h : ∀ G : Nat → Array Bool → Act → World → Prop, G = wpAnyH P md ops Q S → G f l a w) : wpAnyH P md ops Q S f l a w := h _ rfl
abbrev qw1x20 : Oper := { dst := none, op := Op.store 28 (Operand.tmp 5) (Operand.tmp 22), type := 0, pos := "curve.go:62", after := #[{ on := 17, ground := Ground.data }, { on := 14, ground := Ground.data }, { on := 19, ground := Ground.chain }, { on := 0, ground := Ground.phase }, { on := 1, ground := Ground.phase }, { on := 2, ground := Ground.phase }, { on := 3, ground := Ground.phase }, { on := 4, ground := Ground.phase }, { on := 5, ground := Ground.phase }, { on := 6, ground := Ground.phase }, { on := 7, ground := Ground.phase }, { on := 8, ground := Ground.phase }, { on := 9, ground := Ground.phase }, { on := 10, ground := Ground.phase }, { on := 11, ground := Ground.phase }, { on := 12, ground := Ground.phase }, { on := 13, ground := Ground.phase }, { on := 14, ground := Ground.phase }, { on := 15, ground := Ground.phase }, { on := 16, ground := Ground.phase }, { on := 17, ground := Ground.phase }, { on := 18, ground := Ground.phase }, { on := 19, ground := Ground.phase }], guard := none }
abbrev qw1x19 : Oper := { dst := none, op := Op.store 28 (Operand.tmp 4) (Operand.tmp 17), type := 0, pos := "curve.go:62", after := #[{ on := 16, ground := Ground.data }, { on := 9, ground := Ground.data }, { on := 18, ground := Ground.chain }, { on := 0, ground := Ground.phase }, { on := 1, ground := Ground.phase }, { on := 2, ground := Ground.phase }, { on := 3, ground := Ground.phase }, { on := 4, ground := Ground.phase }, { on := 5, ground := Ground.phase }, { on := 6, ground := Ground.phase }, { on := 7, ground := Ground.phase }, { on := 8, ground := Ground.phase }, { on := 9, ground := Ground.phase }, { on := 10, ground := Ground.textOnly Departure.lateStores }, { on := 11, ground := Ground.textOnly Departure.lateStores }, { on := 12, ground := Ground.textOnly Departure.lateStores }, { on := 13, ground := Ground.textOnly Departure.lateStores }, { on := 14, ground := Ground.textOnly Departure.lateStoresUnsure }, { on := 15, ground := Ground.phase }, { on := 16, ground := Ground.phase }, { on := 17, ground := Ground.phase }, { on := 18, ground := Ground.phase }], guard := none }
abbrev qw1x18 : Oper := { dst := none, op := Op.store 28 (Operand.tmp 3) (Operand.tmp 12), type := 0, pos := "curve.go:62", after := #[{ on := 15, ground := Ground.data }, { on := 4, ground := Ground.data }, { on := 14, ground := Ground.chain }, { on := 0, ground := Ground.phase }, { on := 1, ground := Ground.phase }, { on := 2, ground := Ground.phase }, { on := 3, ground := Ground.phase }, { on := 4, ground := Ground.phase }, { on := 5, ground := Ground.textOnly Departure.lateStores }, { on := 6, ground := Ground.textOnly Departure.lateStores }, { on := 7, ground := Ground.textOnly Departure.lateStores }, { on := 8, ground := Ground.textOnly Departure.lateStores }, { on := 9, ground := Ground.textOnly Departure.lateStoresUnsure }, { on := 10, ground := Ground.textOnly Departure.lateStores }, { on := 11, ground := Ground.textOnly Departure.lateStores }, { on := 12, ground := Ground.textOnly Departure.lateStores }, { on := 13, ground := Ground.textOnly Departure.lateStores }, { on := 14, ground := Ground.textOnly Departure.lateStoresUnsure }, { on := 15, ground := Ground.phase }, { on := 16, ground := Ground.phase }, { on := 17, ground := Ground.phase }], guard := none }
abbrev qw1x17 : Oper := { dst := some 5, op := Op.alloc 28, type := 0, pos := "curve.go:62", after := #[], guard := none }
abbrev qw1x16 : Oper := { dst := some 4, op := Op.alloc 28, type := 0, pos := "curve.go:62", after := #[], guard := none }
abbrev qw1x15 : Oper := { dst := some 3, op := Op.alloc 28, type := 0, pos := "curve.go:62", after := #[], guard := none }
abbrev qw1x14 : Oper := { dst := some 22, op := Op.call { callee := Callee.value (Operand.func 51), args := #[Operand.tmp 19, Operand.tmp 21], argTypes := #[28, 28] }, type := 28, pos := "curve.go:62", after := #[{ on := 11, ground := Ground.data }, { on := 13, ground := Ground.data }, { on := 9, ground := Ground.chain }], guard := none }
abbrev qw1x9 : Oper := { dst := some 17, op := Op.call { callee := Callee.value (Operand.func 51), args := #[Operand.tmp 14, Operand.tmp 16], argTypes := #[28, 28] }, type := 28, pos := "curve.go:62", after := #[{ on := 6, ground := Ground.data }, { on := 8, ground := Ground.data }, { on := 4, ground := Ground.chain }], guard := none }
abbrev qw1x4 : Oper := { dst := some 12, op := Op.call { callee := Callee.value (Operand.func 51), args := #[Operand.tmp 9, Operand.tmp 11], argTypes := #[28, 28] }, type := 28, pos := "curve.go:62", after := #[{ on := 1, ground := Ground.data }, { on := 3, ground := Ground.data }], guard := none }
abbrev qw4x2 : Oper := { dst := some 33, op := Op.call { callee := Callee.value (Operand.func 67), args := #[Operand.tmp 31, Operand.tmp 32], argTypes := #[28, 28] }, type := 28, pos := "curve.go:65", after := #[{ on := 0, ground := Ground.data }, { on := 1, ground := Ground.data }], guard := none }
abbrev qw4x6 : Oper := { dst := some 37, op := Op.call { callee := Callee.value (Operand.func 67), args := #[Operand.tmp 35, Operand.tmp 36], argTypes := #[28, 28] }, type := 28, pos := "curve.go:65", after := #[{ on := 4, ground := Ground.data }, { on := 5, ground := Ground.data }, { on := 2, ground := Ground.chain }], guard := none }
abbrev qw4x9 : Oper := { dst := some 40, op := Op.call { callee := Callee.value (Operand.func 67), args := #[Operand.tmp 38, Operand.tmp 39], argTypes := #[28, 28] }, type := 28, pos := "curve.go:65", after := #[{ on := 7, ground := Ground.data }, { on := 8, ground := Ground.data }, { on := 6, ground := Ground.chain }], guard := none }
abbrev qw4x11 : Oper := { dst := some 42, op := Op.call { callee := Callee.value (Operand.func 35), args := #[Operand.tmp 40, Operand.tmp 41], argTypes := #[28, 28] }, type := 28, pos := "curve.go:65", after := #[{ on := 9, ground := Ground.data }, { on := 10, ground := Ground.data }, { on := 9, ground := Ground.chain }], guard := none }
abbrev qw4x12 : Oper := { dst := some 43, op := Op.call { callee := Callee.value (Operand.func 75), args := #[Operand.tmp 33, Operand.tmp 34, Operand.tmp 37, Operand.tmp 42], argTypes := #[28, 28, 28, 28] }, type := 30, pos := "curve.go:65", after := #[{ on := 2, ground := Ground.data }, { on := 3, ground := Ground.data }, { on := 6, ground := Ground.data }, { on := 11, ground := Ground.data }, { on := 11, ground := Ground.chain }], guard := none }
abbrev qw4x13 : Oper := { dst := none, op := Op.store 30 (Operand.tmp 2) (Operand.tmp 43), type := 0, pos := "curve.go:65", after := #[{ on := 12, ground := Ground.data }, { on := 12, ground := Ground.chain }, { on := 0, ground := Ground.phase }, { on := 1, ground := Ground.phase }, { on := 2, ground := Ground.phase }, { on := 3, ground := Ground.phase }, { on := 4, ground := Ground.phase }, { on := 5, ground := Ground.phase }, { on := 6, ground := Ground.phase }, { on := 7, ground := Ground.phase }, { on := 8, ground := Ground.phase }, { on := 9, ground := Ground.phase }, { on := 10, ground := Ground.phase }, { on := 11, ground := Ground.phase }, { on := 12, ground := Ground.phase }], guard := none }
set_option maxRecDepth 20000 in
set_option maxHeartbeats 16000000 in
theorem twice_raw (x y z t xx yy zz xy pl qa qc z2 qd o1 o2 o3 o4 : Nat)
    (k1 : ∀ W, Calls Tryd.prog 51 #[numV x, numV x] W fun e w' => e = .returned (numV xx) ∧ Below W.heap.size W w')
    (k2 : ∀ W, Calls Tryd.prog 51 #[numV y, numV y] W fun e w' => e = .returned (numV yy) ∧ Below W.heap.size W w')
    (k3 : ∀ W, Calls Tryd.prog 51 #[numV z, numV z] W fun e w' => e = .returned (numV zz) ∧ Below W.heap.size W w')
    (k4 : ∀ W, Calls Tryd.prog 51 #[numV x, numV y] W fun e w' => e = .returned (numV xy) ∧ Below W.heap.size W w')
    (k5 : ∀ W, Calls Tryd.prog 35 #[numV yy, numV xx] W fun e w' => e = .returned (numV pl) ∧ Below W.heap.size W w')
    (k6 : ∀ W, Calls Tryd.prog 67 #[numV xy, numV xy] W fun e w' => e = .returned (numV qa) ∧ Below W.heap.size W w')
    (k7 : ∀ W, Calls Tryd.prog 67 #[numV yy, numV xx] W fun e w' => e = .returned (numV qc) ∧ Below W.heap.size W w')
    (k8 : ∀ W, Calls Tryd.prog 67 #[numV zz, numV zz] W fun e w' => e = .returned (numV z2) ∧ Below W.heap.size W w')
    (k9 : ∀ W, Calls Tryd.prog 35 #[numV z2, numV pl] W fun e w' => e = .returned (numV qd) ∧ Below W.heap.size W w')
    (k10 : ∀ W, Calls Tryd.prog 75 #[numV qa, numV pl, numV qc, numV qd] W fun e w' => e = .returned (pV o1 o2 o3 o4) ∧ Below W.heap.size W w')
    (w : World) : Calls Tryd.prog 57 #[pV x y z t] w fun e w' => e = .returned (pV o1 o2 o3 o4) ∧ Below w.heap.size w w' := by
  have hzp := zeroP
  obtain ⟨V1, g1, eg1, hg1, bg1, hp⟩ : ∃ V g, w.alloc (.cells (p16 x y z t).toArray 30) = V ∧ w.heap.size = g ∧ Below w.heap.size w V ∧ RW V g 0 (p16 x y z t) := ⟨_, _, rfl, rfl, (Below.refl _ _).alloc (Nat.le_refl _) _, RW.fresh w _ _⟩
  obtain ⟨W, g2, eg2, hg2, bg2, hres⟩ := fresh16 V1
  have t1 : V1.heap.size = w.heap.size + 1 := by rw [← eg1]; simp
  have HW : Hid (W = (w.alloc (.cells (p16 x y z t).toArray 30)).alloc (.cells zP 30)) := Hid.mk' (by rw [← eg2, ← eg1])
  have q1 : Hid (w.heap.size = g1) := Hid.mk' hg1
  have q2 : Hid (w.heap.size + 1 = g2) := Hid.mk' (by omega)
  replace hp := hp.still bg2
  have hbW : Below w.heap.size w W := bg1.trans (bg2.mono (by omega))
  have w2 : w.heap.size ≤ g2 := by omega
  obtain ⟨hX, hY, hZ, hT⟩ := parts16 hp
  clear eg1 eg2 hg1 hg2 bg1 bg2 t1 hp V1
  rw [show pV x y z t = .agg (p16 x y z t).toArray from rfl]
  go_enter Tryd.func57, Tryd.ntmps57
  go_upto_region 1 with (fail)
  rw [← HW.out, q2.out, q1.out]
  clear HW q2 q1
  go_cut [3, 4, 5] from 8 (fun s3 s4 s5 wc => ∃ g3 g4 g5, s3 = .pointer (some ⟨g3, 0, none⟩) ∧ s4 = .pointer (some ⟨g4, 0, none⟩) ∧ s5 = .pointer (some ⟨g5, 0, none⟩) ∧ Below W.heap.size W wc ∧ W.heap.size ≤ g3 ∧ W.heap.size ≤ g4 ∧ W.heap.size ≤ g5 ∧ RW wc g3 0 (c4 xx) ∧ RW wc g4 0 (c4 yy) ∧ RW wc g5 0 (c4 zz))
  case first =>
    clear k4 k5 k6 k7 k8 k9 k10 hres hT hbW
    have hdrew : Below W.heap.size W W.drew := (Below.refl _ _).drew
    replace hX := hX.still hdrew
    replace hY := hY.still hdrew
    replace hZ := hZ.still hdrew
    refine wp_region_noPanic ?_
    refine wp_region_held_drew (S := fun w' => Below W.drew.heap.size W.drew w') (by kernel_rfl) (Below.refl _ _) (fun hS => ?_)
    generalize W.drew = Vw1_ at *
    refine wpAnyH_take (i := 0) (oi := { dst := some 8, op := Op.fieldAddr 30 (Operand.tmp 1) 0, type := 0, pos := "curve.go:62", after := #[], guard := none }) (v := ?vw1_t1) rfl (by kernel_rfl) (by kernel_rfl) (by kernel_rfl) (fun _ _ _ h => h) (Or.inl ⟨by rfl, ?hw1_t1⟩) hS ?rw1_t1
    case hw1_t1 =>
      intro w hSw
      go_simp
      try with_reducible rfl
    (try simp only [Act.put, List.setIfInBounds_toArray, List.set_cons_zero, List.set_cons_succ])
    refine wpAnyH_take (i := 1) (oi := { dst := some 9, op := Op.load 28 (Operand.tmp 8), type := 28, pos := "curve.go:62", after := #[{ on := 0, ground := Ground.data }], guard := none }) (v := numV x) rfl (by kernel_rfl) (by kernel_rfl) (by kernel_rfl) (fun _ _ _ h => h) (yieldsIf_load_mid (by rfl) 28 _ rfl g1 0 rfl (c4 x) _ (fun _ h => (hX.still h).range) Tryd.underlying28 rfl info4) hS ?_
    (try simp only [Act.put, List.setIfInBounds_toArray, List.set_cons_zero, List.set_cons_succ])
    refine wpAnyH_take (i := 2) (oi := { dst := some 10, op := Op.fieldAddr 30 (Operand.tmp 1) 0, type := 0, pos := "curve.go:62", after := #[], guard := none }) (v := ?vw1_t2) rfl (by kernel_rfl) (by kernel_rfl) (by kernel_rfl) (fun _ _ _ h => h) (Or.inl ⟨by rfl, ?hw1_t2⟩) hS ?rw1_t2
    case hw1_t2 =>
      intro w hSw
      go_simp
      try with_reducible rfl
    (try simp only [Act.put, List.setIfInBounds_toArray, List.set_cons_zero, List.set_cons_succ])
    refine wpAnyH_take (i := 3) (oi := { dst := some 11, op := Op.load 28 (Operand.tmp 10), type := 28, pos := "curve.go:62", after := #[{ on := 2, ground := Ground.data }], guard := none }) (v := numV x) rfl (by kernel_rfl) (by kernel_rfl) (by kernel_rfl) (fun _ _ _ h => h) (yieldsIf_load_mid (by rfl) 28 _ rfl g1 0 rfl (c4 x) _ (fun _ h => (hX.still h).range) Tryd.underlying28 rfl info4) hS ?_
    (try simp only [Act.put, List.setIfInBounds_toArray, List.set_cons_zero, List.set_cons_succ])
    refine wpAnyH_take (i := 5) (oi := { dst := some 13, op := Op.fieldAddr 30 (Operand.tmp 1) 1, type := 0, pos := "curve.go:62", after := #[], guard := none }) (v := ?vw1_t3) rfl (by kernel_rfl) (by kernel_rfl) (by kernel_rfl) (fun _ _ _ h => h) (Or.inl ⟨by rfl, ?hw1_t3⟩) hS ?rw1_t3
    case hw1_t3 =>
      intro w hSw
      go_simp
      try with_reducible rfl
    (try simp only [Act.put, List.setIfInBounds_toArray, List.set_cons_zero, List.set_cons_succ])
    refine wpAnyH_take (i := 6) (oi := { dst := some 14, op := Op.load 28 (Operand.tmp 13), type := 28, pos := "curve.go:62", after := #[{ on := 5, ground := Ground.data }], guard := none }) (v := numV y) rfl (by kernel_rfl) (by kernel_rfl) (by kernel_rfl) (fun _ _ _ h => h) (yieldsIf_load_mid (by rfl) 28 _ rfl g1 4 rfl (c4 y) _ (fun _ h => (hY.still h).range) Tryd.underlying28 rfl info4) hS ?_
    (try simp only [Act.put, List.setIfInBounds_toArray, List.set_cons_zero, List.set_cons_succ])
    refine wpAnyH_take (i := 7) (oi := { dst := some 15, op := Op.fieldAddr 30 (Operand.tmp 1) 1, type := 0, pos := "curve.go:62", after := #[], guard := none }) (v := ?vw1_t4) rfl (by kernel_rfl) (by kernel_rfl) (by kernel_rfl) (fun _ _ _ h => h) (Or.inl ⟨by rfl, ?hw1_t4⟩) hS ?rw1_t4
    case hw1_t4 =>
      intro w hSw
      go_simp
      try with_reducible rfl
    (try simp only [Act.put, List.setIfInBounds_toArray, List.set_cons_zero, List.set_cons_succ])
    refine wpAnyH_take (i := 8) (oi := { dst := some 16, op := Op.load 28 (Operand.tmp 15), type := 28, pos := "curve.go:62", after := #[{ on := 7, ground := Ground.data }], guard := none }) (v := numV y) rfl (by kernel_rfl) (by kernel_rfl) (by kernel_rfl) (fun _ _ _ h => h) (yieldsIf_load_mid (by rfl) 28 _ rfl g1 4 rfl (c4 y) _ (fun _ h => (hY.still h).range) Tryd.underlying28 rfl info4) hS ?_
    (try simp only [Act.put, List.setIfInBounds_toArray, List.set_cons_zero, List.set_cons_succ])
    refine wpAnyH_take (i := 10) (oi := { dst := some 18, op := Op.fieldAddr 30 (Operand.tmp 1) 2, type := 0, pos := "curve.go:62", after := #[], guard := none }) (v := ?vw1_t5) rfl (by kernel_rfl) (by kernel_rfl) (by kernel_rfl) (fun _ _ _ h => h) (Or.inl ⟨by rfl, ?hw1_t5⟩) hS ?rw1_t5
    case hw1_t5 =>
      intro w hSw
      go_simp
      try with_reducible rfl
    (try simp only [Act.put, List.setIfInBounds_toArray, List.set_cons_zero, List.set_cons_succ])
    refine wpAnyH_take (i := 11) (oi := { dst := some 19, op := Op.load 28 (Operand.tmp 18), type := 28, pos := "curve.go:62", after := #[{ on := 10, ground := Ground.data }], guard := none }) (v := numV z) rfl (by kernel_rfl) (by kernel_rfl) (by kernel_rfl) (fun _ _ _ h => h) (yieldsIf_load_mid (by rfl) 28 _ rfl g1 8 rfl (c4 z) _ (fun _ h => (hZ.still h).range) Tryd.underlying28 rfl info4) hS ?_
    (try simp only [Act.put, List.setIfInBounds_toArray, List.set_cons_zero, List.set_cons_succ])
    refine wpAnyH_take (i := 12) (oi := { dst := some 20, op := Op.fieldAddr 30 (Operand.tmp 1) 2, type := 0, pos := "curve.go:62", after := #[], guard := none }) (v := ?vw1_t6) rfl (by kernel_rfl) (by kernel_rfl) (by kernel_rfl) (fun _ _ _ h => h) (Or.inl ⟨by rfl, ?hw1_t6⟩) hS ?rw1_t6
    case hw1_t6 =>
      intro w hSw
      go_simp
      try with_reducible rfl
    (try simp only [Act.put, List.setIfInBounds_toArray, List.set_cons_zero, List.set_cons_succ])
    refine wpAnyH_take (i := 13) (oi := { dst := some 21, op := Op.load 28 (Operand.tmp 20), type := 28, pos := "curve.go:62", after := #[{ on := 12, ground := Ground.data }], guard := none }) (v := numV z) rfl (by kernel_rfl) (by kernel_rfl) (by kernel_rfl) (fun _ _ _ h => h) (yieldsIf_load_mid (by rfl) 28 _ rfl g1 8 rfl (c4 z) _ (fun _ h => (hZ.still h).range) Tryd.underlying28 rfl info4) hS ?_
    (try simp only [Act.put, List.setIfInBounds_toArray, List.set_cons_zero, List.set_cons_succ])
    refine dag_root (fun G hG0 => ?_)
    have hG := Hid.mk' hG0
    clear hG0
    obtain ⟨F, hF0⟩ : ∃ F : Value → Value → Value → Value → Value → Value → Act, ∀ v3 v4 v5 v12 v17 v22, F v3 v4 v5 v12 v17 v22 = { tmps := #[.agg (p16 x y z t).toArray, .pointer (some ⟨g1, 0, none⟩), .pointer (some ⟨g2, 0, none⟩), v3, v4, v5, undef, undef, .pointer (some ⟨g1, 0, none⟩), numV x, .pointer (some ⟨g1, 0, none⟩), numV x, v12, .pointer (some ⟨g1, 4, none⟩), numV y, .pointer (some ⟨g1, 4, none⟩), numV y, v17, .pointer (some ⟨g1, 8, none⟩), numV z, .pointer (some ⟨g1, 8, none⟩), numV z, v22, undef, undef, undef, undef, undef, undef, undef, undef, undef, undef, undef, undef, undef, undef, undef, undef, undef, undef, undef, undef, undef], defers := [] } := ⟨_, fun _ _ _ _ _ _ => rfl⟩
    have hF := Hid.mk' hF0
    clear hF0
    have stw1_0 : Hid (∀ (cur : World) (g15 g16 g17 : Nat), Below Vw1_.heap.size Vw1_ cur → RW cur g15 0 (c4 (xx)) → RW cur g16 0 (c4 (yy)) → RW cur g17 0 (c4 (zz)) → Vw1_.heap.size ≤ g15 → Vw1_.heap.size ≤ g16 → Vw1_.heap.size ≤ g17 → g15 ≠ g16 → g15 ≠ g17 → g16 ≠ g17 → G 0 #[true, true, true, true, true, true, true, true, true, true, true, true, true, true, true, true, true, true, true, true, true] (F (.pointer (some ⟨g15, 0, none⟩)) (.pointer (some ⟨g16, 0, none⟩)) (.pointer (some ⟨g17, 0, none⟩)) (numV xx) (numV yy) (numV zz)) cur) := Hid.mk' (by
      intro cur g15 g16 g17 hS r15 r16 r17 G15 G16 G17 d15_16 d15_17 d16_17
      rw [hF.out, hG.out]
      refine wpAnyH_done (by kernel_rfl) ?_ _
      refine NoPanic.normal ?_
      go_wp2
      go_meet
      case rel => exact ⟨g15, g16, g17, rfl, rfl, rfl, below_next hdrew hS, Nat.le_trans hdrew.size G15, Nat.le_trans hdrew.size G16, Nat.le_trans hdrew.size G17, r15, r16, r17⟩)
    have stw1_1 : Hid (∀ (cur : World) (g15 g16 g17 : Nat), Below Vw1_.heap.size Vw1_ cur → RW cur g15 0 (c4 (xx)) → RW cur g16 0 (c4 (yy)) → RW cur g17 0 (c4 (0)) → Vw1_.heap.size ≤ g15 → Vw1_.heap.size ≤ g16 → Vw1_.heap.size ≤ g17 → g15 ≠ g16 → g15 ≠ g17 → g16 ≠ g17 → G 1 #[true, true, true, true, true, true, true, true, true, true, true, true, true, true, true, true, true, true, true, true, false] (F (.pointer (some ⟨g15, 0, none⟩)) (.pointer (some ⟨g16, 0, none⟩)) (.pointer (some ⟨g17, 0, none⟩)) (numV xx) (numV yy) (numV zz)) cur) := Hid.mk' (by
      intro cur g15 g16 g17 hS r15 r16 r17 G15 G16 G17 d15_16 d15_17 d16_17
      rw [hF.out, hG.out]
      refine wpAnyH_ready (rs := [20]) (by kernel_rfl) (by simp) ?_
      refine AllReadyH.cons (o := qw1x20) rfl (fun K hK => ?_) (AllReadyH.nil)
      · unfold qw1x20
        rw [if_pos (by rfl)]
        refine num_store _ _ rfl g17 0 (zz) rfl rfl r17 hS G17 (fun w1 r0 hS1 far => ?_)
        replace r15 := far _ _ _ (by omega) r15
        replace r16 := far _ _ _ (by omega) r16
        refine hK.out _ _ hS1 (fun h => ?_)
        clear h hK K far r17
        have r17 := r0
        clear r0
        (try dsimp only [Act.put])
        rw [← hG.out]
        exact dag_step3 (stw1_0.out w1 g15 g16 g17 hS1 r15 r16 r17 G15 G16 G17 d15_16 d15_17 d16_17) (by kernel_rfl) (by kernel_rfl) (hF.out _ _ _ _ _ _))
    have stw1_2 : Hid (∀ (cur : World) (g15 g16 g17 : Nat), Below Vw1_.heap.size Vw1_ cur → RW cur g15 0 (c4 (xx)) → RW cur g16 0 (c4 (0)) → RW cur g17 0 (c4 (0)) → Vw1_.heap.size ≤ g15 → Vw1_.heap.size ≤ g16 → Vw1_.heap.size ≤ g17 → g15 ≠ g16 → g15 ≠ g17 → g16 ≠ g17 → G 2 #[true, true, true, true, true, true, true, true, true, true, true, true, true, true, true, true, true, true, true, false, false] (F (.pointer (some ⟨g15, 0, none⟩)) (.pointer (some ⟨g16, 0, none⟩)) (.pointer (some ⟨g17, 0, none⟩)) (numV xx) (numV yy) (numV zz)) cur) := Hid.mk' (by
      intro cur g15 g16 g17 hS r15 r16 r17 G15 G16 G17 d15_16 d15_17 d16_17
      rw [hF.out, hG.out]
      clear stw1_0
      refine wpAnyH_ready (rs := [19]) (by kernel_rfl) (by simp) ?_
      refine AllReadyH.cons (o := qw1x19) rfl (fun K hK => ?_) (AllReadyH.nil)
      · unfold qw1x19
        rw [if_pos (by rfl)]
        refine num_store _ _ rfl g16 0 (yy) rfl rfl r16 hS G16 (fun w1 r0 hS1 far => ?_)
        replace r15 := far _ _ _ (by omega) r15
        replace r17 := far _ _ _ (by omega) r17
        refine hK.out _ _ hS1 (fun h => ?_)
        clear h hK K far r16
        have r16 := r0
        clear r0
        (try dsimp only [Act.put])
        rw [← hG.out]
        exact dag_step3 (stw1_1.out w1 g15 g16 g17 hS1 r15 r16 r17 G15 G16 G17 d15_16 d15_17 d16_17) (by kernel_rfl) (by kernel_rfl) (hF.out _ _ _ _ _ _))
    have stw1_3 : Hid (∀ (cur : World) (g15 g16 g17 : Nat), Below Vw1_.heap.size Vw1_ cur → RW cur g15 0 (c4 (0)) → RW cur g16 0 (c4 (0)) → RW cur g17 0 (c4 (0)) → Vw1_.heap.size ≤ g15 → Vw1_.heap.size ≤ g16 → Vw1_.heap.size ≤ g17 → g15 ≠ g16 → g15 ≠ g17 → g16 ≠ g17 → G 3 #[true, true, true, true, true, true, true, true, true, true, true, true, true, true, true, true, true, true, false, false, false] (F (.pointer (some ⟨g15, 0, none⟩)) (.pointer (some ⟨g16, 0, none⟩)) (.pointer (some ⟨g17, 0, none⟩)) (numV xx) (numV yy) (numV zz)) cur) := Hid.mk' (by
      intro cur g15 g16 g17 hS r15 r16 r17 G15 G16 G17 d15_16 d15_17 d16_17
      rw [hF.out, hG.out]
      clear stw1_0 stw1_1
      refine wpAnyH_ready (rs := [18]) (by kernel_rfl) (by simp) ?_
      refine AllReadyH.cons (o := qw1x18) rfl (fun K hK => ?_) (AllReadyH.nil)
      · unfold qw1x18
        rw [if_pos (by rfl)]
        refine num_store _ _ rfl g15 0 (xx) rfl rfl r15 hS G15 (fun w1 r0 hS1 far => ?_)
        replace r16 := far _ _ _ (by omega) r16
        replace r17 := far _ _ _ (by omega) r17
        refine hK.out _ _ hS1 (fun h => ?_)
        clear h hK K far r15
        have r15 := r0
        clear r0
        (try dsimp only [Act.put])
        rw [← hG.out]
        exact dag_step3 (stw1_2.out w1 g15 g16 g17 hS1 r15 r16 r17 G15 G16 G17 d15_16 d15_17 d16_17) (by kernel_rfl) (by kernel_rfl) (hF.out _ _ _ _ _ _))
    have stw1_4 : Hid (∀ (cur : World) (g15 g16 : Nat), Below Vw1_.heap.size Vw1_ cur → RW cur g15 0 (c4 (0)) → RW cur g16 0 (c4 (0)) → Vw1_.heap.size ≤ g15 → Vw1_.heap.size ≤ g16 → g15 ≠ g16 → G 4 #[true, true, true, true, true, true, true, true, true, true, true, true, true, true, true, true, true, false, false, false, false] (F (.pointer (some ⟨g15, 0, none⟩)) (.pointer (some ⟨g16, 0, none⟩)) undef (numV xx) (numV yy) (numV zz)) cur) := Hid.mk' (by
      intro cur g15 g16 hS r15 r16 G15 G16 d15_16
      rw [hF.out, hG.out]
      clear stw1_0 stw1_1 stw1_2
      refine wpAnyH_ready (rs := [17]) (by kernel_rfl) (by simp) ?_
      refine AllReadyH.cons (o := qw1x17) rfl (fun K hK => ?_) (AllReadyH.nil)
      · unfold qw1x17
        go_simp
        obtain ⟨w1, g17, hw1, hg1, hb1, r17⟩ := fresh4 cur
        rw [hw1, hg1]
        have hS1 := below_next hS hb1
        have G17 : Vw1_.heap.size ≤ g17 := by have := hS.size; omega
        have d15_17 : g15 ≠ g17 := by have := r15.lt; omega
        have d16_17 : g16 ≠ g17 := by have := r16.lt; omega
        replace r15 := r15.still hb1
        replace r16 := r16.still hb1
        refine hK.out _ _ hS1 (fun h => ?_)
        clear h hK K hb1 hw1 hg1
        rw [← hG.out]
        exact dag_step3 (stw1_3.out w1 g15 g16 g17 hS1 r15 r16 r17 G15 G16 G17 d15_16 d15_17 d16_17) (by kernel_rfl) (by kernel_rfl) (hF.out _ _ _ _ _ _))
    have stw1_5 : Hid (∀ (cur : World) (g15 g17 : Nat), Below Vw1_.heap.size Vw1_ cur → RW cur g15 0 (c4 (0)) → RW cur g17 0 (c4 (0)) → Vw1_.heap.size ≤ g15 → Vw1_.heap.size ≤ g17 → g15 ≠ g17 → G 4 #[true, true, true, true, true, true, true, true, true, true, true, true, true, true, true, true, false, true, false, false, false] (F (.pointer (some ⟨g15, 0, none⟩)) undef (.pointer (some ⟨g17, 0, none⟩)) (numV xx) (numV yy) (numV zz)) cur) := Hid.mk' (by
      intro cur g15 g17 hS r15 r17 G15 G17 d15_17
      rw [hF.out, hG.out]
      clear stw1_0 stw1_1 stw1_2 stw1_4
      refine wpAnyH_ready (rs := [16]) (by kernel_rfl) (by simp) ?_
      refine AllReadyH.cons (o := qw1x16) rfl (fun K hK => ?_) (AllReadyH.nil)
      · unfold qw1x16
        go_simp
        obtain ⟨w1, g16, hw1, hg1, hb1, r16⟩ := fresh4 cur
        rw [hw1, hg1]
        have hS1 := below_next hS hb1
        have G16 : Vw1_.heap.size ≤ g16 := by have := hS.size; omega
        have d15_16 : g15 ≠ g16 := by have := r15.lt; omega
        have d16_17 : g16 ≠ g17 := by have := r17.lt; omega
        replace r15 := r15.still hb1
        replace r17 := r17.still hb1
        refine hK.out _ _ hS1 (fun h => ?_)
        clear h hK K hb1 hw1 hg1
        rw [← hG.out]
        exact dag_step3 (stw1_3.out w1 g15 g16 g17 hS1 r15 r16 r17 G15 G16 G17 d15_16 d15_17 d16_17) (by kernel_rfl) (by kernel_rfl) (hF.out _ _ _ _ _ _))
    have stw1_6 : Hid (∀ (cur : World) (g15 : Nat), Below Vw1_.heap.size Vw1_ cur → RW cur g15 0 (c4 (0)) → Vw1_.heap.size ≤ g15 → G 5 #[true, true, true, true, true, true, true, true, true, true, true, true, true, true, true, true, false, false, false, false, false] (F (.pointer (some ⟨g15, 0, none⟩)) undef undef (numV xx) (numV yy) (numV zz)) cur) := Hid.mk' (by
      intro cur g15 hS r15 G15
      rw [hF.out, hG.out]
      clear stw1_0 stw1_1 stw1_2 stw1_3
      refine wpAnyH_ready (rs := [16, 17]) (by kernel_rfl) (by simp) ?_
      refine AllReadyH.cons (o := qw1x16) rfl (fun K hK => ?_) (AllReadyH.cons (o := qw1x17) rfl (fun K hK => ?_) (AllReadyH.nil))
      · unfold qw1x16
        go_simp
        obtain ⟨w1, g16, hw1, hg1, hb1, r16⟩ := fresh4 cur
        rw [hw1, hg1]
        have hS1 := below_next hS hb1
        have G16 : Vw1_.heap.size ≤ g16 := by have := hS.size; omega
        have d15_16 : g15 ≠ g16 := by have := r15.lt; omega
        replace r15 := r15.still hb1
        refine hK.out _ _ hS1 (fun h => ?_)
        clear h hK K hb1 hw1 hg1
        rw [← hG.out]
        exact dag_step3 (stw1_4.out w1 g15 g16 hS1 r15 r16 G15 G16 d15_16) (by kernel_rfl) (by kernel_rfl) (hF.out _ _ _ _ _ _)
      · unfold qw1x17
        go_simp
        obtain ⟨w1, g17, hw1, hg1, hb1, r17⟩ := fresh4 cur
        rw [hw1, hg1]
        have hS1 := below_next hS hb1
        have G17 : Vw1_.heap.size ≤ g17 := by have := hS.size; omega
        have d15_17 : g15 ≠ g17 := by have := r15.lt; omega
        replace r15 := r15.still hb1
        refine hK.out _ _ hS1 (fun h => ?_)
        clear h hK K hb1 hw1 hg1
        rw [← hG.out]
        exact dag_step3 (stw1_5.out w1 g15 g17 hS1 r15 r17 G15 G17 d15_17) (by kernel_rfl) (by kernel_rfl) (hF.out _ _ _ _ _ _))
    have stw1_7 : Hid (∀ (cur : World) (g16 g17 : Nat), Below Vw1_.heap.size Vw1_ cur → RW cur g16 0 (c4 (0)) → RW cur g17 0 (c4 (0)) → Vw1_.heap.size ≤ g16 → Vw1_.heap.size ≤ g17 → g16 ≠ g17 → G 4 #[true, true, true, true, true, true, true, true, true, true, true, true, true, true, true, false, true, true, false, false, false] (F undef (.pointer (some ⟨g16, 0, none⟩)) (.pointer (some ⟨g17, 0, none⟩)) (numV xx) (numV yy) (numV zz)) cur) := Hid.mk' (by
      intro cur g16 g17 hS r16 r17 G16 G17 d16_17
      rw [hF.out, hG.out]
      clear stw1_0 stw1_1 stw1_2 stw1_4 stw1_5 stw1_6
      refine wpAnyH_ready (rs := [15]) (by kernel_rfl) (by simp) ?_
      refine AllReadyH.cons (o := qw1x15) rfl (fun K hK => ?_) (AllReadyH.nil)
      · unfold qw1x15
        go_simp
        obtain ⟨w1, g15, hw1, hg1, hb1, r15⟩ := fresh4 cur
        rw [hw1, hg1]
        have hS1 := below_next hS hb1
        have G15 : Vw1_.heap.size ≤ g15 := by have := hS.size; omega
        have d15_16 : g15 ≠ g16 := by have := r16.lt; omega
        have d15_17 : g15 ≠ g17 := by have := r17.lt; omega
        replace r16 := r16.still hb1
        replace r17 := r17.still hb1
        refine hK.out _ _ hS1 (fun h => ?_)
        clear h hK K hb1 hw1 hg1
        rw [← hG.out]
        exact dag_step3 (stw1_3.out w1 g15 g16 g17 hS1 r15 r16 r17 G15 G16 G17 d15_16 d15_17 d16_17) (by kernel_rfl) (by kernel_rfl) (hF.out _ _ _ _ _ _))
    have stw1_8 : Hid (∀ (cur : World) (g16 : Nat), Below Vw1_.heap.size Vw1_ cur → RW cur g16 0 (c4 (0)) → Vw1_.heap.size ≤ g16 → G 5 #[true, true, true, true, true, true, true, true, true, true, true, true, true, true, true, false, true, false, false, false, false] (F undef (.pointer (some ⟨g16, 0, none⟩)) undef (numV xx) (numV yy) (numV zz)) cur) := Hid.mk' (by
      intro cur g16 hS r16 G16
      rw [hF.out, hG.out]
      clear stw1_0 stw1_1 stw1_2 stw1_3 stw1_5 stw1_6
      refine wpAnyH_ready (rs := [15, 17]) (by kernel_rfl) (by simp) ?_
      refine AllReadyH.cons (o := qw1x15) rfl (fun K hK => ?_) (AllReadyH.cons (o := qw1x17) rfl (fun K hK => ?_) (AllReadyH.nil))
      · unfold qw1x15
        go_simp
        obtain ⟨w1, g15, hw1, hg1, hb1, r15⟩ := fresh4 cur
        rw [hw1, hg1]
        have hS1 := below_next hS hb1
        have G15 : Vw1_.heap.size ≤ g15 := by have := hS.size; omega
        have d15_16 : g15 ≠ g16 := by have := r16.lt; omega
        replace r16 := r16.still hb1
        refine hK.out _ _ hS1 (fun h => ?_)
        clear h hK K hb1 hw1 hg1
        rw [← hG.out]
        exact dag_step3 (stw1_4.out w1 g15 g16 hS1 r15 r16 G15 G16 d15_16) (by kernel_rfl) (by kernel_rfl) (hF.out _ _ _ _ _ _)
      · unfold qw1x17
        go_simp
        obtain ⟨w1, g17, hw1, hg1, hb1, r17⟩ := fresh4 cur
        rw [hw1, hg1]
        have hS1 := below_next hS hb1
        have G17 : Vw1_.heap.size ≤ g17 := by have := hS.size; omega
        have d16_17 : g16 ≠ g17 := by have := r16.lt; omega
        replace r16 := r16.still hb1
        refine hK.out _ _ hS1 (fun h => ?_)
        clear h hK K hb1 hw1 hg1
        rw [← hG.out]
        exact dag_step3 (stw1_7.out w1 g16 g17 hS1 r16 r17 G16 G17 d16_17) (by kernel_rfl) (by kernel_rfl) (hF.out _ _ _ _ _ _))
    have stw1_9 : Hid (∀ (cur : World) (g17 : Nat), Below Vw1_.heap.size Vw1_ cur → RW cur g17 0 (c4 (0)) → Vw1_.heap.size ≤ g17 → G 5 #[true, true, true, true, true, true, true, true, true, true, true, true, true, true, true, false, false, true, false, false, false] (F undef undef (.pointer (some ⟨g17, 0, none⟩)) (numV xx) (numV yy) (numV zz)) cur) := Hid.mk' (by
      intro cur g17 hS r17 G17
      rw [hF.out, hG.out]
      clear stw1_0 stw1_1 stw1_2 stw1_3 stw1_4 stw1_6 stw1_8
      refine wpAnyH_ready (rs := [15, 16]) (by kernel_rfl) (by simp) ?_
      refine AllReadyH.cons (o := qw1x15) rfl (fun K hK => ?_) (AllReadyH.cons (o := qw1x16) rfl (fun K hK => ?_) (AllReadyH.nil))
      · unfold qw1x15
        go_simp
        obtain ⟨w1, g15, hw1, hg1, hb1, r15⟩ := fresh4 cur
        rw [hw1, hg1]
        have hS1 := below_next hS hb1
        have G15 : Vw1_.heap.size ≤ g15 := by have := hS.size; omega
        have d15_17 : g15 ≠ g17 := by have := r17.lt; omega
        replace r17 := r17.still hb1
        refine hK.out _ _ hS1 (fun h => ?_)
        clear h hK K hb1 hw1 hg1
        rw [← hG.out]
        exact dag_step3 (stw1_5.out w1 g15 g17 hS1 r15 r17 G15 G17 d15_17) (by kernel_rfl) (by kernel_rfl) (hF.out _ _ _ _ _ _)
      · unfold qw1x16
        go_simp
        obtain ⟨w1, g16, hw1, hg1, hb1, r16⟩ := fresh4 cur
        rw [hw1, hg1]
        have hS1 := below_next hS hb1
        have G16 : Vw1_.heap.size ≤ g16 := by have := hS.size; omega
        have d16_17 : g16 ≠ g17 := by have := r17.lt; omega
        replace r17 := r17.still hb1
        refine hK.out _ _ hS1 (fun h => ?_)
        clear h hK K hb1 hw1 hg1
        rw [← hG.out]
        exact dag_step3 (stw1_7.out w1 g16 g17 hS1 r16 r17 G16 G17 d16_17) (by kernel_rfl) (by kernel_rfl) (hF.out _ _ _ _ _ _))
    have stw1_10 : Hid (∀ (cur : World), Below Vw1_.heap.size Vw1_ cur → G 6 #[true, true, true, true, true, true, true, true, true, true, true, true, true, true, true, false, false, false, false, false, false] (F undef undef undef (numV xx) (numV yy) (numV zz)) cur) := Hid.mk' (by
      intro cur  hS 
      rw [hF.out, hG.out]
      clear stw1_0 stw1_1 stw1_2 stw1_3 stw1_4 stw1_5 stw1_7
      refine wpAnyH_ready (rs := [15, 16, 17]) (by kernel_rfl) (by simp) ?_
      refine AllReadyH.cons (o := qw1x15) rfl (fun K hK => ?_) (AllReadyH.cons (o := qw1x16) rfl (fun K hK => ?_) (AllReadyH.cons (o := qw1x17) rfl (fun K hK => ?_) (AllReadyH.nil)))
      · unfold qw1x15
        go_simp
        obtain ⟨w1, g15, hw1, hg1, hb1, r15⟩ := fresh4 cur
        rw [hw1, hg1]
        have hS1 := below_next hS hb1
        have G15 : Vw1_.heap.size ≤ g15 := by have := hS.size; omega
        refine hK.out _ _ hS1 (fun h => ?_)
        clear h hK K hb1 hw1 hg1
        rw [← hG.out]
        exact dag_step3 (stw1_6.out w1 g15 hS1 r15 G15) (by kernel_rfl) (by kernel_rfl) (hF.out _ _ _ _ _ _)
      · unfold qw1x16
        go_simp
        obtain ⟨w1, g16, hw1, hg1, hb1, r16⟩ := fresh4 cur
        rw [hw1, hg1]
        have hS1 := below_next hS hb1
        have G16 : Vw1_.heap.size ≤ g16 := by have := hS.size; omega
        refine hK.out _ _ hS1 (fun h => ?_)
        clear h hK K hb1 hw1 hg1
        rw [← hG.out]
        exact dag_step3 (stw1_8.out w1 g16 hS1 r16 G16) (by kernel_rfl) (by kernel_rfl) (hF.out _ _ _ _ _ _)
      · unfold qw1x17
        go_simp
        obtain ⟨w1, g17, hw1, hg1, hb1, r17⟩ := fresh4 cur
        rw [hw1, hg1]
        have hS1 := below_next hS hb1
        have G17 : Vw1_.heap.size ≤ g17 := by have := hS.size; omega
        refine hK.out _ _ hS1 (fun h => ?_)
        clear h hK K hb1 hw1 hg1
        rw [← hG.out]
        exact dag_step3 (stw1_9.out w1 g17 hS1 r17 G17) (by kernel_rfl) (by kernel_rfl) (hF.out _ _ _ _ _ _))
    have stw1_11 : Hid (∀ (cur : World) (g15 g16 g17 : Nat), Below Vw1_.heap.size Vw1_ cur → RW cur g15 0 (c4 (0)) → RW cur g16 0 (c4 (0)) → RW cur g17 0 (c4 (0)) → Vw1_.heap.size ≤ g15 → Vw1_.heap.size ≤ g16 → Vw1_.heap.size ≤ g17 → g15 ≠ g16 → g15 ≠ g17 → g16 ≠ g17 → G 4 #[true, true, true, true, true, true, true, true, true, true, true, true, true, true, false, true, true, true, false, false, false] (F (.pointer (some ⟨g15, 0, none⟩)) (.pointer (some ⟨g16, 0, none⟩)) (.pointer (some ⟨g17, 0, none⟩)) (numV xx) (numV yy) undef) cur) := Hid.mk' (by
      intro cur g15 g16 g17 hS r15 r16 r17 G15 G16 G17 d15_16 d15_17 d16_17
      rw [hF.out, hG.out]
      clear stw1_0 stw1_1 stw1_2 stw1_4 stw1_5 stw1_6 stw1_7 stw1_8 stw1_9 stw1_10
      refine wpAnyH_ready (rs := [14]) (by kernel_rfl) (by simp) ?_
      refine AllReadyH.cons (o := qw1x14) rfl (fun K hK => ?_) (AllReadyH.nil)
      · unfold qw1x14
        go_simp
        (go_at_call 51; refine (k3 _).mono ?_; rintro e w1 ⟨rfl, hb1⟩)
        (try go_simp)
        have hS1 := below_next hS hb1
        replace r15 := r15.still hb1
        replace r16 := r16.still hb1
        replace r17 := r17.still hb1
        refine hK.out _ _ hS1 (fun h => ?_)
        clear h hK K hb1
        rw [← hG.out]
        exact dag_step3 (stw1_3.out w1 g15 g16 g17 hS1 r15 r16 r17 G15 G16 G17 d15_16 d15_17 d16_17) (by kernel_rfl) (by kernel_rfl) (hF.out _ _ _ _ _ _))
    have stw1_12 : Hid (∀ (cur : World) (g15 g16 : Nat), Below Vw1_.heap.size Vw1_ cur → RW cur g15 0 (c4 (0)) → RW cur g16 0 (c4 (0)) → Vw1_.heap.size ≤ g15 → Vw1_.heap.size ≤ g16 → g15 ≠ g16 → G 5 #[true, true, true, true, true, true, true, true, true, true, true, true, true, true, false, true, true, false, false, false, false] (F (.pointer (some ⟨g15, 0, none⟩)) (.pointer (some ⟨g16, 0, none⟩)) undef (numV xx) (numV yy) undef) cur) := Hid.mk' (by
      intro cur g15 g16 hS r15 r16 G15 G16 d15_16
      rw [hF.out, hG.out]
      clear stw1_0 stw1_1 stw1_2 stw1_3 stw1_5 stw1_6 stw1_7 stw1_8 stw1_9 stw1_10
      refine wpAnyH_ready (rs := [14, 17]) (by kernel_rfl) (by simp) ?_
      refine AllReadyH.cons (o := qw1x14) rfl (fun K hK => ?_) (AllReadyH.cons (o := qw1x17) rfl (fun K hK => ?_) (AllReadyH.nil))
      · unfold qw1x14
        go_simp
        (go_at_call 51; refine (k3 _).mono ?_; rintro e w1 ⟨rfl, hb1⟩)
        (try go_simp)
        have hS1 := below_next hS hb1
        replace r15 := r15.still hb1
        replace r16 := r16.still hb1
        refine hK.out _ _ hS1 (fun h => ?_)
        clear h hK K hb1
        rw [← hG.out]
        exact dag_step3 (stw1_4.out w1 g15 g16 hS1 r15 r16 G15 G16 d15_16) (by kernel_rfl) (by kernel_rfl) (hF.out _ _ _ _ _ _)
      · unfold qw1x17
        go_simp
        obtain ⟨w1, g17, hw1, hg1, hb1, r17⟩ := fresh4 cur
        rw [hw1, hg1]
        have hS1 := below_next hS hb1
        have G17 : Vw1_.heap.size ≤ g17 := by have := hS.size; omega
        have d15_17 : g15 ≠ g17 := by have := r15.lt; omega
        have d16_17 : g16 ≠ g17 := by have := r16.lt; omega
        replace r15 := r15.still hb1
        replace r16 := r16.still hb1
        refine hK.out _ _ hS1 (fun h => ?_)
        clear h hK K hb1 hw1 hg1
        rw [← hG.out]
        exact dag_step3 (stw1_11.out w1 g15 g16 g17 hS1 r15 r16 r17 G15 G16 G17 d15_16 d15_17 d16_17) (by kernel_rfl) (by kernel_rfl) (hF.out _ _ _ _ _ _))
    have stw1_13 : Hid (∀ (cur : World) (g15 g17 : Nat), Below Vw1_.heap.size Vw1_ cur → RW cur g15 0 (c4 (0)) → RW cur g17 0 (c4 (0)) → Vw1_.heap.size ≤ g15 → Vw1_.heap.size ≤ g17 → g15 ≠ g17 → G 5 #[true, true, true, true, true, true, true, true, true, true, true, true, true, true, false, true, false, true, false, false, false] (F (.pointer (some ⟨g15, 0, none⟩)) undef (.pointer (some ⟨g17, 0, none⟩)) (numV xx) (numV yy) undef) cur) := Hid.mk' (by
      intro cur g15 g17 hS r15 r17 G15 G17 d15_17
      rw [hF.out, hG.out]
      clear stw1_0 stw1_1 stw1_2 stw1_3 stw1_4 stw1_6 stw1_7 stw1_8 stw1_9 stw1_10 stw1_12
      refine wpAnyH_ready (rs := [14, 16]) (by kernel_rfl) (by simp) ?_
      refine AllReadyH.cons (o := qw1x14) rfl (fun K hK => ?_) (AllReadyH.cons (o := qw1x16) rfl (fun K hK => ?_) (AllReadyH.nil))
      · unfold qw1x14
        go_simp
        (go_at_call 51; refine (k3 _).mono ?_; rintro e w1 ⟨rfl, hb1⟩)
        (try go_simp)
        have hS1 := below_next hS hb1
        replace r15 := r15.still hb1
        replace r17 := r17.still hb1
        refine hK.out _ _ hS1 (fun h => ?_)
        clear h hK K hb1
        rw [← hG.out]
        exact dag_step3 (stw1_5.out w1 g15 g17 hS1 r15 r17 G15 G17 d15_17) (by kernel_rfl) (by kernel_rfl) (hF.out _ _ _ _ _ _)
      · unfold qw1x16
        go_simp
        obtain ⟨w1, g16, hw1, hg1, hb1, r16⟩ := fresh4 cur
        rw [hw1, hg1]
        have hS1 := below_next hS hb1
        have G16 : Vw1_.heap.size ≤ g16 := by have := hS.size; omega
        have d15_16 : g15 ≠ g16 := by have := r15.lt; omega
        have d16_17 : g16 ≠ g17 := by have := r17.lt; omega
        replace r15 := r15.still hb1
        replace r17 := r17.still hb1
        refine hK.out _ _ hS1 (fun h => ?_)
        clear h hK K hb1 hw1 hg1
        rw [← hG.out]
        exact dag_step3 (stw1_11.out w1 g15 g16 g17 hS1 r15 r16 r17 G15 G16 G17 d15_16 d15_17 d16_17) (by kernel_rfl) (by kernel_rfl) (hF.out _ _ _ _ _ _))
    have stw1_14 : Hid (∀ (cur : World) (g15 : Nat), Below Vw1_.heap.size Vw1_ cur → RW cur g15 0 (c4 (0)) → Vw1_.heap.size ≤ g15 → G 6 #[true, true, true, true, true, true, true, true, true, true, true, true, true, true, false, true, false, false, false, false, false] (F (.pointer (some ⟨g15, 0, none⟩)) undef undef (numV xx) (numV yy) undef) cur) := Hid.mk' (by
      intro cur g15 hS r15 G15
      rw [hF.out, hG.out]
      clear stw1_0 stw1_1 stw1_2 stw1_3 stw1_4 stw1_5 stw1_7 stw1_8 stw1_9 stw1_10 stw1_11
      refine wpAnyH_ready (rs := [14, 16, 17]) (by kernel_rfl) (by simp) ?_
      refine AllReadyH.cons (o := qw1x14) rfl (fun K hK => ?_) (AllReadyH.cons (o := qw1x16) rfl (fun K hK => ?_) (AllReadyH.cons (o := qw1x17) rfl (fun K hK => ?_) (AllReadyH.nil)))
      · unfold qw1x14
        go_simp
        (go_at_call 51; refine (k3 _).mono ?_; rintro e w1 ⟨rfl, hb1⟩)
        (try go_simp)
        have hS1 := below_next hS hb1
        replace r15 := r15.still hb1
        refine hK.out _ _ hS1 (fun h => ?_)
        clear h hK K hb1
        rw [← hG.out]
        exact dag_step3 (stw1_6.out w1 g15 hS1 r15 G15) (by kernel_rfl) (by kernel_rfl) (hF.out _ _ _ _ _ _)
      · unfold qw1x16
        go_simp
        obtain ⟨w1, g16, hw1, hg1, hb1, r16⟩ := fresh4 cur
        rw [hw1, hg1]
        have hS1 := below_next hS hb1
        have G16 : Vw1_.heap.size ≤ g16 := by have := hS.size; omega
        have d15_16 : g15 ≠ g16 := by have := r15.lt; omega
        replace r15 := r15.still hb1
        refine hK.out _ _ hS1 (fun h => ?_)
        clear h hK K hb1 hw1 hg1
        rw [← hG.out]
        exact dag_step3 (stw1_12.out w1 g15 g16 hS1 r15 r16 G15 G16 d15_16) (by kernel_rfl) (by kernel_rfl) (hF.out _ _ _ _ _ _)
      · unfold qw1x17
        go_simp
        obtain ⟨w1, g17, hw1, hg1, hb1, r17⟩ := fresh4 cur
        rw [hw1, hg1]
        have hS1 := below_next hS hb1
        have G17 : Vw1_.heap.size ≤ g17 := by have := hS.size; omega
        have d15_17 : g15 ≠ g17 := by have := r15.lt; omega
        replace r15 := r15.still hb1
        refine hK.out _ _ hS1 (fun h => ?_)
        clear h hK K hb1 hw1 hg1
        rw [← hG.out]
        exact dag_step3 (stw1_13.out w1 g15 g17 hS1 r15 r17 G15 G17 d15_17) (by kernel_rfl) (by kernel_rfl) (hF.out _ _ _ _ _ _))
    have stw1_15 : Hid (∀ (cur : World) (g16 g17 : Nat), Below Vw1_.heap.size Vw1_ cur → RW cur g16 0 (c4 (0)) → RW cur g17 0 (c4 (0)) → Vw1_.heap.size ≤ g16 → Vw1_.heap.size ≤ g17 → g16 ≠ g17 → G 5 #[true, true, true, true, true, true, true, true, true, true, true, true, true, true, false, false, true, true, false, false, false] (F undef (.pointer (some ⟨g16, 0, none⟩)) (.pointer (some ⟨g17, 0, none⟩)) (numV xx) (numV yy) undef) cur) := Hid.mk' (by
      intro cur g16 g17 hS r16 r17 G16 G17 d16_17
      rw [hF.out, hG.out]
      clear stw1_0 stw1_1 stw1_2 stw1_3 stw1_4 stw1_5 stw1_6 stw1_8 stw1_9 stw1_10 stw1_12 stw1_13 stw1_14
      refine wpAnyH_ready (rs := [14, 15]) (by kernel_rfl) (by simp) ?_
      refine AllReadyH.cons (o := qw1x14) rfl (fun K hK => ?_) (AllReadyH.cons (o := qw1x15) rfl (fun K hK => ?_) (AllReadyH.nil))
      · unfold qw1x14
        go_simp
        (go_at_call 51; refine (k3 _).mono ?_; rintro e w1 ⟨rfl, hb1⟩)
        (try go_simp)
        have hS1 := below_next hS hb1
        replace r16 := r16.still hb1
        replace r17 := r17.still hb1
        refine hK.out _ _ hS1 (fun h => ?_)
        clear h hK K hb1
        rw [← hG.out]
        exact dag_step3 (stw1_7.out w1 g16 g17 hS1 r16 r17 G16 G17 d16_17) (by kernel_rfl) (by kernel_rfl) (hF.out _ _ _ _ _ _)
      · unfold qw1x15
        go_simp
        obtain ⟨w1, g15, hw1, hg1, hb1, r15⟩ := fresh4 cur
        rw [hw1, hg1]
        have hS1 := below_next hS hb1
        have G15 : Vw1_.heap.size ≤ g15 := by have := hS.size; omega
        have d15_16 : g15 ≠ g16 := by have := r16.lt; omega
        have d15_17 : g15 ≠ g17 := by have := r17.lt; omega
        replace r16 := r16.still hb1
        replace r17 := r17.still hb1
        refine hK.out _ _ hS1 (fun h => ?_)
        clear h hK K hb1 hw1 hg1
        rw [← hG.out]
        exact dag_step3 (stw1_11.out w1 g15 g16 g17 hS1 r15 r16 r17 G15 G16 G17 d15_16 d15_17 d16_17) (by kernel_rfl) (by kernel_rfl) (hF.out _ _ _ _ _ _))
    have stw1_16 : Hid (∀ (cur : World) (g16 : Nat), Below Vw1_.heap.size Vw1_ cur → RW cur g16 0 (c4 (0)) → Vw1_.heap.size ≤ g16 → G 6 #[true, true, true, true, true, true, true, true, true, true, true, true, true, true, false, false, true, false, false, false, false] (F undef (.pointer (some ⟨g16, 0, none⟩)) undef (numV xx) (numV yy) undef) cur) := Hid.mk' (by
      intro cur g16 hS r16 G16
      rw [hF.out, hG.out]
      clear stw1_0 stw1_1 stw1_2 stw1_3 stw1_4 stw1_5 stw1_6 stw1_7 stw1_9 stw1_10 stw1_11 stw1_13 stw1_14
      refine wpAnyH_ready (rs := [14, 15, 17]) (by kernel_rfl) (by simp) ?_
      refine AllReadyH.cons (o := qw1x14) rfl (fun K hK => ?_) (AllReadyH.cons (o := qw1x15) rfl (fun K hK => ?_) (AllReadyH.cons (o := qw1x17) rfl (fun K hK => ?_) (AllReadyH.nil)))
      · unfold qw1x14
        go_simp
        (go_at_call 51; refine (k3 _).mono ?_; rintro e w1 ⟨rfl, hb1⟩)
        (try go_simp)
        have hS1 := below_next hS hb1
        replace r16 := r16.still hb1
        refine hK.out _ _ hS1 (fun h => ?_)
        clear h hK K hb1
        rw [← hG.out]
        exact dag_step3 (stw1_8.out w1 g16 hS1 r16 G16) (by kernel_rfl) (by kernel_rfl) (hF.out _ _ _ _ _ _)
      · unfold qw1x15
        go_simp
        obtain ⟨w1, g15, hw1, hg1, hb1, r15⟩ := fresh4 cur
        rw [hw1, hg1]
        have hS1 := below_next hS hb1
        have G15 : Vw1_.heap.size ≤ g15 := by have := hS.size; omega
        have d15_16 : g15 ≠ g16 := by have := r16.lt; omega
        replace r16 := r16.still hb1
        refine hK.out _ _ hS1 (fun h => ?_)
        clear h hK K hb1 hw1 hg1
        rw [← hG.out]
        exact dag_step3 (stw1_12.out w1 g15 g16 hS1 r15 r16 G15 G16 d15_16) (by kernel_rfl) (by kernel_rfl) (hF.out _ _ _ _ _ _)
      · unfold qw1x17
        go_simp
        obtain ⟨w1, g17, hw1, hg1, hb1, r17⟩ := fresh4 cur
        rw [hw1, hg1]
        have hS1 := below_next hS hb1
        have G17 : Vw1_.heap.size ≤ g17 := by have := hS.size; omega
        have d16_17 : g16 ≠ g17 := by have := r16.lt; omega
        replace r16 := r16.still hb1
        refine hK.out _ _ hS1 (fun h => ?_)
        clear h hK K hb1 hw1 hg1
        rw [← hG.out]
        exact dag_step3 (stw1_15.out w1 g16 g17 hS1 r16 r17 G16 G17 d16_17) (by kernel_rfl) (by kernel_rfl) (hF.out _ _ _ _ _ _))
    have stw1_17 : Hid (∀ (cur : World) (g17 : Nat), Below Vw1_.heap.size Vw1_ cur → RW cur g17 0 (c4 (0)) → Vw1_.heap.size ≤ g17 → G 6 #[true, true, true, true, true, true, true, true, true, true, true, true, true, true, false, false, false, true, false, false, false] (F undef undef (.pointer (some ⟨g17, 0, none⟩)) (numV xx) (numV yy) undef) cur) := Hid.mk' (by
      intro cur g17 hS r17 G17
      rw [hF.out, hG.out]
      clear stw1_0 stw1_1 stw1_2 stw1_3 stw1_4 stw1_5 stw1_6 stw1_7 stw1_8 stw1_10 stw1_11 stw1_12 stw1_14 stw1_16
      refine wpAnyH_ready (rs := [14, 15, 16]) (by kernel_rfl) (by simp) ?_
      refine AllReadyH.cons (o := qw1x14) rfl (fun K hK => ?_) (AllReadyH.cons (o := qw1x15) rfl (fun K hK => ?_) (AllReadyH.cons (o := qw1x16) rfl (fun K hK => ?_) (AllReadyH.nil)))
      · unfold qw1x14
        go_simp
        (go_at_call 51; refine (k3 _).mono ?_; rintro e w1 ⟨rfl, hb1⟩)
        (try go_simp)
        have hS1 := below_next hS hb1
        replace r17 := r17.still hb1
        refine hK.out _ _ hS1 (fun h => ?_)
        clear h hK K hb1
        rw [← hG.out]
        exact dag_step3 (stw1_9.out w1 g17 hS1 r17 G17) (by kernel_rfl) (by kernel_rfl) (hF.out _ _ _ _ _ _)
      · unfold qw1x15
        go_simp
        obtain ⟨w1, g15, hw1, hg1, hb1, r15⟩ := fresh4 cur
        rw [hw1, hg1]
        have hS1 := below_next hS hb1
        have G15 : Vw1_.heap.size ≤ g15 := by have := hS.size; omega
        have d15_17 : g15 ≠ g17 := by have := r17.lt; omega
        replace r17 := r17.still hb1
        refine hK.out _ _ hS1 (fun h => ?_)
        clear h hK K hb1 hw1 hg1
        rw [← hG.out]
        exact dag_step3 (stw1_13.out w1 g15 g17 hS1 r15 r17 G15 G17 d15_17) (by kernel_rfl) (by kernel_rfl) (hF.out _ _ _ _ _ _)
      · unfold qw1x16
        go_simp
        obtain ⟨w1, g16, hw1, hg1, hb1, r16⟩ := fresh4 cur
        rw [hw1, hg1]
        have hS1 := below_next hS hb1
        have G16 : Vw1_.heap.size ≤ g16 := by have := hS.size; omega
        have d16_17 : g16 ≠ g17 := by have := r17.lt; omega
        replace r17 := r17.still hb1
        refine hK.out _ _ hS1 (fun h => ?_)
        clear h hK K hb1 hw1 hg1
        rw [← hG.out]
        exact dag_step3 (stw1_15.out w1 g16 g17 hS1 r16 r17 G16 G17 d16_17) (by kernel_rfl) (by kernel_rfl) (hF.out _ _ _ _ _ _))
    have stw1_18 : Hid (∀ (cur : World), Below Vw1_.heap.size Vw1_ cur → G 7 #[true, true, true, true, true, true, true, true, true, true, true, true, true, true, false, false, false, false, false, false, false] (F undef undef undef (numV xx) (numV yy) undef) cur) := Hid.mk' (by
      intro cur  hS 
      rw [hF.out, hG.out]
      clear stw1_0 stw1_1 stw1_2 stw1_3 stw1_4 stw1_5 stw1_6 stw1_7 stw1_8 stw1_9 stw1_11 stw1_12 stw1_13 stw1_15
      refine wpAnyH_ready (rs := [14, 15, 16, 17]) (by kernel_rfl) (by simp) ?_
      refine AllReadyH.cons (o := qw1x14) rfl (fun K hK => ?_) (AllReadyH.cons (o := qw1x15) rfl (fun K hK => ?_) (AllReadyH.cons (o := qw1x16) rfl (fun K hK => ?_) (AllReadyH.cons (o := qw1x17) rfl (fun K hK => ?_) (AllReadyH.nil))))
      · unfold qw1x14
        go_simp
        (go_at_call 51; refine (k3 _).mono ?_; rintro e w1 ⟨rfl, hb1⟩)
        (try go_simp)
        have hS1 := below_next hS hb1
        refine hK.out _ _ hS1 (fun h => ?_)
        clear h hK K hb1
        rw [← hG.out]
        exact dag_step3 (stw1_10.out w1  hS1 ) (by kernel_rfl) (by kernel_rfl) (hF.out _ _ _ _ _ _)
      · unfold qw1x15
        go_simp
        obtain ⟨w1, g15, hw1, hg1, hb1, r15⟩ := fresh4 cur
        rw [hw1, hg1]
        have hS1 := below_next hS hb1
        have G15 : Vw1_.heap.size ≤ g15 := by have := hS.size; omega
        refine hK.out _ _ hS1 (fun h => ?_)
        clear h hK K hb1 hw1 hg1
        rw [← hG.out]
        exact dag_step3 (stw1_14.out w1 g15 hS1 r15 G15) (by kernel_rfl) (by kernel_rfl) (hF.out _ _ _ _ _ _)
      · unfold qw1x16
        go_simp
        obtain ⟨w1, g16, hw1, hg1, hb1, r16⟩ := fresh4 cur
        rw [hw1, hg1]
        have hS1 := below_next hS hb1
        have G16 : Vw1_.heap.size ≤ g16 := by have := hS.size; omega
        refine hK.out _ _ hS1 (fun h => ?_)
        clear h hK K hb1 hw1 hg1
        rw [← hG.out]
        exact dag_step3 (stw1_16.out w1 g16 hS1 r16 G16) (by kernel_rfl) (by kernel_rfl) (hF.out _ _ _ _ _ _)
      · unfold qw1x17
        go_simp
        obtain ⟨w1, g17, hw1, hg1, hb1, r17⟩ := fresh4 cur
        rw [hw1, hg1]
        have hS1 := below_next hS hb1
        have G17 : Vw1_.heap.size ≤ g17 := by have := hS.size; omega
        refine hK.out _ _ hS1 (fun h => ?_)
        clear h hK K hb1 hw1 hg1
        rw [← hG.out]
        exact dag_step3 (stw1_17.out w1 g17 hS1 r17 G17) (by kernel_rfl) (by kernel_rfl) (hF.out _ _ _ _ _ _))
    have stw1_19 : Hid (∀ (cur : World) (g15 g16 g17 : Nat), Below Vw1_.heap.size Vw1_ cur → RW cur g15 0 (c4 (0)) → RW cur g16 0 (c4 (0)) → RW cur g17 0 (c4 (0)) → Vw1_.heap.size ≤ g15 → Vw1_.heap.size ≤ g16 → Vw1_.heap.size ≤ g17 → g15 ≠ g16 → g15 ≠ g17 → g16 ≠ g17 → G 5 #[true, true, true, true, true, true, true, true, true, false, true, true, true, true, false, true, true, true, false, false, false] (F (.pointer (some ⟨g15, 0, none⟩)) (.pointer (some ⟨g16, 0, none⟩)) (.pointer (some ⟨g17, 0, none⟩)) (numV xx) undef undef) cur) := Hid.mk' (by
      intro cur g15 g16 g17 hS r15 r16 r17 G15 G16 G17 d15_16 d15_17 d16_17
      rw [hF.out, hG.out]
      clear stw1_0 stw1_1 stw1_2 stw1_3 stw1_4 stw1_5 stw1_6 stw1_7 stw1_8 stw1_9 stw1_10 stw1_12 stw1_13 stw1_14 stw1_15 stw1_16 stw1_17 stw1_18
      refine wpAnyH_ready (rs := [9]) (by kernel_rfl) (by simp) ?_
      refine AllReadyH.cons (o := qw1x9) rfl (fun K hK => ?_) (AllReadyH.nil)
      · unfold qw1x9
        go_simp
        (go_at_call 51; refine (k2 _).mono ?_; rintro e w1 ⟨rfl, hb1⟩)
        (try go_simp)
        have hS1 := below_next hS hb1
        replace r15 := r15.still hb1
        replace r16 := r16.still hb1
        replace r17 := r17.still hb1
        refine hK.out _ _ hS1 (fun h => ?_)
        clear h hK K hb1
        rw [← hG.out]
        exact dag_step3 (stw1_11.out w1 g15 g16 g17 hS1 r15 r16 r17 G15 G16 G17 d15_16 d15_17 d16_17) (by kernel_rfl) (by kernel_rfl) (hF.out _ _ _ _ _ _))
    have stw1_20 : Hid (∀ (cur : World) (g15 g16 : Nat), Below Vw1_.heap.size Vw1_ cur → RW cur g15 0 (c4 (0)) → RW cur g16 0 (c4 (0)) → Vw1_.heap.size ≤ g15 → Vw1_.heap.size ≤ g16 → g15 ≠ g16 → G 6 #[true, true, true, true, true, true, true, true, true, false, true, true, true, true, false, true, true, false, false, false, false] (F (.pointer (some ⟨g15, 0, none⟩)) (.pointer (some ⟨g16, 0, none⟩)) undef (numV xx) undef undef) cur) := Hid.mk' (by
      intro cur g15 g16 hS r15 r16 G15 G16 d15_16
      rw [hF.out, hG.out]
      clear stw1_0 stw1_1 stw1_2 stw1_3 stw1_4 stw1_5 stw1_6 stw1_7 stw1_8 stw1_9 stw1_10 stw1_11 stw1_13 stw1_14 stw1_15 stw1_16 stw1_17 stw1_18
      refine wpAnyH_ready (rs := [9, 17]) (by kernel_rfl) (by simp) ?_
      refine AllReadyH.cons (o := qw1x9) rfl (fun K hK => ?_) (AllReadyH.cons (o := qw1x17) rfl (fun K hK => ?_) (AllReadyH.nil))
      · unfold qw1x9
        go_simp
        (go_at_call 51; refine (k2 _).mono ?_; rintro e w1 ⟨rfl, hb1⟩)
        (try go_simp)
        have hS1 := below_next hS hb1
        replace r15 := r15.still hb1
        replace r16 := r16.still hb1
        refine hK.out _ _ hS1 (fun h => ?_)
        clear h hK K hb1
        rw [← hG.out]
        exact dag_step3 (stw1_12.out w1 g15 g16 hS1 r15 r16 G15 G16 d15_16) (by kernel_rfl) (by kernel_rfl) (hF.out _ _ _ _ _ _)
      · unfold qw1x17
        go_simp
        obtain ⟨w1, g17, hw1, hg1, hb1, r17⟩ := fresh4 cur
        rw [hw1, hg1]
        have hS1 := below_next hS hb1
        have G17 : Vw1_.heap.size ≤ g17 := by have := hS.size; omega
        have d15_17 : g15 ≠ g17 := by have := r15.lt; omega
        have d16_17 : g16 ≠ g17 := by have := r16.lt; omega
        replace r15 := r15.still hb1
        replace r16 := r16.still hb1
        refine hK.out _ _ hS1 (fun h => ?_)
        clear h hK K hb1 hw1 hg1
        rw [← hG.out]
        exact dag_step3 (stw1_19.out w1 g15 g16 g17 hS1 r15 r16 r17 G15 G16 G17 d15_16 d15_17 d16_17) (by kernel_rfl) (by kernel_rfl) (hF.out _ _ _ _ _ _))
    have stw1_21 : Hid (∀ (cur : World) (g15 g17 : Nat), Below Vw1_.heap.size Vw1_ cur → RW cur g15 0 (c4 (0)) → RW cur g17 0 (c4 (0)) → Vw1_.heap.size ≤ g15 → Vw1_.heap.size ≤ g17 → g15 ≠ g17 → G 6 #[true, true, true, true, true, true, true, true, true, false, true, true, true, true, false, true, false, true, false, false, false] (F (.pointer (some ⟨g15, 0, none⟩)) undef (.pointer (some ⟨g17, 0, none⟩)) (numV xx) undef undef) cur) := Hid.mk' (by
      intro cur g15 g17 hS r15 r17 G15 G17 d15_17
      rw [hF.out, hG.out]
      clear stw1_0 stw1_1 stw1_2 stw1_3 stw1_4 stw1_5 stw1_6 stw1_7 stw1_8 stw1_9 stw1_10 stw1_11 stw1_12 stw1_14 stw1_15 stw1_16 stw1_17 stw1_18 stw1_20
      refine wpAnyH_ready (rs := [9, 16]) (by kernel_rfl) (by simp) ?_
      refine AllReadyH.cons (o := qw1x9) rfl (fun K hK => ?_) (AllReadyH.cons (o := qw1x16) rfl (fun K hK => ?_) (AllReadyH.nil))
      · unfold qw1x9
        go_simp
        (go_at_call 51; refine (k2 _).mono ?_; rintro e w1 ⟨rfl, hb1⟩)
        (try go_simp)
        have hS1 := below_next hS hb1
        replace r15 := r15.still hb1
        replace r17 := r17.still hb1
        refine hK.out _ _ hS1 (fun h => ?_)
        clear h hK K hb1
        rw [← hG.out]
        exact dag_step3 (stw1_13.out w1 g15 g17 hS1 r15 r17 G15 G17 d15_17) (by kernel_rfl) (by kernel_rfl) (hF.out _ _ _ _ _ _)
      · unfold qw1x16
        go_simp
        obtain ⟨w1, g16, hw1, hg1, hb1, r16⟩ := fresh4 cur
        rw [hw1, hg1]
        have hS1 := below_next hS hb1
        have G16 : Vw1_.heap.size ≤ g16 := by have := hS.size; omega
        have d15_16 : g15 ≠ g16 := by have := r15.lt; omega
        have d16_17 : g16 ≠ g17 := by have := r17.lt; omega
        replace r15 := r15.still hb1
        replace r17 := r17.still hb1
        refine hK.out _ _ hS1 (fun h => ?_)
        clear h hK K hb1 hw1 hg1
        rw [← hG.out]
        exact dag_step3 (stw1_19.out w1 g15 g16 g17 hS1 r15 r16 r17 G15 G16 G17 d15_16 d15_17 d16_17) (by kernel_rfl) (by kernel_rfl) (hF.out _ _ _ _ _ _))
    have stw1_22 : Hid (∀ (cur : World) (g15 : Nat), Below Vw1_.heap.size Vw1_ cur → RW cur g15 0 (c4 (0)) → Vw1_.heap.size ≤ g15 → G 7 #[true, true, true, true, true, true, true, true, true, false, true, true, true, true, false, true, false, false, false, false, false] (F (.pointer (some ⟨g15, 0, none⟩)) undef undef (numV xx) undef undef) cur) := Hid.mk' (by
      intro cur g15 hS r15 G15
      rw [hF.out, hG.out]
      clear stw1_0 stw1_1 stw1_2 stw1_3 stw1_4 stw1_5 stw1_6 stw1_7 stw1_8 stw1_9 stw1_10 stw1_11 stw1_12 stw1_13 stw1_15 stw1_16 stw1_17 stw1_18 stw1_19
      refine wpAnyH_ready (rs := [9, 16, 17]) (by kernel_rfl) (by simp) ?_
      refine AllReadyH.cons (o := qw1x9) rfl (fun K hK => ?_) (AllReadyH.cons (o := qw1x16) rfl (fun K hK => ?_) (AllReadyH.cons (o := qw1x17) rfl (fun K hK => ?_) (AllReadyH.nil)))
      · unfold qw1x9
        go_simp
        (go_at_call 51; refine (k2 _).mono ?_; rintro e w1 ⟨rfl, hb1⟩)
        (try go_simp)
        have hS1 := below_next hS hb1
        replace r15 := r15.still hb1
        refine hK.out _ _ hS1 (fun h => ?_)
        clear h hK K hb1
        rw [← hG.out]
        exact dag_step3 (stw1_14.out w1 g15 hS1 r15 G15) (by kernel_rfl) (by kernel_rfl) (hF.out _ _ _ _ _ _)
      · unfold qw1x16
        go_simp
        obtain ⟨w1, g16, hw1, hg1, hb1, r16⟩ := fresh4 cur
        rw [hw1, hg1]
        have hS1 := below_next hS hb1
        have G16 : Vw1_.heap.size ≤ g16 := by have := hS.size; omega
        have d15_16 : g15 ≠ g16 := by have := r15.lt; omega
        replace r15 := r15.still hb1
        refine hK.out _ _ hS1 (fun h => ?_)
        clear h hK K hb1 hw1 hg1
        rw [← hG.out]
        exact dag_step3 (stw1_20.out w1 g15 g16 hS1 r15 r16 G15 G16 d15_16) (by kernel_rfl) (by kernel_rfl) (hF.out _ _ _ _ _ _)
      · unfold qw1x17
        go_simp
        obtain ⟨w1, g17, hw1, hg1, hb1, r17⟩ := fresh4 cur
        rw [hw1, hg1]
        have hS1 := below_next hS hb1
        have G17 : Vw1_.heap.size ≤ g17 := by have := hS.size; omega
        have d15_17 : g15 ≠ g17 := by have := r15.lt; omega
        replace r15 := r15.still hb1
        refine hK.out _ _ hS1 (fun h => ?_)
        clear h hK K hb1 hw1 hg1
        rw [← hG.out]
        exact dag_step3 (stw1_21.out w1 g15 g17 hS1 r15 r17 G15 G17 d15_17) (by kernel_rfl) (by kernel_rfl) (hF.out _ _ _ _ _ _))
    have stw1_23 : Hid (∀ (cur : World) (g16 g17 : Nat), Below Vw1_.heap.size Vw1_ cur → RW cur g16 0 (c4 (0)) → RW cur g17 0 (c4 (0)) → Vw1_.heap.size ≤ g16 → Vw1_.heap.size ≤ g17 → g16 ≠ g17 → G 6 #[true, true, true, true, true, true, true, true, true, false, true, true, true, true, false, false, true, true, false, false, false] (F undef (.pointer (some ⟨g16, 0, none⟩)) (.pointer (some ⟨g17, 0, none⟩)) (numV xx) undef undef) cur) := Hid.mk' (by
      intro cur g16 g17 hS r16 r17 G16 G17 d16_17
      rw [hF.out, hG.out]
      clear stw1_0 stw1_1 stw1_2 stw1_3 stw1_4 stw1_5 stw1_6 stw1_7 stw1_8 stw1_9 stw1_10 stw1_11 stw1_12 stw1_13 stw1_14 stw1_16 stw1_17 stw1_18 stw1_20 stw1_21 stw1_22
      refine wpAnyH_ready (rs := [9, 15]) (by kernel_rfl) (by simp) ?_
      refine AllReadyH.cons (o := qw1x9) rfl (fun K hK => ?_) (AllReadyH.cons (o := qw1x15) rfl (fun K hK => ?_) (AllReadyH.nil))
      · unfold qw1x9
        go_simp
        (go_at_call 51; refine (k2 _).mono ?_; rintro e w1 ⟨rfl, hb1⟩)
        (try go_simp)
        have hS1 := below_next hS hb1
        replace r16 := r16.still hb1
        replace r17 := r17.still hb1
        refine hK.out _ _ hS1 (fun h => ?_)
        clear h hK K hb1
        rw [← hG.out]
        exact dag_step3 (stw1_15.out w1 g16 g17 hS1 r16 r17 G16 G17 d16_17) (by kernel_rfl) (by kernel_rfl) (hF.out _ _ _ _ _ _)
      · unfold qw1x15
        go_simp
        obtain ⟨w1, g15, hw1, hg1, hb1, r15⟩ := fresh4 cur
        rw [hw1, hg1]
        have hS1 := below_next hS hb1
        have G15 : Vw1_.heap.size ≤ g15 := by have := hS.size; omega
        have d15_16 : g15 ≠ g16 := by have := r16.lt; omega
        have d15_17 : g15 ≠ g17 := by have := r17.lt; omega
        replace r16 := r16.still hb1
        replace r17 := r17.still hb1
        refine hK.out _ _ hS1 (fun h => ?_)
        clear h hK K hb1 hw1 hg1
        rw [← hG.out]
        exact dag_step3 (stw1_19.out w1 g15 g16 g17 hS1 r15 r16 r17 G15 G16 G17 d15_16 d15_17 d16_17) (by kernel_rfl) (by kernel_rfl) (hF.out _ _ _ _ _ _))
    have stw1_24 : Hid (∀ (cur : World) (g16 : Nat), Below Vw1_.heap.size Vw1_ cur → RW cur g16 0 (c4 (0)) → Vw1_.heap.size ≤ g16 → G 7 #[true, true, true, true, true, true, true, true, true, false, true, true, true, true, false, false, true, false, false, false, false] (F undef (.pointer (some ⟨g16, 0, none⟩)) undef (numV xx) undef undef) cur) := Hid.mk' (by
      intro cur g16 hS r16 G16
      rw [hF.out, hG.out]
      clear stw1_0 stw1_1 stw1_2 stw1_3 stw1_4 stw1_5 stw1_6 stw1_7 stw1_8 stw1_9 stw1_10 stw1_11 stw1_12 stw1_13 stw1_14 stw1_15 stw1_17 stw1_18 stw1_19 stw1_21 stw1_22
      refine wpAnyH_ready (rs := [9, 15, 17]) (by kernel_rfl) (by simp) ?_
      refine AllReadyH.cons (o := qw1x9) rfl (fun K hK => ?_) (AllReadyH.cons (o := qw1x15) rfl (fun K hK => ?_) (AllReadyH.cons (o := qw1x17) rfl (fun K hK => ?_) (AllReadyH.nil)))
      · unfold qw1x9
        go_simp
        (go_at_call 51; refine (k2 _).mono ?_; rintro e w1 ⟨rfl, hb1⟩)
        (try go_simp)
        have hS1 := below_next hS hb1
        replace r16 := r16.still hb1
        refine hK.out _ _ hS1 (fun h => ?_)
        clear h hK K hb1
        rw [← hG.out]
        exact dag_step3 (stw1_16.out w1 g16 hS1 r16 G16) (by kernel_rfl) (by kernel_rfl) (hF.out _ _ _ _ _ _)
      · unfold qw1x15
        go_simp
        obtain ⟨w1, g15, hw1, hg1, hb1, r15⟩ := fresh4 cur
        rw [hw1, hg1]
        have hS1 := below_next hS hb1
        have G15 : Vw1_.heap.size ≤ g15 := by have := hS.size; omega
        have d15_16 : g15 ≠ g16 := by have := r16.lt; omega
        replace r16 := r16.still hb1
        refine hK.out _ _ hS1 (fun h => ?_)
        clear h hK K hb1 hw1 hg1
        rw [← hG.out]
        exact dag_step3 (stw1_20.out w1 g15 g16 hS1 r15 r16 G15 G16 d15_16) (by kernel_rfl) (by kernel_rfl) (hF.out _ _ _ _ _ _)
      · unfold qw1x17
        go_simp
        obtain ⟨w1, g17, hw1, hg1, hb1, r17⟩ := fresh4 cur
        rw [hw1, hg1]
        have hS1 := below_next hS hb1
        have G17 : Vw1_.heap.size ≤ g17 := by have := hS.size; omega
        have d16_17 : g16 ≠ g17 := by have := r16.lt; omega
        replace r16 := r16.still hb1
        refine hK.out _ _ hS1 (fun h => ?_)
        clear h hK K hb1 hw1 hg1
        rw [← hG.out]
        exact dag_step3 (stw1_23.out w1 g16 g17 hS1 r16 r17 G16 G17 d16_17) (by kernel_rfl) (by kernel_rfl) (hF.out _ _ _ _ _ _))
    have stw1_25 : Hid (∀ (cur : World) (g17 : Nat), Below Vw1_.heap.size Vw1_ cur → RW cur g17 0 (c4 (0)) → Vw1_.heap.size ≤ g17 → G 7 #[true, true, true, true, true, true, true, true, true, false, true, true, true, true, false, false, false, true, false, false, false] (F undef undef (.pointer (some ⟨g17, 0, none⟩)) (numV xx) undef undef) cur) := Hid.mk' (by
      intro cur g17 hS r17 G17
      rw [hF.out, hG.out]
      clear stw1_0 stw1_1 stw1_2 stw1_3 stw1_4 stw1_5 stw1_6 stw1_7 stw1_8 stw1_9 stw1_10 stw1_11 stw1_12 stw1_13 stw1_14 stw1_15 stw1_16 stw1_18 stw1_19 stw1_20 stw1_22 stw1_24
      refine wpAnyH_ready (rs := [9, 15, 16]) (by kernel_rfl) (by simp) ?_
      refine AllReadyH.cons (o := qw1x9) rfl (fun K hK => ?_) (AllReadyH.cons (o := qw1x15) rfl (fun K hK => ?_) (AllReadyH.cons (o := qw1x16) rfl (fun K hK => ?_) (AllReadyH.nil)))
      · unfold qw1x9
        go_simp
        (go_at_call 51; refine (k2 _).mono ?_; rintro e w1 ⟨rfl, hb1⟩)
        (try go_simp)
        have hS1 := below_next hS hb1
        replace r17 := r17.still hb1
        refine hK.out _ _ hS1 (fun h => ?_)
        clear h hK K hb1
        rw [← hG.out]
        exact dag_step3 (stw1_17.out w1 g17 hS1 r17 G17) (by kernel_rfl) (by kernel_rfl) (hF.out _ _ _ _ _ _)
      · unfold qw1x15
        go_simp
        obtain ⟨w1, g15, hw1, hg1, hb1, r15⟩ := fresh4 cur
        rw [hw1, hg1]
        have hS1 := below_next hS hb1
        have G15 : Vw1_.heap.size ≤ g15 := by have := hS.size; omega
        have d15_17 : g15 ≠ g17 := by have := r17.lt; omega
        replace r17 := r17.still hb1
        refine hK.out _ _ hS1 (fun h => ?_)
        clear h hK K hb1 hw1 hg1
        rw [← hG.out]
        exact dag_step3 (stw1_21.out w1 g15 g17 hS1 r15 r17 G15 G17 d15_17) (by kernel_rfl) (by kernel_rfl) (hF.out _ _ _ _ _ _)
      · unfold qw1x16
        go_simp
        obtain ⟨w1, g16, hw1, hg1, hb1, r16⟩ := fresh4 cur
        rw [hw1, hg1]
        have hS1 := below_next hS hb1
        have G16 : Vw1_.heap.size ≤ g16 := by have := hS.size; omega
        have d16_17 : g16 ≠ g17 := by have := r17.lt; omega
        replace r17 := r17.still hb1
        refine hK.out _ _ hS1 (fun h => ?_)
        clear h hK K hb1 hw1 hg1
        rw [← hG.out]
        exact dag_step3 (stw1_23.out w1 g16 g17 hS1 r16 r17 G16 G17 d16_17) (by kernel_rfl) (by kernel_rfl) (hF.out _ _ _ _ _ _))
    have stw1_26 : Hid (∀ (cur : World), Below Vw1_.heap.size Vw1_ cur → G 8 #[true, true, true, true, true, true, true, true, true, false, true, true, true, true, false, false, false, false, false, false, false] (F undef undef undef (numV xx) undef undef) cur) := Hid.mk' (by
      intro cur  hS 
      rw [hF.out, hG.out]
      clear stw1_0 stw1_1 stw1_2 stw1_3 stw1_4 stw1_5 stw1_6 stw1_7 stw1_8 stw1_9 stw1_10 stw1_11 stw1_12 stw1_13 stw1_14 stw1_15 stw1_16 stw1_17 stw1_19 stw1_20 stw1_21 stw1_23
      refine wpAnyH_ready (rs := [9, 15, 16, 17]) (by kernel_rfl) (by simp) ?_
      refine AllReadyH.cons (o := qw1x9) rfl (fun K hK => ?_) (AllReadyH.cons (o := qw1x15) rfl (fun K hK => ?_) (AllReadyH.cons (o := qw1x16) rfl (fun K hK => ?_) (AllReadyH.cons (o := qw1x17) rfl (fun K hK => ?_) (AllReadyH.nil))))
      · unfold qw1x9
        go_simp
        (go_at_call 51; refine (k2 _).mono ?_; rintro e w1 ⟨rfl, hb1⟩)
        (try go_simp)
        have hS1 := below_next hS hb1
        refine hK.out _ _ hS1 (fun h => ?_)
        clear h hK K hb1
        rw [← hG.out]
        exact dag_step3 (stw1_18.out w1  hS1 ) (by kernel_rfl) (by kernel_rfl) (hF.out _ _ _ _ _ _)
      · unfold qw1x15
        go_simp
        obtain ⟨w1, g15, hw1, hg1, hb1, r15⟩ := fresh4 cur
        rw [hw1, hg1]
        have hS1 := below_next hS hb1
        have G15 : Vw1_.heap.size ≤ g15 := by have := hS.size; omega
        refine hK.out _ _ hS1 (fun h => ?_)
        clear h hK K hb1 hw1 hg1
        rw [← hG.out]
        exact dag_step3 (stw1_22.out w1 g15 hS1 r15 G15) (by kernel_rfl) (by kernel_rfl) (hF.out _ _ _ _ _ _)
      · unfold qw1x16
        go_simp
        obtain ⟨w1, g16, hw1, hg1, hb1, r16⟩ := fresh4 cur
        rw [hw1, hg1]
        have hS1 := below_next hS hb1
        have G16 : Vw1_.heap.size ≤ g16 := by have := hS.size; omega
        refine hK.out _ _ hS1 (fun h => ?_)
        clear h hK K hb1 hw1 hg1
        rw [← hG.out]
        exact dag_step3 (stw1_24.out w1 g16 hS1 r16 G16) (by kernel_rfl) (by kernel_rfl) (hF.out _ _ _ _ _ _)
      · unfold qw1x17
        go_simp
        obtain ⟨w1, g17, hw1, hg1, hb1, r17⟩ := fresh4 cur
        rw [hw1, hg1]
        have hS1 := below_next hS hb1
        have G17 : Vw1_.heap.size ≤ g17 := by have := hS.size; omega
        refine hK.out _ _ hS1 (fun h => ?_)
        clear h hK K hb1 hw1 hg1
        rw [← hG.out]
        exact dag_step3 (stw1_25.out w1 g17 hS1 r17 G17) (by kernel_rfl) (by kernel_rfl) (hF.out _ _ _ _ _ _))
    have stw1_27 : Hid (∀ (cur : World) (g15 g16 g17 : Nat), Below Vw1_.heap.size Vw1_ cur → RW cur g15 0 (c4 (0)) → RW cur g16 0 (c4 (0)) → RW cur g17 0 (c4 (0)) → Vw1_.heap.size ≤ g15 → Vw1_.heap.size ≤ g16 → Vw1_.heap.size ≤ g17 → g15 ≠ g16 → g15 ≠ g17 → g16 ≠ g17 → G 6 #[true, true, true, true, false, true, true, true, true, false, true, true, true, true, false, true, true, true, false, false, false] (F (.pointer (some ⟨g15, 0, none⟩)) (.pointer (some ⟨g16, 0, none⟩)) (.pointer (some ⟨g17, 0, none⟩)) undef undef undef) cur) := Hid.mk' (by
      intro cur g15 g16 g17 hS r15 r16 r17 G15 G16 G17 d15_16 d15_17 d16_17
      rw [hF.out, hG.out]
      clear stw1_0 stw1_1 stw1_2 stw1_3 stw1_4 stw1_5 stw1_6 stw1_7 stw1_8 stw1_9 stw1_10 stw1_11 stw1_12 stw1_13 stw1_14 stw1_15 stw1_16 stw1_17 stw1_18 stw1_20 stw1_21 stw1_22 stw1_23 stw1_24 stw1_25 stw1_26
      refine wpAnyH_ready (rs := [4]) (by kernel_rfl) (by simp) ?_
      refine AllReadyH.cons (o := qw1x4) rfl (fun K hK => ?_) (AllReadyH.nil)
      · unfold qw1x4
        go_simp
        (go_at_call 51; refine (k1 _).mono ?_; rintro e w1 ⟨rfl, hb1⟩)
        (try go_simp)
        have hS1 := below_next hS hb1
        replace r15 := r15.still hb1
        replace r16 := r16.still hb1
        replace r17 := r17.still hb1
        refine hK.out _ _ hS1 (fun h => ?_)
        clear h hK K hb1
        rw [← hG.out]
        exact dag_step3 (stw1_19.out w1 g15 g16 g17 hS1 r15 r16 r17 G15 G16 G17 d15_16 d15_17 d16_17) (by kernel_rfl) (by kernel_rfl) (hF.out _ _ _ _ _ _))
    have stw1_28 : Hid (∀ (cur : World) (g15 g16 : Nat), Below Vw1_.heap.size Vw1_ cur → RW cur g15 0 (c4 (0)) → RW cur g16 0 (c4 (0)) → Vw1_.heap.size ≤ g15 → Vw1_.heap.size ≤ g16 → g15 ≠ g16 → G 7 #[true, true, true, true, false, true, true, true, true, false, true, true, true, true, false, true, true, false, false, false, false] (F (.pointer (some ⟨g15, 0, none⟩)) (.pointer (some ⟨g16, 0, none⟩)) undef undef undef undef) cur) := Hid.mk' (by
      intro cur g15 g16 hS r15 r16 G15 G16 d15_16
      rw [hF.out, hG.out]
      clear stw1_0 stw1_1 stw1_2 stw1_3 stw1_4 stw1_5 stw1_6 stw1_7 stw1_8 stw1_9 stw1_10 stw1_11 stw1_12 stw1_13 stw1_14 stw1_15 stw1_16 stw1_17 stw1_18 stw1_19 stw1_21 stw1_22 stw1_23 stw1_24 stw1_25 stw1_26
      refine wpAnyH_ready (rs := [4, 17]) (by kernel_rfl) (by simp) ?_
      refine AllReadyH.cons (o := qw1x4) rfl (fun K hK => ?_) (AllReadyH.cons (o := qw1x17) rfl (fun K hK => ?_) (AllReadyH.nil))
      · unfold qw1x4
        go_simp
        (go_at_call 51; refine (k1 _).mono ?_; rintro e w1 ⟨rfl, hb1⟩)
        (try go_simp)
        have hS1 := below_next hS hb1
        replace r15 := r15.still hb1
        replace r16 := r16.still hb1
        refine hK.out _ _ hS1 (fun h => ?_)
        clear h hK K hb1
        rw [← hG.out]
        exact dag_step3 (stw1_20.out w1 g15 g16 hS1 r15 r16 G15 G16 d15_16) (by kernel_rfl) (by kernel_rfl) (hF.out _ _ _ _ _ _)
      · unfold qw1x17
        go_simp
        obtain ⟨w1, g17, hw1, hg1, hb1, r17⟩ := fresh4 cur
        rw [hw1, hg1]
        have hS1 := below_next hS hb1
        have G17 : Vw1_.heap.size ≤ g17 := by have := hS.size; omega
        have d15_17 : g15 ≠ g17 := by have := r15.lt; omega
        have d16_17 : g16 ≠ g17 := by have := r16.lt; omega
        replace r15 := r15.still hb1
        replace r16 := r16.still hb1
        refine hK.out _ _ hS1 (fun h => ?_)
        clear h hK K hb1 hw1 hg1
        rw [← hG.out]
        exact dag_step3 (stw1_27.out w1 g15 g16 g17 hS1 r15 r16 r17 G15 G16 G17 d15_16 d15_17 d16_17) (by kernel_rfl) (by kernel_rfl) (hF.out _ _ _ _ _ _))
    have stw1_29 : Hid (∀ (cur : World) (g15 g17 : Nat), Below Vw1_.heap.size Vw1_ cur → RW cur g15 0 (c4 (0)) → RW cur g17 0 (c4 (0)) → Vw1_.heap.size ≤ g15 → Vw1_.heap.size ≤ g17 → g15 ≠ g17 → G 7 #[true, true, true, true, false, true, true, true, true, false, true, true, true, true, false, true, false, true, false, false, false] (F (.pointer (some ⟨g15, 0, none⟩)) undef (.pointer (some ⟨g17, 0, none⟩)) undef undef undef) cur) := Hid.mk' (by
      intro cur g15 g17 hS r15 r17 G15 G17 d15_17
      rw [hF.out, hG.out]
      clear stw1_0 stw1_1 stw1_2 stw1_3 stw1_4 stw1_5 stw1_6 stw1_7 stw1_8 stw1_9 stw1_10 stw1_11 stw1_12 stw1_13 stw1_14 stw1_15 stw1_16 stw1_17 stw1_18 stw1_19 stw1_20 stw1_22 stw1_23 stw1_24 stw1_25 stw1_26 stw1_28
      refine wpAnyH_ready (rs := [4, 16]) (by kernel_rfl) (by simp) ?_
      refine AllReadyH.cons (o := qw1x4) rfl (fun K hK => ?_) (AllReadyH.cons (o := qw1x16) rfl (fun K hK => ?_) (AllReadyH.nil))
      · unfold qw1x4
        go_simp
        (go_at_call 51; refine (k1 _).mono ?_; rintro e w1 ⟨rfl, hb1⟩)
        (try go_simp)
        have hS1 := below_next hS hb1
        replace r15 := r15.still hb1
        replace r17 := r17.still hb1
        refine hK.out _ _ hS1 (fun h => ?_)
        clear h hK K hb1
        rw [← hG.out]
        exact dag_step3 (stw1_21.out w1 g15 g17 hS1 r15 r17 G15 G17 d15_17) (by kernel_rfl) (by kernel_rfl) (hF.out _ _ _ _ _ _)
      · unfold qw1x16
        go_simp
        obtain ⟨w1, g16, hw1, hg1, hb1, r16⟩ := fresh4 cur
        rw [hw1, hg1]
        have hS1 := below_next hS hb1
        have G16 : Vw1_.heap.size ≤ g16 := by have := hS.size; omega
        have d15_16 : g15 ≠ g16 := by have := r15.lt; omega
        have d16_17 : g16 ≠ g17 := by have := r17.lt; omega
        replace r15 := r15.still hb1
        replace r17 := r17.still hb1
        refine hK.out _ _ hS1 (fun h => ?_)
        clear h hK K hb1 hw1 hg1
        rw [← hG.out]
        exact dag_step3 (stw1_27.out w1 g15 g16 g17 hS1 r15 r16 r17 G15 G16 G17 d15_16 d15_17 d16_17) (by kernel_rfl) (by kernel_rfl) (hF.out _ _ _ _ _ _))
    have stw1_30 : Hid (∀ (cur : World) (g15 : Nat), Below Vw1_.heap.size Vw1_ cur → RW cur g15 0 (c4 (0)) → Vw1_.heap.size ≤ g15 → G 8 #[true, true, true, true, false, true, true, true, true, false, true, true, true, true, false, true, false, false, false, false, false] (F (.pointer (some ⟨g15, 0, none⟩)) undef undef undef undef undef) cur) := Hid.mk' (by
      intro cur g15 hS r15 G15
      rw [hF.out, hG.out]
      clear stw1_0 stw1_1 stw1_2 stw1_3 stw1_4 stw1_5 stw1_6 stw1_7 stw1_8 stw1_9 stw1_10 stw1_11 stw1_12 stw1_13 stw1_14 stw1_15 stw1_16 stw1_17 stw1_18 stw1_19 stw1_20 stw1_21 stw1_23 stw1_24 stw1_25 stw1_26 stw1_27
      refine wpAnyH_ready (rs := [4, 16, 17]) (by kernel_rfl) (by simp) ?_
      refine AllReadyH.cons (o := qw1x4) rfl (fun K hK => ?_) (AllReadyH.cons (o := qw1x16) rfl (fun K hK => ?_) (AllReadyH.cons (o := qw1x17) rfl (fun K hK => ?_) (AllReadyH.nil)))
      · unfold qw1x4
        go_simp
        (go_at_call 51; refine (k1 _).mono ?_; rintro e w1 ⟨rfl, hb1⟩)
        (try go_simp)
        have hS1 := below_next hS hb1
        replace r15 := r15.still hb1
        refine hK.out _ _ hS1 (fun h => ?_)
        clear h hK K hb1
        rw [← hG.out]
        exact dag_step3 (stw1_22.out w1 g15 hS1 r15 G15) (by kernel_rfl) (by kernel_rfl) (hF.out _ _ _ _ _ _)
      · unfold qw1x16
        go_simp
        obtain ⟨w1, g16, hw1, hg1, hb1, r16⟩ := fresh4 cur
        rw [hw1, hg1]
        have hS1 := below_next hS hb1
        have G16 : Vw1_.heap.size ≤ g16 := by have := hS.size; omega
        have d15_16 : g15 ≠ g16 := by have := r15.lt; omega
        replace r15 := r15.still hb1
        refine hK.out _ _ hS1 (fun h => ?_)
        clear h hK K hb1 hw1 hg1
        rw [← hG.out]
        exact dag_step3 (stw1_28.out w1 g15 g16 hS1 r15 r16 G15 G16 d15_16) (by kernel_rfl) (by kernel_rfl) (hF.out _ _ _ _ _ _)
      · unfold qw1x17
        go_simp
        obtain ⟨w1, g17, hw1, hg1, hb1, r17⟩ := fresh4 cur
        rw [hw1, hg1]
        have hS1 := below_next hS hb1
        have G17 : Vw1_.heap.size ≤ g17 := by have := hS.size; omega
        have d15_17 : g15 ≠ g17 := by have := r15.lt; omega
        replace r15 := r15.still hb1
        refine hK.out _ _ hS1 (fun h => ?_)
        clear h hK K hb1 hw1 hg1
        rw [← hG.out]
        exact dag_step3 (stw1_29.out w1 g15 g17 hS1 r15 r17 G15 G17 d15_17) (by kernel_rfl) (by kernel_rfl) (hF.out _ _ _ _ _ _))
    have stw1_31 : Hid (∀ (cur : World) (g16 g17 : Nat), Below Vw1_.heap.size Vw1_ cur → RW cur g16 0 (c4 (0)) → RW cur g17 0 (c4 (0)) → Vw1_.heap.size ≤ g16 → Vw1_.heap.size ≤ g17 → g16 ≠ g17 → G 7 #[true, true, true, true, false, true, true, true, true, false, true, true, true, true, false, false, true, true, false, false, false] (F undef (.pointer (some ⟨g16, 0, none⟩)) (.pointer (some ⟨g17, 0, none⟩)) undef undef undef) cur) := Hid.mk' (by
      intro cur g16 g17 hS r16 r17 G16 G17 d16_17
      rw [hF.out, hG.out]
      clear stw1_0 stw1_1 stw1_2 stw1_3 stw1_4 stw1_5 stw1_6 stw1_7 stw1_8 stw1_9 stw1_10 stw1_11 stw1_12 stw1_13 stw1_14 stw1_15 stw1_16 stw1_17 stw1_18 stw1_19 stw1_20 stw1_21 stw1_22 stw1_24 stw1_25 stw1_26 stw1_28 stw1_29 stw1_30
      refine wpAnyH_ready (rs := [4, 15]) (by kernel_rfl) (by simp) ?_
      refine AllReadyH.cons (o := qw1x4) rfl (fun K hK => ?_) (AllReadyH.cons (o := qw1x15) rfl (fun K hK => ?_) (AllReadyH.nil))
      · unfold qw1x4
        go_simp
        (go_at_call 51; refine (k1 _).mono ?_; rintro e w1 ⟨rfl, hb1⟩)
        (try go_simp)
        have hS1 := below_next hS hb1
        replace r16 := r16.still hb1
        replace r17 := r17.still hb1
        refine hK.out _ _ hS1 (fun h => ?_)
        clear h hK K hb1
        rw [← hG.out]
        exact dag_step3 (stw1_23.out w1 g16 g17 hS1 r16 r17 G16 G17 d16_17) (by kernel_rfl) (by kernel_rfl) (hF.out _ _ _ _ _ _)
      · unfold qw1x15
        go_simp
        obtain ⟨w1, g15, hw1, hg1, hb1, r15⟩ := fresh4 cur
        rw [hw1, hg1]
        have hS1 := below_next hS hb1
        have G15 : Vw1_.heap.size ≤ g15 := by have := hS.size; omega
        have d15_16 : g15 ≠ g16 := by have := r16.lt; omega
        have d15_17 : g15 ≠ g17 := by have := r17.lt; omega
        replace r16 := r16.still hb1
        replace r17 := r17.still hb1
        refine hK.out _ _ hS1 (fun h => ?_)
        clear h hK K hb1 hw1 hg1
        rw [← hG.out]
        exact dag_step3 (stw1_27.out w1 g15 g16 g17 hS1 r15 r16 r17 G15 G16 G17 d15_16 d15_17 d16_17) (by kernel_rfl) (by kernel_rfl) (hF.out _ _ _ _ _ _))
    have stw1_32 : Hid (∀ (cur : World) (g16 : Nat), Below Vw1_.heap.size Vw1_ cur → RW cur g16 0 (c4 (0)) → Vw1_.heap.size ≤ g16 → G 8 #[true, true, true, true, false, true, true, true, true, false, true, true, true, true, false, false, true, false, false, false, false] (F undef (.pointer (some ⟨g16, 0, none⟩)) undef undef undef undef) cur) := Hid.mk' (by
      intro cur g16 hS r16 G16
      rw [hF.out, hG.out]
      clear stw1_0 stw1_1 stw1_2 stw1_3 stw1_4 stw1_5 stw1_6 stw1_7 stw1_8 stw1_9 stw1_10 stw1_11 stw1_12 stw1_13 stw1_14 stw1_15 stw1_16 stw1_17 stw1_18 stw1_19 stw1_20 stw1_21 stw1_22 stw1_23 stw1_25 stw1_26 stw1_27 stw1_29 stw1_30
      refine wpAnyH_ready (rs := [4, 15, 17]) (by kernel_rfl) (by simp) ?_
      refine AllReadyH.cons (o := qw1x4) rfl (fun K hK => ?_) (AllReadyH.cons (o := qw1x15) rfl (fun K hK => ?_) (AllReadyH.cons (o := qw1x17) rfl (fun K hK => ?_) (AllReadyH.nil)))
      · unfold qw1x4
        go_simp
        (go_at_call 51; refine (k1 _).mono ?_; rintro e w1 ⟨rfl, hb1⟩)
        (try go_simp)
        have hS1 := below_next hS hb1
        replace r16 := r16.still hb1
        refine hK.out _ _ hS1 (fun h => ?_)
        clear h hK K hb1
        rw [← hG.out]
        exact dag_step3 (stw1_24.out w1 g16 hS1 r16 G16) (by kernel_rfl) (by kernel_rfl) (hF.out _ _ _ _ _ _)
      · unfold qw1x15
        go_simp
        obtain ⟨w1, g15, hw1, hg1, hb1, r15⟩ := fresh4 cur
        rw [hw1, hg1]
        have hS1 := below_next hS hb1
        have G15 : Vw1_.heap.size ≤ g15 := by have := hS.size; omega
        have d15_16 : g15 ≠ g16 := by have := r16.lt; omega
        replace r16 := r16.still hb1
        refine hK.out _ _ hS1 (fun h => ?_)
        clear h hK K hb1 hw1 hg1
        rw [← hG.out]
        exact dag_step3 (stw1_28.out w1 g15 g16 hS1 r15 r16 G15 G16 d15_16) (by kernel_rfl) (by kernel_rfl) (hF.out _ _ _ _ _ _)
      · unfold qw1x17
        go_simp
        obtain ⟨w1, g17, hw1, hg1, hb1, r17⟩ := fresh4 cur
        rw [hw1, hg1]
        have hS1 := below_next hS hb1
        have G17 : Vw1_.heap.size ≤ g17 := by have := hS.size; omega
        have d16_17 : g16 ≠ g17 := by have := r16.lt; omega
        replace r16 := r16.still hb1
        refine hK.out _ _ hS1 (fun h => ?_)
        clear h hK K hb1 hw1 hg1
        rw [← hG.out]
        exact dag_step3 (stw1_31.out w1 g16 g17 hS1 r16 r17 G16 G17 d16_17) (by kernel_rfl) (by kernel_rfl) (hF.out _ _ _ _ _ _))
    have stw1_33 : Hid (∀ (cur : World) (g17 : Nat), Below Vw1_.heap.size Vw1_ cur → RW cur g17 0 (c4 (0)) → Vw1_.heap.size ≤ g17 → G 8 #[true, true, true, true, false, true, true, true, true, false, true, true, true, true, false, false, false, true, false, false, false] (F undef undef (.pointer (some ⟨g17, 0, none⟩)) undef undef undef) cur) := Hid.mk' (by
      intro cur g17 hS r17 G17
      rw [hF.out, hG.out]
      clear stw1_0 stw1_1 stw1_2 stw1_3 stw1_4 stw1_5 stw1_6 stw1_7 stw1_8 stw1_9 stw1_10 stw1_11 stw1_12 stw1_13 stw1_14 stw1_15 stw1_16 stw1_17 stw1_18 stw1_19 stw1_20 stw1_21 stw1_22 stw1_23 stw1_24 stw1_26 stw1_27 stw1_28 stw1_30 stw1_32
      refine wpAnyH_ready (rs := [4, 15, 16]) (by kernel_rfl) (by simp) ?_
      refine AllReadyH.cons (o := qw1x4) rfl (fun K hK => ?_) (AllReadyH.cons (o := qw1x15) rfl (fun K hK => ?_) (AllReadyH.cons (o := qw1x16) rfl (fun K hK => ?_) (AllReadyH.nil)))
      · unfold qw1x4
        go_simp
        (go_at_call 51; refine (k1 _).mono ?_; rintro e w1 ⟨rfl, hb1⟩)
        (try go_simp)
        have hS1 := below_next hS hb1
        replace r17 := r17.still hb1
        refine hK.out _ _ hS1 (fun h => ?_)
        clear h hK K hb1
        rw [← hG.out]
        exact dag_step3 (stw1_25.out w1 g17 hS1 r17 G17) (by kernel_rfl) (by kernel_rfl) (hF.out _ _ _ _ _ _)
      · unfold qw1x15
        go_simp
        obtain ⟨w1, g15, hw1, hg1, hb1, r15⟩ := fresh4 cur
        rw [hw1, hg1]
        have hS1 := below_next hS hb1
        have G15 : Vw1_.heap.size ≤ g15 := by have := hS.size; omega
        have d15_17 : g15 ≠ g17 := by have := r17.lt; omega
        replace r17 := r17.still hb1
        refine hK.out _ _ hS1 (fun h => ?_)
        clear h hK K hb1 hw1 hg1
        rw [← hG.out]
        exact dag_step3 (stw1_29.out w1 g15 g17 hS1 r15 r17 G15 G17 d15_17) (by kernel_rfl) (by kernel_rfl) (hF.out _ _ _ _ _ _)
      · unfold qw1x16
        go_simp
        obtain ⟨w1, g16, hw1, hg1, hb1, r16⟩ := fresh4 cur
        rw [hw1, hg1]
        have hS1 := below_next hS hb1
        have G16 : Vw1_.heap.size ≤ g16 := by have := hS.size; omega
        have d16_17 : g16 ≠ g17 := by have := r17.lt; omega
        replace r17 := r17.still hb1
        refine hK.out _ _ hS1 (fun h => ?_)
        clear h hK K hb1 hw1 hg1
        rw [← hG.out]
        exact dag_step3 (stw1_31.out w1 g16 g17 hS1 r16 r17 G16 G17 d16_17) (by kernel_rfl) (by kernel_rfl) (hF.out _ _ _ _ _ _))
    have stw1_34 : Hid (∀ (cur : World), Below Vw1_.heap.size Vw1_ cur → G 9 #[true, true, true, true, false, true, true, true, true, false, true, true, true, true, false, false, false, false, false, false, false] (F undef undef undef undef undef undef) cur) := Hid.mk' (by
      intro cur  hS 
      rw [hF.out, hG.out]
      clear stw1_0 stw1_1 stw1_2 stw1_3 stw1_4 stw1_5 stw1_6 stw1_7 stw1_8 stw1_9 stw1_10 stw1_11 stw1_12 stw1_13 stw1_14 stw1_15 stw1_16 stw1_17 stw1_18 stw1_19 stw1_20 stw1_21 stw1_22 stw1_23 stw1_24 stw1_25 stw1_27 stw1_28 stw1_29 stw1_31
      refine wpAnyH_ready (rs := [4, 15, 16, 17]) (by kernel_rfl) (by simp) ?_
      refine AllReadyH.cons (o := qw1x4) rfl (fun K hK => ?_) (AllReadyH.cons (o := qw1x15) rfl (fun K hK => ?_) (AllReadyH.cons (o := qw1x16) rfl (fun K hK => ?_) (AllReadyH.cons (o := qw1x17) rfl (fun K hK => ?_) (AllReadyH.nil))))
      · unfold qw1x4
        go_simp
        (go_at_call 51; refine (k1 _).mono ?_; rintro e w1 ⟨rfl, hb1⟩)
        (try go_simp)
        have hS1 := below_next hS hb1
        refine hK.out _ _ hS1 (fun h => ?_)
        clear h hK K hb1
        rw [← hG.out]
        exact dag_step3 (stw1_26.out w1  hS1 ) (by kernel_rfl) (by kernel_rfl) (hF.out _ _ _ _ _ _)
      · unfold qw1x15
        go_simp
        obtain ⟨w1, g15, hw1, hg1, hb1, r15⟩ := fresh4 cur
        rw [hw1, hg1]
        have hS1 := below_next hS hb1
        have G15 : Vw1_.heap.size ≤ g15 := by have := hS.size; omega
        refine hK.out _ _ hS1 (fun h => ?_)
        clear h hK K hb1 hw1 hg1
        rw [← hG.out]
        exact dag_step3 (stw1_30.out w1 g15 hS1 r15 G15) (by kernel_rfl) (by kernel_rfl) (hF.out _ _ _ _ _ _)
      · unfold qw1x16
        go_simp
        obtain ⟨w1, g16, hw1, hg1, hb1, r16⟩ := fresh4 cur
        rw [hw1, hg1]
        have hS1 := below_next hS hb1
        have G16 : Vw1_.heap.size ≤ g16 := by have := hS.size; omega
        refine hK.out _ _ hS1 (fun h => ?_)
        clear h hK K hb1 hw1 hg1
        rw [← hG.out]
        exact dag_step3 (stw1_32.out w1 g16 hS1 r16 G16) (by kernel_rfl) (by kernel_rfl) (hF.out _ _ _ _ _ _)
      · unfold qw1x17
        go_simp
        obtain ⟨w1, g17, hw1, hg1, hb1, r17⟩ := fresh4 cur
        rw [hw1, hg1]
        have hS1 := below_next hS hb1
        have G17 : Vw1_.heap.size ≤ g17 := by have := hS.size; omega
        refine hK.out _ _ hS1 (fun h => ?_)
        clear h hK K hb1 hw1 hg1
        rw [← hG.out]
        exact dag_step3 (stw1_33.out w1 g17 hS1 r17 G17) (by kernel_rfl) (by kernel_rfl) (hF.out _ _ _ _ _ _))
    exact dag_step3 (stw1_34.out Vw1_ hS) (by kernel_rfl) (by kernel_rfl) (hF.out _ _ _ _ _ _)
  case rest =>
  obtain ⟨g3, g4, g5, rfl, rfl, rfl, hb1, G3, G4, G5, h3, h4, h5⟩ := hcut
  have lt2 := hres.lt
  have n32 : g3 ≠ g2 := by omega
  have n42 : g4 ≠ g2 := by omega
  have n52 : g5 ≠ g2 := by omega
  replace hX := hX.still hb1
  replace hY := hY.still hb1
  replace hres := hres.still hb1
  obtain ⟨U1, hU1⟩ : ∃ W, W = wc := ⟨_, rfl⟩
  rw [← hU1]
  rw [← hU1] at hX hY hres h3 h4 h5 hb1
  replace hbW := below_next hbW hb1
  clear hU1 hb1 G3 G4 G5 lt2 hZ hT k1 k2 k3
  go_upto_region 2 with (fail)
  go_cut [6] from 8 (fun s6 wc => ∃ g, s6 = .pointer (some ⟨g, 0, none⟩) ∧ Below U1.heap.size U1 wc ∧ U1.heap.size ≤ g ∧ RW wc g 0 (c4 xy))
  case first =>
    have r1 := hX.range
    have r2 := hY.range
    have kk : ∀ W, Calls Tryd.prog 51 #[.agg (c4 x).toArray, .agg (c4 y).toArray] W fun e w' => e = .returned (.agg (c4 xy).toArray) ∧ Below W.heap.size W w' := k4
    clear k4 k5 k6 k7 k8 k9 k10 hX hY hres h3 h4 h5 hbW hzp
    go_wp2_with (first
      | (refine wpList_load_mid rfl 28 _ rfl g1 0 rfl (c4 x) _ r1 Tryd.underlying28 rfl info4 ?_)
      | (refine wpList_load_mid rfl 28 _ rfl g1 4 rfl (c4 y) _ r2 Tryd.underlying28 rfl info4 ?_)
      | (go_at_call 51; refine (kk _).mono ?_; clear kk r1 r2; rintro e w9 ⟨rfl, hb9⟩; (have th := fresh4' w9); (have th' := fresh4t w9 xy))
      | (with_reducible (refine id (?_ : wpList _ _ _ _ _ _)); refine wpList_store_mid rfl 28 _ _ rfl w9.heap.size 0 (c4 xy).toArray rfl rfl th' (info4a xy) (one4 xy) ?_))
    go_meet
    case rel => exact ⟨w9.heap.size, rfl, below_setCells hb9.size _ _ _ (hb9.alloc hb9.size _), hb9.size, th.stored (c4 xy) rfl⟩
  case rest =>
  obtain ⟨g6, rfl, hb2, G2, h6⟩ := hcut
  have lt2 := hres.lt
  have n62 : g6 ≠ g2 := by omega
  replace hX := hX.still hb2
  replace hY := hY.still hb2
  replace hres := hres.still hb2
  replace h3 := h3.still hb2
  replace h4 := h4.still hb2
  replace h5 := h5.still hb2
  obtain ⟨U2, hU2⟩ : ∃ W, W = wc := ⟨_, rfl⟩
  rw [← hU2]
  rw [← hU2] at hX hY hres h3 h4 h5 h6 hb2
  replace hbW := below_next hbW hb2
  clear hU2 hb2 G2 lt2 k4 hX hY
  go_upto_region 3 with (fail)
  go_cut [7] from 8 (fun s7 wc => ∃ g, s7 = .pointer (some ⟨g, 0, none⟩) ∧ Below U2.heap.size U2 wc ∧ U2.heap.size ≤ g ∧ RW wc g 0 (c4 pl))
  case first =>
    have r1 := h4.range
    have r2 := h3.range
    have kk : ∀ W, Calls Tryd.prog 35 #[.agg (c4 yy).toArray, .agg (c4 xx).toArray] W fun e w' => e = .returned (.agg (c4 pl).toArray) ∧ Below W.heap.size W w' := k5
    clear k5 k6 k7 k8 k9 k10 hres h3 h4 h5 h6 hbW hzp
    go_wp2_with (first
      | (refine wpList_load_mid rfl 28 _ rfl g4 0 rfl (c4 yy) _ r1 Tryd.underlying28 rfl info4 ?_)
      | (refine wpList_load_mid rfl 28 _ rfl g3 0 rfl (c4 xx) _ r2 Tryd.underlying28 rfl info4 ?_)
      | (go_at_call 35; refine (kk _).mono ?_; clear kk r1 r2; rintro e w9 ⟨rfl, hb9⟩; (have th := fresh4' w9); (have th' := fresh4t w9 pl))
      | (with_reducible (refine id (?_ : wpList _ _ _ _ _ _)); refine wpList_store_mid rfl 28 _ _ rfl w9.heap.size 0 (c4 pl).toArray rfl rfl th' (info4a pl) (one4 pl) ?_))
    go_meet
    case rel => exact ⟨w9.heap.size, rfl, below_setCells hb9.size _ _ _ (hb9.alloc hb9.size _), hb9.size, th.stored (c4 pl) rfl⟩
  case rest =>
  obtain ⟨g7, rfl, hb2, G2, h7⟩ := hcut
  have lt2 := hres.lt
  have n72 : g7 ≠ g2 := by omega
  replace hres := hres.still hb2
  replace h3 := h3.still hb2
  replace h4 := h4.still hb2
  replace h5 := h5.still hb2
  replace h6 := h6.still hb2
  obtain ⟨U3, hU2⟩ : ∃ W, W = wc := ⟨_, rfl⟩
  rw [← hU2]
  rw [← hU2] at hres h3 h4 h5 h6 h7 hb2
  replace hbW := below_next hbW hb2
  clear hU2 hb2 G2 lt2 k5 
  go_upto_region 4 with (fail)
  have l2 := hres.lt
  have hdrew : Below U3.heap.size U3 U3.drew := (Below.refl _ _).drew
  replace hres := hres.still hdrew
  replace h3 := h3.still hdrew
  replace h4 := h4.still hdrew
  replace h5 := h5.still hdrew
  replace h6 := h6.still hdrew
  replace h7 := h7.still hdrew
  refine wp_region_noPanic ?_
  replace l2 := Nat.lt_of_lt_of_le l2 hdrew.size
  refine wp_region_held_drew (S := fun w' => Out g2 0 16 U3.drew w') (by kernel_rfl) (Out.refl _ _ _ _) (fun hS => ?_)
  generalize U3.drew = Vw4_ at *
  refine wpAnyH_take (i := 0) (oi := { dst := some 31, op := Op.load 28 (Operand.tmp 6), type := 28, pos := "curve.go:65", after := #[], guard := none }) (v := numV xy) rfl (by kernel_rfl) (by kernel_rfl) (by kernel_rfl) (fun _ _ _ h => h) (yieldsIf_load_mid (by rfl) 28 _ rfl g6 0 rfl (c4 xy) _ (fun _ h => (h6.out h n62).range) Tryd.underlying28 rfl info4) hS ?_
  (try simp only [Act.put, List.setIfInBounds_toArray, List.set_cons_zero, List.set_cons_succ])
  refine wpAnyH_take (i := 1) (oi := { dst := some 32, op := Op.load 28 (Operand.tmp 6), type := 28, pos := "curve.go:65", after := #[], guard := none }) (v := numV xy) rfl (by kernel_rfl) (by kernel_rfl) (by kernel_rfl) (fun _ _ _ h => h) (yieldsIf_load_mid (by rfl) 28 _ rfl g6 0 rfl (c4 xy) _ (fun _ h => (h6.out h n62).range) Tryd.underlying28 rfl info4) hS ?_
  (try simp only [Act.put, List.setIfInBounds_toArray, List.set_cons_zero, List.set_cons_succ])
  refine wpAnyH_take (i := 3) (oi := { dst := some 34, op := Op.load 28 (Operand.tmp 7), type := 28, pos := "curve.go:65", after := #[], guard := none }) (v := numV pl) rfl (by kernel_rfl) (by kernel_rfl) (by kernel_rfl) (fun _ _ _ h => h) (yieldsIf_load_mid (by rfl) 28 _ rfl g7 0 rfl (c4 pl) _ (fun _ h => (h7.out h n72).range) Tryd.underlying28 rfl info4) hS ?_
  (try simp only [Act.put, List.setIfInBounds_toArray, List.set_cons_zero, List.set_cons_succ])
  refine wpAnyH_take (i := 4) (oi := { dst := some 35, op := Op.load 28 (Operand.tmp 4), type := 28, pos := "curve.go:65", after := #[], guard := none }) (v := numV yy) rfl (by kernel_rfl) (by kernel_rfl) (by kernel_rfl) (fun _ _ _ h => h) (yieldsIf_load_mid (by rfl) 28 _ rfl g4 0 rfl (c4 yy) _ (fun _ h => (h4.out h n42).range) Tryd.underlying28 rfl info4) hS ?_
  (try simp only [Act.put, List.setIfInBounds_toArray, List.set_cons_zero, List.set_cons_succ])
  refine wpAnyH_take (i := 5) (oi := { dst := some 36, op := Op.load 28 (Operand.tmp 3), type := 28, pos := "curve.go:65", after := #[], guard := none }) (v := numV xx) rfl (by kernel_rfl) (by kernel_rfl) (by kernel_rfl) (fun _ _ _ h => h) (yieldsIf_load_mid (by rfl) 28 _ rfl g3 0 rfl (c4 xx) _ (fun _ h => (h3.out h n32).range) Tryd.underlying28 rfl info4) hS ?_
  (try simp only [Act.put, List.setIfInBounds_toArray, List.set_cons_zero, List.set_cons_succ])
  refine wpAnyH_take (i := 7) (oi := { dst := some 38, op := Op.load 28 (Operand.tmp 5), type := 28, pos := "curve.go:65", after := #[], guard := none }) (v := numV zz) rfl (by kernel_rfl) (by kernel_rfl) (by kernel_rfl) (fun _ _ _ h => h) (yieldsIf_load_mid (by rfl) 28 _ rfl g5 0 rfl (c4 zz) _ (fun _ h => (h5.out h n52).range) Tryd.underlying28 rfl info4) hS ?_
  (try simp only [Act.put, List.setIfInBounds_toArray, List.set_cons_zero, List.set_cons_succ])
  refine wpAnyH_take (i := 8) (oi := { dst := some 39, op := Op.load 28 (Operand.tmp 5), type := 28, pos := "curve.go:65", after := #[], guard := none }) (v := numV zz) rfl (by kernel_rfl) (by kernel_rfl) (by kernel_rfl) (fun _ _ _ h => h) (yieldsIf_load_mid (by rfl) 28 _ rfl g5 0 rfl (c4 zz) _ (fun _ h => (h5.out h n52).range) Tryd.underlying28 rfl info4) hS ?_
  (try simp only [Act.put, List.setIfInBounds_toArray, List.set_cons_zero, List.set_cons_succ])
  refine wpAnyH_take (i := 10) (oi := { dst := some 41, op := Op.load 28 (Operand.tmp 7), type := 28, pos := "curve.go:65", after := #[], guard := none }) (v := numV pl) rfl (by kernel_rfl) (by kernel_rfl) (by kernel_rfl) (fun _ _ _ h => h) (yieldsIf_load_mid (by rfl) 28 _ rfl g7 0 rfl (c4 pl) _ (fun _ h => (h7.out h n72).range) Tryd.underlying28 rfl info4) hS ?_
  (try simp only [Act.put, List.setIfInBounds_toArray, List.set_cons_zero, List.set_cons_succ])
  refine wpAnyH_ready (rs := [2]) (by kernel_rfl) (by simp) ?_
  refine AllReadyH.cons (o := qw4x2) rfl (fun K hK => ?_) (AllReadyH.nil)
  unfold qw4x2
  go_simp
  (go_at_call 67; refine (k6 _).mono ?_; rintro e ww4_1 ⟨rfl, hbw4_1⟩)
  (try go_simp)
  have hSw4_1 := hS.trans (Out.of_below hbw4_1 l2)
  replace l2 := Nat.lt_of_lt_of_le l2 hbw4_1.size
  replace hres := hres.still hbw4_1
  refine hK.out _ _ hSw4_1 (fun h => ?_)
  clear h hK K hbw4_1
  (try simp only [Act.put, List.setIfInBounds_toArray, List.set_cons_zero, List.set_cons_succ])
  refine wpAnyH_ready (rs := [6]) (by kernel_rfl) (by simp) ?_
  refine AllReadyH.cons (o := qw4x6) rfl (fun K hK => ?_) (AllReadyH.nil)
  unfold qw4x6
  go_simp
  (go_at_call 67; refine (k7 _).mono ?_; rintro e ww4_2 ⟨rfl, hbw4_2⟩)
  (try go_simp)
  have hSw4_2 := hSw4_1.trans (Out.of_below hbw4_2 l2)
  replace l2 := Nat.lt_of_lt_of_le l2 hbw4_2.size
  replace hres := hres.still hbw4_2
  refine hK.out _ _ hSw4_2 (fun h => ?_)
  clear h hK K hbw4_2
  (try simp only [Act.put, List.setIfInBounds_toArray, List.set_cons_zero, List.set_cons_succ])
  refine wpAnyH_ready (rs := [9]) (by kernel_rfl) (by simp) ?_
  refine AllReadyH.cons (o := qw4x9) rfl (fun K hK => ?_) (AllReadyH.nil)
  unfold qw4x9
  go_simp
  (go_at_call 67; refine (k8 _).mono ?_; rintro e ww4_3 ⟨rfl, hbw4_3⟩)
  (try go_simp)
  have hSw4_3 := hSw4_2.trans (Out.of_below hbw4_3 l2)
  replace l2 := Nat.lt_of_lt_of_le l2 hbw4_3.size
  replace hres := hres.still hbw4_3
  refine hK.out _ _ hSw4_3 (fun h => ?_)
  clear h hK K hbw4_3
  (try simp only [Act.put, List.setIfInBounds_toArray, List.set_cons_zero, List.set_cons_succ])
  refine wpAnyH_ready (rs := [11]) (by kernel_rfl) (by simp) ?_
  refine AllReadyH.cons (o := qw4x11) rfl (fun K hK => ?_) (AllReadyH.nil)
  unfold qw4x11
  go_simp
  (go_at_call 35; refine (k9 _).mono ?_; rintro e ww4_4 ⟨rfl, hbw4_4⟩)
  (try go_simp)
  have hSw4_4 := hSw4_3.trans (Out.of_below hbw4_4 l2)
  replace l2 := Nat.lt_of_lt_of_le l2 hbw4_4.size
  replace hres := hres.still hbw4_4
  refine hK.out _ _ hSw4_4 (fun h => ?_)
  clear h hK K hbw4_4
  (try simp only [Act.put, List.setIfInBounds_toArray, List.set_cons_zero, List.set_cons_succ])
  refine wpAnyH_ready (rs := [12]) (by kernel_rfl) (by simp) ?_
  refine AllReadyH.cons (o := qw4x12) rfl (fun K hK => ?_) (AllReadyH.nil)
  unfold qw4x12
  go_simp
  (go_at_call 75; refine (k10 _).mono ?_; rintro e ww4_5 ⟨rfl, hbw4_5⟩)
  (try go_simp)
  have hSw4_5 := hSw4_4.trans (Out.of_below hbw4_5 l2)
  replace l2 := Nat.lt_of_lt_of_le l2 hbw4_5.size
  replace hres := hres.still hbw4_5
  refine hK.out _ _ hSw4_5 (fun h => ?_)
  clear h hK K hbw4_5
  (try simp only [Act.put, List.setIfInBounds_toArray, List.set_cons_zero, List.set_cons_succ])
  refine wpAnyH_ready (rs := [13]) (by kernel_rfl) (by simp) ?_
  refine AllReadyH.cons (o := qw4x13) rfl (fun K hK => ?_) (AllReadyH.nil)
  unfold qw4x13
  rw [if_pos (by rfl)]
  refine wp_store_mid 30 _ _ rfl g2 0 (p16 o1 o2 o3 o4).toArray rfl rfl (thr16 hres _ _ _ _) (info16A _ _ _ _) (one16 _ _ _ _) ?_
  have hSw4_6 := hSw4_5.trans (Out.setCells (b := g2) (o := 0) (n := 16) ww4_5 (p16 o1 o2 o3 o4) (Nat.le_refl _) (by rw [p16_len]; exact Nat.le_refl _))
  replace hres := hres.stored (p16 o1 o2 o3 o4) (p16_same _ _ _ _ _ _ _ _)
  obtain ⟨ww4_6, hww4_6⟩ : ∃ W, ww4_5.setCells g2 0 (p16 o1 o2 o3 o4) = W := ⟨_, rfl⟩
  rw [hww4_6] at hres
  rw [hww4_6] at hSw4_6
  rw [show ww4_5.setCells g2 0 (p16 o1 o2 o3 o4).toArray.toList = ww4_6 from hww4_6]
  refine hK.out _ _ hSw4_6 (fun h => ?_)
  clear h hK K hww4_6
  (try dsimp only [Act.put])
  refine wpAnyH_done (by kernel_rfl) ?_ _
  refine NoPanic.normal ?_
  clear k6 k7 k8 k9 k10
  have fin := (hbW.trans (hdrew.mono hbW.size)).trans (hSw4_6.below w2 (Nat.le_trans hbW.size hdrew.size))
  go_wp2
  exact bodyPost_ret (results_cell_mid Tryd.results57 _ _ g2 0 (p16 o1 o2 o3 o4) _ rfl hres.range Tryd.underlying30 rfl (info16 _ _ _ _)) rfl ⟨rfl, fin⟩
end Go.Proofs.YteekjcfbnoakgaaDoor
