/- What the proof stands on: RootQ, RootQA, RRatioA. -/
import Derived.Test.YteekjcfbnoakgaaDoorLimbsM
import Derived.Test.YteekjcfbnoakgaaDoorPrimeM
import Derived.Test.YteekjcfbnoakgaaDoorRTimes6M
import Derived.Test.YteekjcfbnoakgaaDoorRefPow2M
namespace Go.Proofs.YteekjcfbnoakgaaDoor
open Go.RowKit
/-- The variable that holds the root of -1. -/
structure IM (w : World) : Prop where
  range : w.rangeAt 1 0 (c4 iM)
  lt : 1 < w.heap.size
theorem IM.still {w w' : World} (h : IM w) (hb : Below w.heap.size w w') : IM w' :=
  ⟨fun j v hv => (hb.cell (p := ⟨1, 0 + j, none⟩) h.lt).trans (h.range j v hv), Nat.lt_of_lt_of_le h.lt hb.size⟩
theorem built1 (n : Nat) : Tryd.prog.built 28 [(0, .agg (c4 n).toArray)] = some (c4 n).toArray := by kernel_rfl
theorem built0 : Tryd.prog.built 28 [] = some (c4 0).toArray := by rw [c4_zero]; kernel_rfl
theorem infoLimbs : (Tryd.prog.info? 26).map (·.size) = some 4 := by kernel_rfl
theorem wpList_build1 {P : Program} {ops : Array Oper} {rest : List Oper} {o : Oper} {a : Act} {w : World} {Q : Exit → Act → World → Prop} (hg : o.guard = none) (t : TypeId) (i : Nat) (x : Operand) (ho : o.op = .build t #[(i, x)]) (u : Value) (hx : a.eval x = u) (cells : Array Value)
    (hf : P.built t [(i, u)] = some cells) (h : wpList P ops Q rest (a.put o.dst (.agg cells)) w) : wpList P ops Q (o :: rest) a w :=
  wpList_build hg t _ ho (by simp only [List.map_toArray, List.map_cons, List.map_nil, hx, hf]; rfl) (by simp only [List.map_toArray, List.map_cons, List.map_nil, hx, hf]; exact h)
theorem wpList_build0 {P : Program} {ops : Array Oper} {rest : List Oper} {o : Oper} {a : Act} {w : World} {Q : Exit → Act → World → Prop} (hg : o.guard = none) (t : TypeId) (ho : o.op = .build t #[]) (cells : Array Value)
    (hf : P.built t [] = some cells) (h : wpList P ops Q rest (a.put o.dst (.agg cells)) w) : wpList P ops Q (o :: rest) a w :=
  wpList_build hg t _ ho (by simp only [List.map_toArray, List.map_nil, hf]; rfl) (by simp only [List.map_toArray, List.map_nil, hf]; exact h)
theorem yields_build0 {P : Program} {ops : Array Oper} {S : World → Prop} {o : Oper} {a : Act} (hw : Region.wanted o (yielded ops a.tmps) = true) (t : TypeId) (ho : o.op = .build t #[]) (cells : Array Value)
    (hf : P.built t [] = some cells) : YieldsIf P ops S o (.agg cells) a := by
  refine .inl ⟨hw, fun w _ => ?_⟩
  unfold execOp
  simp only [ho, List.map_toArray, List.map_nil]
  rw [Sem.run_bind, run_build w t _ cells hf]
  rfl
theorem evn_odd {x : Nat} (h : (x % 2 == 1) = true) : evn x = (0 + pF - x) % pF := by unfold evn; rw [if_pos (by simpa using h)]
theorem evn_even {x : Nat} (h : (x % 2 == 1) = false) : evn x = x := by unfold evn; rw [if_neg (by simpa using h)]
abbrev qp1x5 : Oper := { dst := some 6, op := Op.alloc 28, type := 0, pos := "number.go:87", after := #[], guard := none }
abbrev qp1x2 : Oper := { dst := some 12, op := Op.call { callee := Callee.value (Operand.func 51), args := #[Operand.tmp 10, Operand.tmp 11], argTypes := #[28, 28] }, type := 28, pos := "number.go:87", after := #[{ on := 0, ground := Ground.data }, { on := 1, ground := Ground.data }], guard := none }
abbrev qp1x4 : Oper := { dst := some 14, op := Op.call { callee := Callee.value (Operand.func 51), args := #[Operand.tmp 12, Operand.tmp 13], argTypes := #[28, 28] }, type := 28, pos := "number.go:87", after := #[{ on := 2, ground := Ground.data }, { on := 3, ground := Ground.data }, { on := 2, ground := Ground.chain }], guard := none }
abbrev qp1x6 : Oper := { dst := none, op := Op.store 28 (Operand.tmp 6) (Operand.tmp 14), type := 0, pos := "number.go:87", after := #[{ on := 5, ground := Ground.data }, { on := 4, ground := Ground.data }, { on := 4, ground := Ground.chain }, { on := 0, ground := Ground.phase }, { on := 1, ground := Ground.phase }, { on := 2, ground := Ground.phase }, { on := 3, ground := Ground.phase }, { on := 4, ground := Ground.phase }, { on := 5, ground := Ground.phase }], guard := none }
abbrev qp2x7 : Oper := { dst := some 7, op := Op.alloc 28, type := 0, pos := "number.go:88", after := #[], guard := none }
abbrev qp2x2 : Oper := { dst := some 17, op := Op.call { callee := Callee.value (Operand.func 51), args := #[Operand.tmp 15, Operand.tmp 16], argTypes := #[28, 28] }, type := 28, pos := "number.go:88", after := #[{ on := 0, ground := Ground.data }, { on := 1, ground := Ground.data }], guard := none }
abbrev qp2x4 : Oper := { dst := some 19, op := Op.call { callee := Callee.value (Operand.func 51), args := #[Operand.tmp 17, Operand.tmp 18], argTypes := #[28, 28] }, type := 28, pos := "number.go:88", after := #[{ on := 2, ground := Ground.data }, { on := 3, ground := Ground.data }, { on := 2, ground := Ground.chain }], guard := none }
abbrev qp2x6 : Oper := { dst := some 21, op := Op.call { callee := Callee.value (Operand.func 51), args := #[Operand.tmp 19, Operand.tmp 20], argTypes := #[28, 28] }, type := 28, pos := "number.go:88", after := #[{ on := 4, ground := Ground.data }, { on := 5, ground := Ground.data }, { on := 4, ground := Ground.chain }], guard := none }
abbrev qp2x8 : Oper := { dst := none, op := Op.store 28 (Operand.tmp 7) (Operand.tmp 21), type := 0, pos := "number.go:88", after := #[{ on := 7, ground := Ground.data }, { on := 6, ground := Ground.data }, { on := 6, ground := Ground.chain }, { on := 0, ground := Ground.phase }, { on := 1, ground := Ground.phase }, { on := 2, ground := Ground.phase }, { on := 3, ground := Ground.phase }, { on := 4, ground := Ground.phase }, { on := 5, ground := Ground.phase }, { on := 6, ground := Ground.phase }, { on := 7, ground := Ground.phase }], guard := none }
abbrev qp3x9 : Oper := { dst := some 8, op := Op.alloc 28, type := 0, pos := "number.go:90", after := #[], guard := none }
abbrev qp3x1 : Oper := { dst := some 23, op := Op.call { callee := Callee.value (Operand.func 73), args := #[Operand.tmp 22], argTypes := #[28] }, type := 28, pos := "number.go:90", after := #[{ on := 0, ground := Ground.data }], guard := none }
abbrev qp3x4 : Oper := { dst := some 26, op := Op.call { callee := Callee.value (Operand.func 74), args := #[Operand.tmp 23, Operand.const (Value.int IntKind.i64 2), Operand.tmp 25], argTypes := #[28, 3, 66] }, type := 28, pos := "number.go:90", after := #[{ on := 1, ground := Ground.data }, { on := 3, ground := Ground.data }, { on := 1, ground := Ground.chain }], guard := none }
abbrev qp3x6 : Oper := { dst := some 28, op := Op.call { callee := Callee.value (Operand.func 51), args := #[Operand.tmp 26, Operand.tmp 27], argTypes := #[28, 28] }, type := 28, pos := "number.go:90", after := #[{ on := 4, ground := Ground.data }, { on := 5, ground := Ground.data }, { on := 4, ground := Ground.chain }], guard := none }
abbrev qp3x8 : Oper := { dst := some 30, op := Op.call { callee := Callee.value (Operand.func 51), args := #[Operand.tmp 28, Operand.tmp 29], argTypes := #[28, 28] }, type := 28, pos := "number.go:90", after := #[{ on := 6, ground := Ground.data }, { on := 7, ground := Ground.data }, { on := 6, ground := Ground.chain }], guard := none }
abbrev qp3x10 : Oper := { dst := none, op := Op.store 28 (Operand.tmp 8) (Operand.tmp 30), type := 0, pos := "number.go:90", after := #[{ on := 9, ground := Ground.data }, { on := 8, ground := Ground.data }, { on := 8, ground := Ground.chain }, { on := 0, ground := Ground.phase }, { on := 1, ground := Ground.phase }, { on := 2, ground := Ground.phase }, { on := 3, ground := Ground.phase }, { on := 4, ground := Ground.phase }, { on := 5, ground := Ground.phase }, { on := 6, ground := Ground.phase }, { on := 7, ground := Ground.phase }, { on := 8, ground := Ground.phase }, { on := 9, ground := Ground.phase }], guard := none }
abbrev qp4x5 : Oper := { dst := some 9, op := Op.alloc 28, type := 0, pos := "number.go:91", after := #[], guard := none }
abbrev qp4x2 : Oper := { dst := some 33, op := Op.call { callee := Callee.value (Operand.func 51), args := #[Operand.tmp 31, Operand.tmp 32], argTypes := #[28, 28] }, type := 28, pos := "number.go:91", after := #[{ on := 0, ground := Ground.data }, { on := 1, ground := Ground.data }], guard := none }
abbrev qp4x4 : Oper := { dst := some 35, op := Op.call { callee := Callee.value (Operand.func 51), args := #[Operand.tmp 33, Operand.tmp 34], argTypes := #[28, 28] }, type := 28, pos := "number.go:91", after := #[{ on := 2, ground := Ground.data }, { on := 3, ground := Ground.data }, { on := 2, ground := Ground.chain }], guard := none }
abbrev qp4x6 : Oper := { dst := none, op := Op.store 28 (Operand.tmp 9) (Operand.tmp 35), type := 0, pos := "number.go:91", after := #[{ on := 5, ground := Ground.data }, { on := 4, ground := Ground.data }, { on := 4, ground := Ground.chain }, { on := 0, ground := Ground.phase }, { on := 1, ground := Ground.phase }, { on := 2, ground := Ground.phase }, { on := 3, ground := Ground.phase }, { on := 4, ground := Ground.phase }, { on := 5, ground := Ground.phase }], guard := none }
abbrev qp6x3 : Oper := { dst := some 42, op := Op.call { callee := Callee.value (Operand.func 35), args := #[Operand.tmp 40, Operand.tmp 41], argTypes := #[28, 28] }, type := 28, pos := "number.go:93", after := #[{ on := 1, ground := Ground.data }, { on := 2, ground := Ground.data }], guard := none }
set_option maxRecDepth 20000 in
set_option maxHeartbeats 16000000 in
theorem rootq_raw (u v v2 v3 a1 a2 bs o t t2 x0 xx sq nu xi : Nat) (hu : u < pF) (hsq : sq < pF) (hnu : nu < pF) (hx0 : x0 < pF) (hxi : xi < pF)
    (k1 : ∀ W, Calls Tryd.prog 51 #[numV v, numV v] W fun e w' => e = .returned (numV v2) ∧ Below W.heap.size W w')
    (k2 : ∀ W, Calls Tryd.prog 51 #[numV v2, numV v] W fun e w' => e = .returned (numV v3) ∧ Below W.heap.size W w')
    (k3 : ∀ W, Calls Tryd.prog 51 #[numV u, numV v3] W fun e w' => e = .returned (numV a1) ∧ Below W.heap.size W w')
    (k4 : ∀ W, Calls Tryd.prog 51 #[numV a1, numV v3] W fun e w' => e = .returned (numV a2) ∧ Below W.heap.size W w')
    (k5 : ∀ W, Calls Tryd.prog 51 #[numV a2, numV v] W fun e w' => e = .returned (numV bs) ∧ Below W.heap.size W w')
    (k6 : ∀ W, Calls Tryd.prog 73 #[numV bs] W fun e w' => e = .returned (numV o) ∧ Below W.heap.size W w')
    (k7 : ∀ W, Calls Tryd.prog 74 #[numV o, .int .i64 2, .func (.func 51) #[numV bs] #[]] W fun e w' => e = .returned (numV t) ∧ Below W.heap.size W w')
    (k8 : ∀ W, Calls Tryd.prog 51 #[numV t, numV u] W fun e w' => e = .returned (numV t2) ∧ Below W.heap.size W w')
    (k9 : ∀ W, Calls Tryd.prog 51 #[numV t2, numV v3] W fun e w' => e = .returned (numV x0) ∧ Below W.heap.size W w')
    (k10 : ∀ W, Calls Tryd.prog 51 #[numV x0, numV x0] W fun e w' => e = .returned (numV xx) ∧ Below W.heap.size W w')
    (k11 : ∀ W, Calls Tryd.prog 51 #[numV xx, numV v] W fun e w' => e = .returned (numV sq) ∧ Below W.heap.size W w')
    (k12 : ∀ W, Calls Tryd.prog 35 #[numV 0, numV u] W fun e w' => e = .returned (numV nu) ∧ Below W.heap.size W w')
    (k13 : ∀ W, Calls Tryd.prog 51 #[numV x0, numV iM] W fun e w' => e = .returned (numV xi) ∧ Below W.heap.size W w')
    (k14 : ∀ W, ∀ z, z < pF → Calls Tryd.prog 90 #[numV z] W fun e w' => e = .returned (.bool (z % 2 == 1)) ∧ Below W.heap.size W w')
    (k15 : ∀ W, ∀ z, z < pF → Calls Tryd.prog 35 #[numV 0, numV z] W fun e w' => e = .returned (numV ((0 + pF - z) % pF)) ∧ Below W.heap.size W w')
    (w : World) (im : IM w) :
    Calls Tryd.prog 83 #[numV u, numV v] w fun e w' => e = .returned (.tuple #[numV (if sq = u then evn x0 else if sq = nu then evn xi else 0), .bool (if sq = u then true else decide (sq = nu))]) ∧ Below w.heap.size w w' := by
  obtain ⟨V1, g2, e1, hg2, b1, hU⟩ : ∃ V g, w.alloc (.cells (c4 u).toArray 28) = V ∧ w.heap.size = g ∧ Below w.heap.size w V ∧ RW V g 0 (c4 u) := ⟨_, _, rfl, rfl, (Below.refl _ _).alloc (Nat.le_refl _) _, RW.fresh w _ _⟩
  obtain ⟨V2, g3, e2, hg3, b2, hV⟩ : ∃ V g, V1.alloc (.cells (c4 v).toArray 28) = V ∧ V1.heap.size = g ∧ Below V1.heap.size V1 V ∧ RW V g 0 (c4 v) := ⟨_, _, rfl, rfl, (Below.refl _ _).alloc (Nat.le_refl _) _, RW.fresh V1 _ _⟩
  obtain ⟨W, g4, e3, hg4, b3, h4⟩ := fresh4 V2
  have t1 : V1.heap.size = w.heap.size + 1 := by rw [← e1]; simp
  have t2' : V2.heap.size = V1.heap.size + 1 := by rw [← e2]; simp
  have HW : Hid (W = ((w.alloc (.cells (c4 u).toArray 28)).alloc (.cells (c4 v).toArray 28)).alloc (.cells #[.int .u64 0, .int .u64 0, .int .u64 0, .int .u64 0] 28)) := Hid.mk' (by rw [← e3, ← e2, ← e1])
  have q2 : Hid (w.heap.size = g2) := Hid.mk' hg2
  have q3 : Hid (w.heap.size + 1 = g3) := Hid.mk' (by omega)
  have q4 : Hid (w.heap.size + 1 + 1 = g4) := Hid.mk' (by omega)
  replace hU := (hU.still b2).still b3
  replace hV := hV.still b3
  have hbW : Below w.heap.size w W := (b1.trans (b2.mono (by omega))).trans (b3.mono (by omega))
  replace im := im.still hbW
  have w4 : w.heap.size ≤ g4 := by omega
  have n24 : g2 ≠ g4 := by omega
  clear e1 e2 e3 hg2 hg3 hg4 b1 b2 b3 t1 t2' V1 V2
  obtain ⟨r, hr⟩ : ∃ r, r = (if sq = u then evn x0 else if sq = nu then evn xi else 0) := ⟨_, rfl⟩
  obtain ⟨ok, hok⟩ : ∃ ok, ok = (if sq = u then true else decide (sq = nu)) := ⟨_, rfl⟩
  rw [← hr, ← hok]
  have Hr0 := Hid.mk' hr
  have Hk0 := Hid.mk' hok
  clear hr hok
  rw [show numV u = .agg (c4 u).toArray from rfl, show numV v = .agg (c4 v).toArray from rfl]
  go_enter Tryd.func83, Tryd.ntmps83
  go_upto_region 1 with (fail)
  rw [← HW.out, q4.out, q3.out, q2.out]
  clear HW q2 q3 q4
  go_cut [6] from 10 (fun s6 wc => ∃ g106, s6 = .pointer (some ⟨g106, 0, none⟩) ∧ Below W.heap.size W wc ∧ W.heap.size ≤ g106 ∧ RW wc g106 0 (c4 v3))
  case first =>
    clear im k3 k4 k5 k6 k7 k8 k9 k10 k11 k12 k13 k14 k15
    have hdrew : Below W.heap.size W W.drew := (Below.refl _ _).drew
    replace hU := hU.still hdrew
    replace hV := hV.still hdrew
    replace h4 := h4.still hdrew
    refine wp_region_noPanic ?_
    refine wp_region_held_drew (S := fun w' => Below W.drew.heap.size W.drew w') (by kernel_rfl) (Below.refl _ _) (fun hS => ?_)
    generalize W.drew = Vp1_ at *
    refine wpAnyH_take (i := 0) (oi := { dst := some 10, op := Op.load 28 (Operand.tmp 3), type := 28, pos := "number.go:87", after := #[], guard := none }) (v := numV v) rfl (by kernel_rfl) (by kernel_rfl) (by kernel_rfl) (fun _ _ _ h => h) (yieldsIf_load_mid (by rfl) 28 _ rfl g3 0 rfl (c4 v) _ (fun _ h => (hV.still h).range) Tryd.underlying28 rfl info4) hS ?_
    (try simp only [Act.put, List.setIfInBounds_toArray, List.set_cons_zero, List.set_cons_succ])
    refine wpAnyH_take (i := 1) (oi := { dst := some 11, op := Op.load 28 (Operand.tmp 3), type := 28, pos := "number.go:87", after := #[], guard := none }) (v := numV v) rfl (by kernel_rfl) (by kernel_rfl) (by kernel_rfl) (fun _ _ _ h => h) (yieldsIf_load_mid (by rfl) 28 _ rfl g3 0 rfl (c4 v) _ (fun _ h => (hV.still h).range) Tryd.underlying28 rfl info4) hS ?_
    (try simp only [Act.put, List.setIfInBounds_toArray, List.set_cons_zero, List.set_cons_succ])
    refine wpAnyH_take (i := 3) (oi := { dst := some 13, op := Op.load 28 (Operand.tmp 3), type := 28, pos := "number.go:87", after := #[], guard := none }) (v := numV v) rfl (by kernel_rfl) (by kernel_rfl) (by kernel_rfl) (fun _ _ _ h => h) (yieldsIf_load_mid (by rfl) 28 _ rfl g3 0 rfl (c4 v) _ (fun _ h => (hV.still h).range) Tryd.underlying28 rfl info4) hS ?_
    (try simp only [Act.put, List.setIfInBounds_toArray, List.set_cons_zero, List.set_cons_succ])
    refine wpAnyH_ready (rs := [2, 5]) (by kernel_rfl) (by simp) ?_
    refine AllReadyH.cons (o := qp1x2) rfl (fun K hK => ?_) (AllReadyH.cons (o := qp1x5) rfl (fun K hK => ?_) (AllReadyH.nil))
    · unfold qp1x2
      go_simp
      (go_at_call 51; refine (k1 _).mono ?_; rintro e wp1_1 ⟨rfl, hbp1_1⟩)
      (try go_simp)
      have hSp1_1 := below_next hS hbp1_1
      refine hK.out _ _ hSp1_1 (fun h => ?_)
      clear h hK K hbp1_1
      (try simp only [Act.put, List.setIfInBounds_toArray, List.set_cons_zero, List.set_cons_succ])
      refine wpAnyH_ready (rs := [4, 5]) (by kernel_rfl) (by simp) ?_
      refine AllReadyH.cons (o := qp1x4) rfl (fun K hK => ?_) (AllReadyH.cons (o := qp1x5) rfl (fun K hK => ?_) (AllReadyH.nil))
      · unfold qp1x4
        go_simp
        (go_at_call 51; refine (k2 _).mono ?_; rintro e wp1_2 ⟨rfl, hbp1_2⟩)
        (try go_simp)
        have hSp1_2 := below_next hSp1_1 hbp1_2
        refine hK.out _ _ hSp1_2 (fun h => ?_)
        clear h hK K hbp1_2
        (try simp only [Act.put, List.setIfInBounds_toArray, List.set_cons_zero, List.set_cons_succ])
        refine wpAnyH_ready (rs := [5]) (by kernel_rfl) (by simp) ?_
        refine AllReadyH.cons (o := qp1x5) rfl (fun K hK => ?_) (AllReadyH.nil)
        unfold qp1x5
        go_simp
        obtain ⟨wp1_3, gp1_3, hwp1_3, hgp1_3, hbp1_3, rp1_3⟩ := fresh4 wp1_2
        rw [hwp1_3, hgp1_3]
        have hSp1_3 := below_next hSp1_2 hbp1_3
        have Gp1_3 : Vp1_.heap.size ≤ gp1_3 := by have := hSp1_2.size; omega
        refine hK.out _ _ hSp1_3 (fun h => ?_)
        clear h hK K hbp1_3 hwp1_3 hgp1_3
        (try simp only [Act.put, List.setIfInBounds_toArray, List.set_cons_zero, List.set_cons_succ])
        refine wpAnyH_ready (rs := [6]) (by kernel_rfl) (by simp) ?_
        refine AllReadyH.cons (o := qp1x6) rfl (fun K hK => ?_) (AllReadyH.nil)
        unfold qp1x6
        rw [if_pos (by rfl)]
        refine num_store _ _ rfl gp1_3 0 v3 rfl rfl rp1_3 hSp1_3 Gp1_3 (fun wp1_4 r0 hSp1_4 far => ?_)
        refine hK.out _ _ hSp1_4 (fun h => ?_)
        clear h hK K far rp1_3
        have rp1_3 := r0
        clear r0
        (try dsimp only [Act.put])
        refine wpAnyH_done (by kernel_rfl) ?_ _
        refine NoPanic.normal ?_
        go_wp2
        go_meet
        case rel => exact ⟨gp1_3, rfl, below_next hdrew hSp1_4, Nat.le_trans hdrew.size Gp1_3, rp1_3⟩
      · unfold qp1x5
        go_simp
        obtain ⟨wp1_5, gp1_5, hwp1_5, hgp1_5, hbp1_5, rp1_5⟩ := fresh4 wp1_1
        rw [hwp1_5, hgp1_5]
        have hSp1_5 := below_next hSp1_1 hbp1_5
        have Gp1_5 : Vp1_.heap.size ≤ gp1_5 := by have := hSp1_1.size; omega
        refine hK.out _ _ hSp1_5 (fun h => ?_)
        clear h hK K hbp1_5 hwp1_5 hgp1_5
        (try simp only [Act.put, List.setIfInBounds_toArray, List.set_cons_zero, List.set_cons_succ])
        refine wpAnyH_ready (rs := [4]) (by kernel_rfl) (by simp) ?_
        refine AllReadyH.cons (o := qp1x4) rfl (fun K hK => ?_) (AllReadyH.nil)
        unfold qp1x4
        go_simp
        (go_at_call 51; refine (k2 _).mono ?_; rintro e wp1_6 ⟨rfl, hbp1_6⟩)
        (try go_simp)
        have hSp1_6 := below_next hSp1_5 hbp1_6
        replace rp1_5 := rp1_5.still hbp1_6
        refine hK.out _ _ hSp1_6 (fun h => ?_)
        clear h hK K hbp1_6
        (try simp only [Act.put, List.setIfInBounds_toArray, List.set_cons_zero, List.set_cons_succ])
        refine wpAnyH_ready (rs := [6]) (by kernel_rfl) (by simp) ?_
        refine AllReadyH.cons (o := qp1x6) rfl (fun K hK => ?_) (AllReadyH.nil)
        unfold qp1x6
        rw [if_pos (by rfl)]
        refine num_store _ _ rfl gp1_5 0 v3 rfl rfl rp1_5 hSp1_6 Gp1_5 (fun wp1_7 r0 hSp1_7 far => ?_)
        refine hK.out _ _ hSp1_7 (fun h => ?_)
        clear h hK K far rp1_5
        have rp1_5 := r0
        clear r0
        (try dsimp only [Act.put])
        refine wpAnyH_done (by kernel_rfl) ?_ _
        refine NoPanic.normal ?_
        go_wp2
        go_meet
        case rel => exact ⟨gp1_5, rfl, below_next hdrew hSp1_7, Nat.le_trans hdrew.size Gp1_5, rp1_5⟩
    · unfold qp1x5
      go_simp
      obtain ⟨wp1_8, gp1_8, hwp1_8, hgp1_8, hbp1_8, rp1_8⟩ := fresh4 Vp1_
      rw [hwp1_8, hgp1_8]
      have hSp1_8 := below_next hS hbp1_8
      have Gp1_8 : Vp1_.heap.size ≤ gp1_8 := by have := hS.size; omega
      refine hK.out _ _ hSp1_8 (fun h => ?_)
      clear h hK K hbp1_8 hwp1_8 hgp1_8
      (try simp only [Act.put, List.setIfInBounds_toArray, List.set_cons_zero, List.set_cons_succ])
      refine wpAnyH_ready (rs := [2]) (by kernel_rfl) (by simp) ?_
      refine AllReadyH.cons (o := qp1x2) rfl (fun K hK => ?_) (AllReadyH.nil)
      unfold qp1x2
      go_simp
      (go_at_call 51; refine (k1 _).mono ?_; rintro e wp1_9 ⟨rfl, hbp1_9⟩)
      (try go_simp)
      have hSp1_9 := below_next hSp1_8 hbp1_9
      replace rp1_8 := rp1_8.still hbp1_9
      refine hK.out _ _ hSp1_9 (fun h => ?_)
      clear h hK K hbp1_9
      (try simp only [Act.put, List.setIfInBounds_toArray, List.set_cons_zero, List.set_cons_succ])
      refine wpAnyH_ready (rs := [4]) (by kernel_rfl) (by simp) ?_
      refine AllReadyH.cons (o := qp1x4) rfl (fun K hK => ?_) (AllReadyH.nil)
      unfold qp1x4
      go_simp
      (go_at_call 51; refine (k2 _).mono ?_; rintro e wp1_10 ⟨rfl, hbp1_10⟩)
      (try go_simp)
      have hSp1_10 := below_next hSp1_9 hbp1_10
      replace rp1_8 := rp1_8.still hbp1_10
      refine hK.out _ _ hSp1_10 (fun h => ?_)
      clear h hK K hbp1_10
      (try simp only [Act.put, List.setIfInBounds_toArray, List.set_cons_zero, List.set_cons_succ])
      refine wpAnyH_ready (rs := [6]) (by kernel_rfl) (by simp) ?_
      refine AllReadyH.cons (o := qp1x6) rfl (fun K hK => ?_) (AllReadyH.nil)
      unfold qp1x6
      rw [if_pos (by rfl)]
      refine num_store _ _ rfl gp1_8 0 v3 rfl rfl rp1_8 hSp1_10 Gp1_8 (fun wp1_11 r0 hSp1_11 far => ?_)
      refine hK.out _ _ hSp1_11 (fun h => ?_)
      clear h hK K far rp1_8
      have rp1_8 := r0
      clear r0
      (try dsimp only [Act.put])
      refine wpAnyH_done (by kernel_rfl) ?_ _
      refine NoPanic.normal ?_
      go_wp2
      go_meet
      case rel => exact ⟨gp1_8, rfl, below_next hdrew hSp1_11, Nat.le_trans hdrew.size Gp1_8, rp1_8⟩
  case rest =>
  obtain ⟨g106, rfl, hb106, G106, h106⟩ := hcut
  have lt4 := h4.lt
  replace hU := hU.still hb106
  replace hV := hV.still hb106
  replace h4 := h4.still hb106
  replace im := im.still hb106
  obtain ⟨U1, hU1⟩ : ∃ W, W = wc := ⟨_, rfl⟩
  rw [← hU1]
  rw [← hU1] at hU hV h4 h106 im hb106
  replace hbW : Below w.heap.size w U1 := below_next hbW hb106
  have n4_106 : g106 ≠ g4 := by omega
  clear hU1 hb106 G106 lt4
  go_upto_region 2 with (fail)
  go_cut [7] from 10 (fun s7 wc => ∃ g107, s7 = .pointer (some ⟨g107, 0, none⟩) ∧ Below U1.heap.size U1 wc ∧ U1.heap.size ≤ g107 ∧ RW wc g107 0 (c4 bs))
  case first =>
    clear im k1 k2 k6 k7 k8 k9 k10 k11 k12 k13 k14 k15
    have hdrew : Below U1.heap.size U1 U1.drew := (Below.refl _ _).drew
    replace hU := hU.still hdrew
    replace hV := hV.still hdrew
    replace h4 := h4.still hdrew
    replace h106 := h106.still hdrew
    refine wp_region_noPanic ?_
    refine wp_region_held_drew (S := fun w' => Below U1.drew.heap.size U1.drew w') (by kernel_rfl) (Below.refl _ _) (fun hS => ?_)
    generalize U1.drew = Vp2_ at *
    refine wpAnyH_take (i := 0) (oi := { dst := some 15, op := Op.load 28 (Operand.tmp 2), type := 28, pos := "number.go:88", after := #[], guard := none }) (v := numV u) rfl (by kernel_rfl) (by kernel_rfl) (by kernel_rfl) (fun _ _ _ h => h) (yieldsIf_load_mid (by rfl) 28 _ rfl g2 0 rfl (c4 u) _ (fun _ h => (hU.still h).range) Tryd.underlying28 rfl info4) hS ?_
    (try simp only [Act.put, List.setIfInBounds_toArray, List.set_cons_zero, List.set_cons_succ])
    refine wpAnyH_take (i := 1) (oi := { dst := some 16, op := Op.load 28 (Operand.tmp 6), type := 28, pos := "number.go:88", after := #[], guard := none }) (v := numV v3) rfl (by kernel_rfl) (by kernel_rfl) (by kernel_rfl) (fun _ _ _ h => h) (yieldsIf_load_mid (by rfl) 28 _ rfl g106 0 rfl (c4 v3) _ (fun _ h => (h106.still h).range) Tryd.underlying28 rfl info4) hS ?_
    (try simp only [Act.put, List.setIfInBounds_toArray, List.set_cons_zero, List.set_cons_succ])
    refine wpAnyH_take (i := 3) (oi := { dst := some 18, op := Op.load 28 (Operand.tmp 6), type := 28, pos := "number.go:88", after := #[], guard := none }) (v := numV v3) rfl (by kernel_rfl) (by kernel_rfl) (by kernel_rfl) (fun _ _ _ h => h) (yieldsIf_load_mid (by rfl) 28 _ rfl g106 0 rfl (c4 v3) _ (fun _ h => (h106.still h).range) Tryd.underlying28 rfl info4) hS ?_
    (try simp only [Act.put, List.setIfInBounds_toArray, List.set_cons_zero, List.set_cons_succ])
    refine wpAnyH_take (i := 5) (oi := { dst := some 20, op := Op.load 28 (Operand.tmp 3), type := 28, pos := "number.go:88", after := #[], guard := none }) (v := numV v) rfl (by kernel_rfl) (by kernel_rfl) (by kernel_rfl) (fun _ _ _ h => h) (yieldsIf_load_mid (by rfl) 28 _ rfl g3 0 rfl (c4 v) _ (fun _ h => (hV.still h).range) Tryd.underlying28 rfl info4) hS ?_
    (try simp only [Act.put, List.setIfInBounds_toArray, List.set_cons_zero, List.set_cons_succ])
    refine wpAnyH_ready (rs := [2, 7]) (by kernel_rfl) (by simp) ?_
    refine AllReadyH.cons (o := qp2x2) rfl (fun K hK => ?_) (AllReadyH.cons (o := qp2x7) rfl (fun K hK => ?_) (AllReadyH.nil))
    · unfold qp2x2
      go_simp
      (go_at_call 51; refine (k3 _).mono ?_; rintro e wp2_1 ⟨rfl, hbp2_1⟩)
      (try go_simp)
      have hSp2_1 := below_next hS hbp2_1
      refine hK.out _ _ hSp2_1 (fun h => ?_)
      clear h hK K hbp2_1
      (try simp only [Act.put, List.setIfInBounds_toArray, List.set_cons_zero, List.set_cons_succ])
      refine wpAnyH_ready (rs := [4, 7]) (by kernel_rfl) (by simp) ?_
      refine AllReadyH.cons (o := qp2x4) rfl (fun K hK => ?_) (AllReadyH.cons (o := qp2x7) rfl (fun K hK => ?_) (AllReadyH.nil))
      · unfold qp2x4
        go_simp
        (go_at_call 51; refine (k4 _).mono ?_; rintro e wp2_2 ⟨rfl, hbp2_2⟩)
        (try go_simp)
        have hSp2_2 := below_next hSp2_1 hbp2_2
        refine hK.out _ _ hSp2_2 (fun h => ?_)
        clear h hK K hbp2_2
        (try simp only [Act.put, List.setIfInBounds_toArray, List.set_cons_zero, List.set_cons_succ])
        refine wpAnyH_ready (rs := [6, 7]) (by kernel_rfl) (by simp) ?_
        refine AllReadyH.cons (o := qp2x6) rfl (fun K hK => ?_) (AllReadyH.cons (o := qp2x7) rfl (fun K hK => ?_) (AllReadyH.nil))
        · unfold qp2x6
          go_simp
          (go_at_call 51; refine (k5 _).mono ?_; rintro e wp2_3 ⟨rfl, hbp2_3⟩)
          (try go_simp)
          have hSp2_3 := below_next hSp2_2 hbp2_3
          refine hK.out _ _ hSp2_3 (fun h => ?_)
          clear h hK K hbp2_3
          (try simp only [Act.put, List.setIfInBounds_toArray, List.set_cons_zero, List.set_cons_succ])
          refine wpAnyH_ready (rs := [7]) (by kernel_rfl) (by simp) ?_
          refine AllReadyH.cons (o := qp2x7) rfl (fun K hK => ?_) (AllReadyH.nil)
          unfold qp2x7
          go_simp
          obtain ⟨wp2_4, gp2_4, hwp2_4, hgp2_4, hbp2_4, rp2_4⟩ := fresh4 wp2_3
          rw [hwp2_4, hgp2_4]
          have hSp2_4 := below_next hSp2_3 hbp2_4
          have Gp2_4 : Vp2_.heap.size ≤ gp2_4 := by have := hSp2_3.size; omega
          refine hK.out _ _ hSp2_4 (fun h => ?_)
          clear h hK K hbp2_4 hwp2_4 hgp2_4
          (try simp only [Act.put, List.setIfInBounds_toArray, List.set_cons_zero, List.set_cons_succ])
          refine wpAnyH_ready (rs := [8]) (by kernel_rfl) (by simp) ?_
          refine AllReadyH.cons (o := qp2x8) rfl (fun K hK => ?_) (AllReadyH.nil)
          unfold qp2x8
          rw [if_pos (by rfl)]
          refine num_store _ _ rfl gp2_4 0 bs rfl rfl rp2_4 hSp2_4 Gp2_4 (fun wp2_5 r0 hSp2_5 far => ?_)
          refine hK.out _ _ hSp2_5 (fun h => ?_)
          clear h hK K far rp2_4
          have rp2_4 := r0
          clear r0
          (try dsimp only [Act.put])
          refine wpAnyH_done (by kernel_rfl) ?_ _
          refine NoPanic.normal ?_
          go_wp2
          go_meet
          case rel => exact ⟨gp2_4, rfl, below_next hdrew hSp2_5, Nat.le_trans hdrew.size Gp2_4, rp2_4⟩
        · unfold qp2x7
          go_simp
          obtain ⟨wp2_6, gp2_6, hwp2_6, hgp2_6, hbp2_6, rp2_6⟩ := fresh4 wp2_2
          rw [hwp2_6, hgp2_6]
          have hSp2_6 := below_next hSp2_2 hbp2_6
          have Gp2_6 : Vp2_.heap.size ≤ gp2_6 := by have := hSp2_2.size; omega
          refine hK.out _ _ hSp2_6 (fun h => ?_)
          clear h hK K hbp2_6 hwp2_6 hgp2_6
          (try simp only [Act.put, List.setIfInBounds_toArray, List.set_cons_zero, List.set_cons_succ])
          refine wpAnyH_ready (rs := [6]) (by kernel_rfl) (by simp) ?_
          refine AllReadyH.cons (o := qp2x6) rfl (fun K hK => ?_) (AllReadyH.nil)
          unfold qp2x6
          go_simp
          (go_at_call 51; refine (k5 _).mono ?_; rintro e wp2_7 ⟨rfl, hbp2_7⟩)
          (try go_simp)
          have hSp2_7 := below_next hSp2_6 hbp2_7
          replace rp2_6 := rp2_6.still hbp2_7
          refine hK.out _ _ hSp2_7 (fun h => ?_)
          clear h hK K hbp2_7
          (try simp only [Act.put, List.setIfInBounds_toArray, List.set_cons_zero, List.set_cons_succ])
          refine wpAnyH_ready (rs := [8]) (by kernel_rfl) (by simp) ?_
          refine AllReadyH.cons (o := qp2x8) rfl (fun K hK => ?_) (AllReadyH.nil)
          unfold qp2x8
          rw [if_pos (by rfl)]
          refine num_store _ _ rfl gp2_6 0 bs rfl rfl rp2_6 hSp2_7 Gp2_6 (fun wp2_8 r0 hSp2_8 far => ?_)
          refine hK.out _ _ hSp2_8 (fun h => ?_)
          clear h hK K far rp2_6
          have rp2_6 := r0
          clear r0
          (try dsimp only [Act.put])
          refine wpAnyH_done (by kernel_rfl) ?_ _
          refine NoPanic.normal ?_
          go_wp2
          go_meet
          case rel => exact ⟨gp2_6, rfl, below_next hdrew hSp2_8, Nat.le_trans hdrew.size Gp2_6, rp2_6⟩
      · unfold qp2x7
        go_simp
        obtain ⟨wp2_9, gp2_9, hwp2_9, hgp2_9, hbp2_9, rp2_9⟩ := fresh4 wp2_1
        rw [hwp2_9, hgp2_9]
        have hSp2_9 := below_next hSp2_1 hbp2_9
        have Gp2_9 : Vp2_.heap.size ≤ gp2_9 := by have := hSp2_1.size; omega
        refine hK.out _ _ hSp2_9 (fun h => ?_)
        clear h hK K hbp2_9 hwp2_9 hgp2_9
        (try simp only [Act.put, List.setIfInBounds_toArray, List.set_cons_zero, List.set_cons_succ])
        refine wpAnyH_ready (rs := [4]) (by kernel_rfl) (by simp) ?_
        refine AllReadyH.cons (o := qp2x4) rfl (fun K hK => ?_) (AllReadyH.nil)
        unfold qp2x4
        go_simp
        (go_at_call 51; refine (k4 _).mono ?_; rintro e wp2_10 ⟨rfl, hbp2_10⟩)
        (try go_simp)
        have hSp2_10 := below_next hSp2_9 hbp2_10
        replace rp2_9 := rp2_9.still hbp2_10
        refine hK.out _ _ hSp2_10 (fun h => ?_)
        clear h hK K hbp2_10
        (try simp only [Act.put, List.setIfInBounds_toArray, List.set_cons_zero, List.set_cons_succ])
        refine wpAnyH_ready (rs := [6]) (by kernel_rfl) (by simp) ?_
        refine AllReadyH.cons (o := qp2x6) rfl (fun K hK => ?_) (AllReadyH.nil)
        unfold qp2x6
        go_simp
        (go_at_call 51; refine (k5 _).mono ?_; rintro e wp2_11 ⟨rfl, hbp2_11⟩)
        (try go_simp)
        have hSp2_11 := below_next hSp2_10 hbp2_11
        replace rp2_9 := rp2_9.still hbp2_11
        refine hK.out _ _ hSp2_11 (fun h => ?_)
        clear h hK K hbp2_11
        (try simp only [Act.put, List.setIfInBounds_toArray, List.set_cons_zero, List.set_cons_succ])
        refine wpAnyH_ready (rs := [8]) (by kernel_rfl) (by simp) ?_
        refine AllReadyH.cons (o := qp2x8) rfl (fun K hK => ?_) (AllReadyH.nil)
        unfold qp2x8
        rw [if_pos (by rfl)]
        refine num_store _ _ rfl gp2_9 0 bs rfl rfl rp2_9 hSp2_11 Gp2_9 (fun wp2_12 r0 hSp2_12 far => ?_)
        refine hK.out _ _ hSp2_12 (fun h => ?_)
        clear h hK K far rp2_9
        have rp2_9 := r0
        clear r0
        (try dsimp only [Act.put])
        refine wpAnyH_done (by kernel_rfl) ?_ _
        refine NoPanic.normal ?_
        go_wp2
        go_meet
        case rel => exact ⟨gp2_9, rfl, below_next hdrew hSp2_12, Nat.le_trans hdrew.size Gp2_9, rp2_9⟩
    · unfold qp2x7
      go_simp
      obtain ⟨wp2_13, gp2_13, hwp2_13, hgp2_13, hbp2_13, rp2_13⟩ := fresh4 Vp2_
      rw [hwp2_13, hgp2_13]
      have hSp2_13 := below_next hS hbp2_13
      have Gp2_13 : Vp2_.heap.size ≤ gp2_13 := by have := hS.size; omega
      refine hK.out _ _ hSp2_13 (fun h => ?_)
      clear h hK K hbp2_13 hwp2_13 hgp2_13
      (try simp only [Act.put, List.setIfInBounds_toArray, List.set_cons_zero, List.set_cons_succ])
      refine wpAnyH_ready (rs := [2]) (by kernel_rfl) (by simp) ?_
      refine AllReadyH.cons (o := qp2x2) rfl (fun K hK => ?_) (AllReadyH.nil)
      unfold qp2x2
      go_simp
      (go_at_call 51; refine (k3 _).mono ?_; rintro e wp2_14 ⟨rfl, hbp2_14⟩)
      (try go_simp)
      have hSp2_14 := below_next hSp2_13 hbp2_14
      replace rp2_13 := rp2_13.still hbp2_14
      refine hK.out _ _ hSp2_14 (fun h => ?_)
      clear h hK K hbp2_14
      (try simp only [Act.put, List.setIfInBounds_toArray, List.set_cons_zero, List.set_cons_succ])
      refine wpAnyH_ready (rs := [4]) (by kernel_rfl) (by simp) ?_
      refine AllReadyH.cons (o := qp2x4) rfl (fun K hK => ?_) (AllReadyH.nil)
      unfold qp2x4
      go_simp
      (go_at_call 51; refine (k4 _).mono ?_; rintro e wp2_15 ⟨rfl, hbp2_15⟩)
      (try go_simp)
      have hSp2_15 := below_next hSp2_14 hbp2_15
      replace rp2_13 := rp2_13.still hbp2_15
      refine hK.out _ _ hSp2_15 (fun h => ?_)
      clear h hK K hbp2_15
      (try simp only [Act.put, List.setIfInBounds_toArray, List.set_cons_zero, List.set_cons_succ])
      refine wpAnyH_ready (rs := [6]) (by kernel_rfl) (by simp) ?_
      refine AllReadyH.cons (o := qp2x6) rfl (fun K hK => ?_) (AllReadyH.nil)
      unfold qp2x6
      go_simp
      (go_at_call 51; refine (k5 _).mono ?_; rintro e wp2_16 ⟨rfl, hbp2_16⟩)
      (try go_simp)
      have hSp2_16 := below_next hSp2_15 hbp2_16
      replace rp2_13 := rp2_13.still hbp2_16
      refine hK.out _ _ hSp2_16 (fun h => ?_)
      clear h hK K hbp2_16
      (try simp only [Act.put, List.setIfInBounds_toArray, List.set_cons_zero, List.set_cons_succ])
      refine wpAnyH_ready (rs := [8]) (by kernel_rfl) (by simp) ?_
      refine AllReadyH.cons (o := qp2x8) rfl (fun K hK => ?_) (AllReadyH.nil)
      unfold qp2x8
      rw [if_pos (by rfl)]
      refine num_store _ _ rfl gp2_13 0 bs rfl rfl rp2_13 hSp2_16 Gp2_13 (fun wp2_17 r0 hSp2_17 far => ?_)
      refine hK.out _ _ hSp2_17 (fun h => ?_)
      clear h hK K far rp2_13
      have rp2_13 := r0
      clear r0
      (try dsimp only [Act.put])
      refine wpAnyH_done (by kernel_rfl) ?_ _
      refine NoPanic.normal ?_
      go_wp2
      go_meet
      case rel => exact ⟨gp2_13, rfl, below_next hdrew hSp2_17, Nat.le_trans hdrew.size Gp2_13, rp2_13⟩
  case rest =>
  obtain ⟨g107, rfl, hb107, G107, h107⟩ := hcut
  have lt4 := h4.lt
  replace hU := hU.still hb107
  replace hV := hV.still hb107
  replace h4 := h4.still hb107
  replace h106 := h106.still hb107
  replace im := im.still hb107
  obtain ⟨U2, hU2⟩ : ∃ W, W = wc := ⟨_, rfl⟩
  rw [← hU2]
  rw [← hU2] at hU hV h4 h106 h107 im hb107
  replace hbW : Below w.heap.size w U2 := below_next hbW hb107
  have n4_107 : g107 ≠ g4 := by omega
  clear hU2 hb107 G107 lt4
  go_upto_region 3 with (fail)
  go_cut [8] from 10 (fun s8 wc => ∃ g108, s8 = .pointer (some ⟨g108, 0, none⟩) ∧ Below U2.heap.size U2 wc ∧ U2.heap.size ≤ g108 ∧ RW wc g108 0 (c4 x0))
  case first =>
    clear im k1 k2 k3 k4 k5 k10 k11 k12 k13 k14 k15
    have hdrew : Below U2.heap.size U2 U2.drew := (Below.refl _ _).drew
    replace hU := hU.still hdrew
    replace hV := hV.still hdrew
    replace h4 := h4.still hdrew
    replace h106 := h106.still hdrew
    replace h107 := h107.still hdrew
    refine wp_region_noPanic ?_
    refine wp_region_held_drew (S := fun w' => Below U2.drew.heap.size U2.drew w') (by kernel_rfl) (Below.refl _ _) (fun hS => ?_)
    generalize U2.drew = Vp3_ at *
    refine wpAnyH_take (i := 0) (oi := { dst := some 22, op := Op.load 28 (Operand.tmp 7), type := 28, pos := "number.go:90", after := #[], guard := none }) (v := numV bs) rfl (by kernel_rfl) (by kernel_rfl) (by kernel_rfl) (fun _ _ _ h => h) (yieldsIf_load_mid (by rfl) 28 _ rfl g107 0 rfl (c4 bs) _ (fun _ h => (h107.still h).range) Tryd.underlying28 rfl info4) hS ?_
    (try simp only [Act.put, List.setIfInBounds_toArray, List.set_cons_zero, List.set_cons_succ])
    refine wpAnyH_take (i := 2) (oi := { dst := some 24, op := Op.load 28 (Operand.tmp 7), type := 28, pos := "number.go:90", after := #[], guard := none }) (v := numV bs) rfl (by kernel_rfl) (by kernel_rfl) (by kernel_rfl) (fun _ _ _ h => h) (yieldsIf_load_mid (by rfl) 28 _ rfl g107 0 rfl (c4 bs) _ (fun _ h => (h107.still h).range) Tryd.underlying28 rfl info4) hS ?_
    (try simp only [Act.put, List.setIfInBounds_toArray, List.set_cons_zero, List.set_cons_succ])
    refine wpAnyH_take (i := 3) (oi := { dst := some 25, op := Op.makeFunc (Fn.func 51) #[Operand.tmp 24] #[], type := 66, pos := "number.go:90", after := #[{ on := 2, ground := Ground.data }], guard := none }) (v := ?vp3_1) rfl (by kernel_rfl) (by kernel_rfl) (by kernel_rfl) (fun _ _ _ h => h) (Or.inl ⟨by rfl, ?hp3_1⟩) hS ?rp3_1
    case hp3_1 =>
      intro w hSw
      go_simp
      try with_reducible rfl
    (try simp only [Act.put, List.setIfInBounds_toArray, List.set_cons_zero, List.set_cons_succ])
    refine wpAnyH_take (i := 5) (oi := { dst := some 27, op := Op.load 28 (Operand.tmp 2), type := 28, pos := "number.go:90", after := #[], guard := none }) (v := numV u) rfl (by kernel_rfl) (by kernel_rfl) (by kernel_rfl) (fun _ _ _ h => h) (yieldsIf_load_mid (by rfl) 28 _ rfl g2 0 rfl (c4 u) _ (fun _ h => (hU.still h).range) Tryd.underlying28 rfl info4) hS ?_
    (try simp only [Act.put, List.setIfInBounds_toArray, List.set_cons_zero, List.set_cons_succ])
    refine wpAnyH_take (i := 7) (oi := { dst := some 29, op := Op.load 28 (Operand.tmp 6), type := 28, pos := "number.go:90", after := #[], guard := none }) (v := numV v3) rfl (by kernel_rfl) (by kernel_rfl) (by kernel_rfl) (fun _ _ _ h => h) (yieldsIf_load_mid (by rfl) 28 _ rfl g106 0 rfl (c4 v3) _ (fun _ h => (h106.still h).range) Tryd.underlying28 rfl info4) hS ?_
    (try simp only [Act.put, List.setIfInBounds_toArray, List.set_cons_zero, List.set_cons_succ])
    refine wpAnyH_ready (rs := [1, 9]) (by kernel_rfl) (by simp) ?_
    refine AllReadyH.cons (o := qp3x1) rfl (fun K hK => ?_) (AllReadyH.cons (o := qp3x9) rfl (fun K hK => ?_) (AllReadyH.nil))
    · unfold qp3x1
      go_simp
      (go_at_call 73; refine (k6 _).mono ?_; rintro e wp3_2 ⟨rfl, hbp3_2⟩)
      (try go_simp)
      have hSp3_2 := below_next hS hbp3_2
      refine hK.out _ _ hSp3_2 (fun h => ?_)
      clear h hK K hbp3_2
      (try simp only [Act.put, List.setIfInBounds_toArray, List.set_cons_zero, List.set_cons_succ])
      refine wpAnyH_ready (rs := [4, 9]) (by kernel_rfl) (by simp) ?_
      refine AllReadyH.cons (o := qp3x4) rfl (fun K hK => ?_) (AllReadyH.cons (o := qp3x9) rfl (fun K hK => ?_) (AllReadyH.nil))
      · unfold qp3x4
        go_simp
        (go_at_call 74; refine (k7 _).mono ?_; rintro e wp3_3 ⟨rfl, hbp3_3⟩)
        (try go_simp)
        have hSp3_3 := below_next hSp3_2 hbp3_3
        refine hK.out _ _ hSp3_3 (fun h => ?_)
        clear h hK K hbp3_3
        (try simp only [Act.put, List.setIfInBounds_toArray, List.set_cons_zero, List.set_cons_succ])
        refine wpAnyH_ready (rs := [6, 9]) (by kernel_rfl) (by simp) ?_
        refine AllReadyH.cons (o := qp3x6) rfl (fun K hK => ?_) (AllReadyH.cons (o := qp3x9) rfl (fun K hK => ?_) (AllReadyH.nil))
        · unfold qp3x6
          go_simp
          (go_at_call 51; refine (k8 _).mono ?_; rintro e wp3_4 ⟨rfl, hbp3_4⟩)
          (try go_simp)
          have hSp3_4 := below_next hSp3_3 hbp3_4
          refine hK.out _ _ hSp3_4 (fun h => ?_)
          clear h hK K hbp3_4
          (try simp only [Act.put, List.setIfInBounds_toArray, List.set_cons_zero, List.set_cons_succ])
          refine wpAnyH_ready (rs := [8, 9]) (by kernel_rfl) (by simp) ?_
          refine AllReadyH.cons (o := qp3x8) rfl (fun K hK => ?_) (AllReadyH.cons (o := qp3x9) rfl (fun K hK => ?_) (AllReadyH.nil))
          · unfold qp3x8
            go_simp
            (go_at_call 51; refine (k9 _).mono ?_; rintro e wp3_5 ⟨rfl, hbp3_5⟩)
            (try go_simp)
            have hSp3_5 := below_next hSp3_4 hbp3_5
            refine hK.out _ _ hSp3_5 (fun h => ?_)
            clear h hK K hbp3_5
            (try simp only [Act.put, List.setIfInBounds_toArray, List.set_cons_zero, List.set_cons_succ])
            refine wpAnyH_ready (rs := [9]) (by kernel_rfl) (by simp) ?_
            refine AllReadyH.cons (o := qp3x9) rfl (fun K hK => ?_) (AllReadyH.nil)
            unfold qp3x9
            go_simp
            obtain ⟨wp3_6, gp3_6, hwp3_6, hgp3_6, hbp3_6, rp3_6⟩ := fresh4 wp3_5
            rw [hwp3_6, hgp3_6]
            have hSp3_6 := below_next hSp3_5 hbp3_6
            have Gp3_6 : Vp3_.heap.size ≤ gp3_6 := by have := hSp3_5.size; omega
            refine hK.out _ _ hSp3_6 (fun h => ?_)
            clear h hK K hbp3_6 hwp3_6 hgp3_6
            (try simp only [Act.put, List.setIfInBounds_toArray, List.set_cons_zero, List.set_cons_succ])
            refine wpAnyH_ready (rs := [10]) (by kernel_rfl) (by simp) ?_
            refine AllReadyH.cons (o := qp3x10) rfl (fun K hK => ?_) (AllReadyH.nil)
            unfold qp3x10
            rw [if_pos (by rfl)]
            refine num_store _ _ rfl gp3_6 0 x0 rfl rfl rp3_6 hSp3_6 Gp3_6 (fun wp3_7 r0 hSp3_7 far => ?_)
            refine hK.out _ _ hSp3_7 (fun h => ?_)
            clear h hK K far rp3_6
            have rp3_6 := r0
            clear r0
            (try dsimp only [Act.put])
            refine wpAnyH_done (by kernel_rfl) ?_ _
            refine NoPanic.normal ?_
            go_wp2
            go_meet
            case rel => exact ⟨gp3_6, rfl, below_next hdrew hSp3_7, Nat.le_trans hdrew.size Gp3_6, rp3_6⟩
          · unfold qp3x9
            go_simp
            obtain ⟨wp3_8, gp3_8, hwp3_8, hgp3_8, hbp3_8, rp3_8⟩ := fresh4 wp3_4
            rw [hwp3_8, hgp3_8]
            have hSp3_8 := below_next hSp3_4 hbp3_8
            have Gp3_8 : Vp3_.heap.size ≤ gp3_8 := by have := hSp3_4.size; omega
            refine hK.out _ _ hSp3_8 (fun h => ?_)
            clear h hK K hbp3_8 hwp3_8 hgp3_8
            (try simp only [Act.put, List.setIfInBounds_toArray, List.set_cons_zero, List.set_cons_succ])
            refine wpAnyH_ready (rs := [8]) (by kernel_rfl) (by simp) ?_
            refine AllReadyH.cons (o := qp3x8) rfl (fun K hK => ?_) (AllReadyH.nil)
            unfold qp3x8
            go_simp
            (go_at_call 51; refine (k9 _).mono ?_; rintro e wp3_9 ⟨rfl, hbp3_9⟩)
            (try go_simp)
            have hSp3_9 := below_next hSp3_8 hbp3_9
            replace rp3_8 := rp3_8.still hbp3_9
            refine hK.out _ _ hSp3_9 (fun h => ?_)
            clear h hK K hbp3_9
            (try simp only [Act.put, List.setIfInBounds_toArray, List.set_cons_zero, List.set_cons_succ])
            refine wpAnyH_ready (rs := [10]) (by kernel_rfl) (by simp) ?_
            refine AllReadyH.cons (o := qp3x10) rfl (fun K hK => ?_) (AllReadyH.nil)
            unfold qp3x10
            rw [if_pos (by rfl)]
            refine num_store _ _ rfl gp3_8 0 x0 rfl rfl rp3_8 hSp3_9 Gp3_8 (fun wp3_10 r0 hSp3_10 far => ?_)
            refine hK.out _ _ hSp3_10 (fun h => ?_)
            clear h hK K far rp3_8
            have rp3_8 := r0
            clear r0
            (try dsimp only [Act.put])
            refine wpAnyH_done (by kernel_rfl) ?_ _
            refine NoPanic.normal ?_
            go_wp2
            go_meet
            case rel => exact ⟨gp3_8, rfl, below_next hdrew hSp3_10, Nat.le_trans hdrew.size Gp3_8, rp3_8⟩
        · unfold qp3x9
          go_simp
          obtain ⟨wp3_11, gp3_11, hwp3_11, hgp3_11, hbp3_11, rp3_11⟩ := fresh4 wp3_3
          rw [hwp3_11, hgp3_11]
          have hSp3_11 := below_next hSp3_3 hbp3_11
          have Gp3_11 : Vp3_.heap.size ≤ gp3_11 := by have := hSp3_3.size; omega
          refine hK.out _ _ hSp3_11 (fun h => ?_)
          clear h hK K hbp3_11 hwp3_11 hgp3_11
          (try simp only [Act.put, List.setIfInBounds_toArray, List.set_cons_zero, List.set_cons_succ])
          refine wpAnyH_ready (rs := [6]) (by kernel_rfl) (by simp) ?_
          refine AllReadyH.cons (o := qp3x6) rfl (fun K hK => ?_) (AllReadyH.nil)
          unfold qp3x6
          go_simp
          (go_at_call 51; refine (k8 _).mono ?_; rintro e wp3_12 ⟨rfl, hbp3_12⟩)
          (try go_simp)
          have hSp3_12 := below_next hSp3_11 hbp3_12
          replace rp3_11 := rp3_11.still hbp3_12
          refine hK.out _ _ hSp3_12 (fun h => ?_)
          clear h hK K hbp3_12
          (try simp only [Act.put, List.setIfInBounds_toArray, List.set_cons_zero, List.set_cons_succ])
          refine wpAnyH_ready (rs := [8]) (by kernel_rfl) (by simp) ?_
          refine AllReadyH.cons (o := qp3x8) rfl (fun K hK => ?_) (AllReadyH.nil)
          unfold qp3x8
          go_simp
          (go_at_call 51; refine (k9 _).mono ?_; rintro e wp3_13 ⟨rfl, hbp3_13⟩)
          (try go_simp)
          have hSp3_13 := below_next hSp3_12 hbp3_13
          replace rp3_11 := rp3_11.still hbp3_13
          refine hK.out _ _ hSp3_13 (fun h => ?_)
          clear h hK K hbp3_13
          (try simp only [Act.put, List.setIfInBounds_toArray, List.set_cons_zero, List.set_cons_succ])
          refine wpAnyH_ready (rs := [10]) (by kernel_rfl) (by simp) ?_
          refine AllReadyH.cons (o := qp3x10) rfl (fun K hK => ?_) (AllReadyH.nil)
          unfold qp3x10
          rw [if_pos (by rfl)]
          refine num_store _ _ rfl gp3_11 0 x0 rfl rfl rp3_11 hSp3_13 Gp3_11 (fun wp3_14 r0 hSp3_14 far => ?_)
          refine hK.out _ _ hSp3_14 (fun h => ?_)
          clear h hK K far rp3_11
          have rp3_11 := r0
          clear r0
          (try dsimp only [Act.put])
          refine wpAnyH_done (by kernel_rfl) ?_ _
          refine NoPanic.normal ?_
          go_wp2
          go_meet
          case rel => exact ⟨gp3_11, rfl, below_next hdrew hSp3_14, Nat.le_trans hdrew.size Gp3_11, rp3_11⟩
      · unfold qp3x9
        go_simp
        obtain ⟨wp3_15, gp3_15, hwp3_15, hgp3_15, hbp3_15, rp3_15⟩ := fresh4 wp3_2
        rw [hwp3_15, hgp3_15]
        have hSp3_15 := below_next hSp3_2 hbp3_15
        have Gp3_15 : Vp3_.heap.size ≤ gp3_15 := by have := hSp3_2.size; omega
        refine hK.out _ _ hSp3_15 (fun h => ?_)
        clear h hK K hbp3_15 hwp3_15 hgp3_15
        (try simp only [Act.put, List.setIfInBounds_toArray, List.set_cons_zero, List.set_cons_succ])
        refine wpAnyH_ready (rs := [4]) (by kernel_rfl) (by simp) ?_
        refine AllReadyH.cons (o := qp3x4) rfl (fun K hK => ?_) (AllReadyH.nil)
        unfold qp3x4
        go_simp
        (go_at_call 74; refine (k7 _).mono ?_; rintro e wp3_16 ⟨rfl, hbp3_16⟩)
        (try go_simp)
        have hSp3_16 := below_next hSp3_15 hbp3_16
        replace rp3_15 := rp3_15.still hbp3_16
        refine hK.out _ _ hSp3_16 (fun h => ?_)
        clear h hK K hbp3_16
        (try simp only [Act.put, List.setIfInBounds_toArray, List.set_cons_zero, List.set_cons_succ])
        refine wpAnyH_ready (rs := [6]) (by kernel_rfl) (by simp) ?_
        refine AllReadyH.cons (o := qp3x6) rfl (fun K hK => ?_) (AllReadyH.nil)
        unfold qp3x6
        go_simp
        (go_at_call 51; refine (k8 _).mono ?_; rintro e wp3_17 ⟨rfl, hbp3_17⟩)
        (try go_simp)
        have hSp3_17 := below_next hSp3_16 hbp3_17
        replace rp3_15 := rp3_15.still hbp3_17
        refine hK.out _ _ hSp3_17 (fun h => ?_)
        clear h hK K hbp3_17
        (try simp only [Act.put, List.setIfInBounds_toArray, List.set_cons_zero, List.set_cons_succ])
        refine wpAnyH_ready (rs := [8]) (by kernel_rfl) (by simp) ?_
        refine AllReadyH.cons (o := qp3x8) rfl (fun K hK => ?_) (AllReadyH.nil)
        unfold qp3x8
        go_simp
        (go_at_call 51; refine (k9 _).mono ?_; rintro e wp3_18 ⟨rfl, hbp3_18⟩)
        (try go_simp)
        have hSp3_18 := below_next hSp3_17 hbp3_18
        replace rp3_15 := rp3_15.still hbp3_18
        refine hK.out _ _ hSp3_18 (fun h => ?_)
        clear h hK K hbp3_18
        (try simp only [Act.put, List.setIfInBounds_toArray, List.set_cons_zero, List.set_cons_succ])
        refine wpAnyH_ready (rs := [10]) (by kernel_rfl) (by simp) ?_
        refine AllReadyH.cons (o := qp3x10) rfl (fun K hK => ?_) (AllReadyH.nil)
        unfold qp3x10
        rw [if_pos (by rfl)]
        refine num_store _ _ rfl gp3_15 0 x0 rfl rfl rp3_15 hSp3_18 Gp3_15 (fun wp3_19 r0 hSp3_19 far => ?_)
        refine hK.out _ _ hSp3_19 (fun h => ?_)
        clear h hK K far rp3_15
        have rp3_15 := r0
        clear r0
        (try dsimp only [Act.put])
        refine wpAnyH_done (by kernel_rfl) ?_ _
        refine NoPanic.normal ?_
        go_wp2
        go_meet
        case rel => exact ⟨gp3_15, rfl, below_next hdrew hSp3_19, Nat.le_trans hdrew.size Gp3_15, rp3_15⟩
    · unfold qp3x9
      go_simp
      obtain ⟨wp3_20, gp3_20, hwp3_20, hgp3_20, hbp3_20, rp3_20⟩ := fresh4 Vp3_
      rw [hwp3_20, hgp3_20]
      have hSp3_20 := below_next hS hbp3_20
      have Gp3_20 : Vp3_.heap.size ≤ gp3_20 := by have := hS.size; omega
      refine hK.out _ _ hSp3_20 (fun h => ?_)
      clear h hK K hbp3_20 hwp3_20 hgp3_20
      (try simp only [Act.put, List.setIfInBounds_toArray, List.set_cons_zero, List.set_cons_succ])
      refine wpAnyH_ready (rs := [1]) (by kernel_rfl) (by simp) ?_
      refine AllReadyH.cons (o := qp3x1) rfl (fun K hK => ?_) (AllReadyH.nil)
      unfold qp3x1
      go_simp
      (go_at_call 73; refine (k6 _).mono ?_; rintro e wp3_21 ⟨rfl, hbp3_21⟩)
      (try go_simp)
      have hSp3_21 := below_next hSp3_20 hbp3_21
      replace rp3_20 := rp3_20.still hbp3_21
      refine hK.out _ _ hSp3_21 (fun h => ?_)
      clear h hK K hbp3_21
      (try simp only [Act.put, List.setIfInBounds_toArray, List.set_cons_zero, List.set_cons_succ])
      refine wpAnyH_ready (rs := [4]) (by kernel_rfl) (by simp) ?_
      refine AllReadyH.cons (o := qp3x4) rfl (fun K hK => ?_) (AllReadyH.nil)
      unfold qp3x4
      go_simp
      (go_at_call 74; refine (k7 _).mono ?_; rintro e wp3_22 ⟨rfl, hbp3_22⟩)
      (try go_simp)
      have hSp3_22 := below_next hSp3_21 hbp3_22
      replace rp3_20 := rp3_20.still hbp3_22
      refine hK.out _ _ hSp3_22 (fun h => ?_)
      clear h hK K hbp3_22
      (try simp only [Act.put, List.setIfInBounds_toArray, List.set_cons_zero, List.set_cons_succ])
      refine wpAnyH_ready (rs := [6]) (by kernel_rfl) (by simp) ?_
      refine AllReadyH.cons (o := qp3x6) rfl (fun K hK => ?_) (AllReadyH.nil)
      unfold qp3x6
      go_simp
      (go_at_call 51; refine (k8 _).mono ?_; rintro e wp3_23 ⟨rfl, hbp3_23⟩)
      (try go_simp)
      have hSp3_23 := below_next hSp3_22 hbp3_23
      replace rp3_20 := rp3_20.still hbp3_23
      refine hK.out _ _ hSp3_23 (fun h => ?_)
      clear h hK K hbp3_23
      (try simp only [Act.put, List.setIfInBounds_toArray, List.set_cons_zero, List.set_cons_succ])
      refine wpAnyH_ready (rs := [8]) (by kernel_rfl) (by simp) ?_
      refine AllReadyH.cons (o := qp3x8) rfl (fun K hK => ?_) (AllReadyH.nil)
      unfold qp3x8
      go_simp
      (go_at_call 51; refine (k9 _).mono ?_; rintro e wp3_24 ⟨rfl, hbp3_24⟩)
      (try go_simp)
      have hSp3_24 := below_next hSp3_23 hbp3_24
      replace rp3_20 := rp3_20.still hbp3_24
      refine hK.out _ _ hSp3_24 (fun h => ?_)
      clear h hK K hbp3_24
      (try simp only [Act.put, List.setIfInBounds_toArray, List.set_cons_zero, List.set_cons_succ])
      refine wpAnyH_ready (rs := [10]) (by kernel_rfl) (by simp) ?_
      refine AllReadyH.cons (o := qp3x10) rfl (fun K hK => ?_) (AllReadyH.nil)
      unfold qp3x10
      rw [if_pos (by rfl)]
      refine num_store _ _ rfl gp3_20 0 x0 rfl rfl rp3_20 hSp3_24 Gp3_20 (fun wp3_25 r0 hSp3_25 far => ?_)
      refine hK.out _ _ hSp3_25 (fun h => ?_)
      clear h hK K far rp3_20
      have rp3_20 := r0
      clear r0
      (try dsimp only [Act.put])
      refine wpAnyH_done (by kernel_rfl) ?_ _
      refine NoPanic.normal ?_
      go_wp2
      go_meet
      case rel => exact ⟨gp3_20, rfl, below_next hdrew hSp3_25, Nat.le_trans hdrew.size Gp3_20, rp3_20⟩
  case rest =>
  obtain ⟨g108, rfl, hb108, G108, h108⟩ := hcut
  have lt4 := h4.lt
  replace hU := hU.still hb108
  replace hV := hV.still hb108
  replace h4 := h4.still hb108
  replace h106 := h106.still hb108
  replace h107 := h107.still hb108
  replace im := im.still hb108
  obtain ⟨U3, hU3⟩ : ∃ W, W = wc := ⟨_, rfl⟩
  rw [← hU3]
  rw [← hU3] at hU hV h4 h106 h107 h108 im hb108
  replace hbW : Below w.heap.size w U3 := below_next hbW hb108
  have n4_108 : g108 ≠ g4 := by omega
  have w108 : w.heap.size ≤ g108 := Nat.le_trans (Nat.le_trans w4 (Nat.le_of_lt lt4)) G108
  clear hU3 hb108 G108 lt4
  go_upto_region 4 with (fail)
  go_cut [9] from 10 (fun s9 wc => ∃ g109, s9 = .pointer (some ⟨g109, 0, none⟩) ∧ Below U3.heap.size U3 wc ∧ U3.heap.size ≤ g109 ∧ RW wc g109 0 (c4 sq))
  case first =>
    clear im k1 k2 k3 k4 k5 k6 k7 k8 k9 k12 k13 k14 k15
    have hdrew : Below U3.heap.size U3 U3.drew := (Below.refl _ _).drew
    replace hU := hU.still hdrew
    replace hV := hV.still hdrew
    replace h4 := h4.still hdrew
    replace h106 := h106.still hdrew
    replace h107 := h107.still hdrew
    replace h108 := h108.still hdrew
    refine wp_region_noPanic ?_
    refine wp_region_held_drew (S := fun w' => Below U3.drew.heap.size U3.drew w') (by kernel_rfl) (Below.refl _ _) (fun hS => ?_)
    generalize U3.drew = Vp4_ at *
    refine wpAnyH_take (i := 0) (oi := { dst := some 31, op := Op.load 28 (Operand.tmp 8), type := 28, pos := "number.go:91", after := #[], guard := none }) (v := numV x0) rfl (by kernel_rfl) (by kernel_rfl) (by kernel_rfl) (fun _ _ _ h => h) (yieldsIf_load_mid (by rfl) 28 _ rfl g108 0 rfl (c4 x0) _ (fun _ h => (h108.still h).range) Tryd.underlying28 rfl info4) hS ?_
    (try simp only [Act.put, List.setIfInBounds_toArray, List.set_cons_zero, List.set_cons_succ])
    refine wpAnyH_take (i := 1) (oi := { dst := some 32, op := Op.load 28 (Operand.tmp 8), type := 28, pos := "number.go:91", after := #[], guard := none }) (v := numV x0) rfl (by kernel_rfl) (by kernel_rfl) (by kernel_rfl) (fun _ _ _ h => h) (yieldsIf_load_mid (by rfl) 28 _ rfl g108 0 rfl (c4 x0) _ (fun _ h => (h108.still h).range) Tryd.underlying28 rfl info4) hS ?_
    (try simp only [Act.put, List.setIfInBounds_toArray, List.set_cons_zero, List.set_cons_succ])
    refine wpAnyH_take (i := 3) (oi := { dst := some 34, op := Op.load 28 (Operand.tmp 3), type := 28, pos := "number.go:91", after := #[], guard := none }) (v := numV v) rfl (by kernel_rfl) (by kernel_rfl) (by kernel_rfl) (fun _ _ _ h => h) (yieldsIf_load_mid (by rfl) 28 _ rfl g3 0 rfl (c4 v) _ (fun _ h => (hV.still h).range) Tryd.underlying28 rfl info4) hS ?_
    (try simp only [Act.put, List.setIfInBounds_toArray, List.set_cons_zero, List.set_cons_succ])
    refine wpAnyH_ready (rs := [2, 5]) (by kernel_rfl) (by simp) ?_
    refine AllReadyH.cons (o := qp4x2) rfl (fun K hK => ?_) (AllReadyH.cons (o := qp4x5) rfl (fun K hK => ?_) (AllReadyH.nil))
    · unfold qp4x2
      go_simp
      (go_at_call 51; refine (k10 _).mono ?_; rintro e wp4_1 ⟨rfl, hbp4_1⟩)
      (try go_simp)
      have hSp4_1 := below_next hS hbp4_1
      refine hK.out _ _ hSp4_1 (fun h => ?_)
      clear h hK K hbp4_1
      (try simp only [Act.put, List.setIfInBounds_toArray, List.set_cons_zero, List.set_cons_succ])
      refine wpAnyH_ready (rs := [4, 5]) (by kernel_rfl) (by simp) ?_
      refine AllReadyH.cons (o := qp4x4) rfl (fun K hK => ?_) (AllReadyH.cons (o := qp4x5) rfl (fun K hK => ?_) (AllReadyH.nil))
      · unfold qp4x4
        go_simp
        (go_at_call 51; refine (k11 _).mono ?_; rintro e wp4_2 ⟨rfl, hbp4_2⟩)
        (try go_simp)
        have hSp4_2 := below_next hSp4_1 hbp4_2
        refine hK.out _ _ hSp4_2 (fun h => ?_)
        clear h hK K hbp4_2
        (try simp only [Act.put, List.setIfInBounds_toArray, List.set_cons_zero, List.set_cons_succ])
        refine wpAnyH_ready (rs := [5]) (by kernel_rfl) (by simp) ?_
        refine AllReadyH.cons (o := qp4x5) rfl (fun K hK => ?_) (AllReadyH.nil)
        unfold qp4x5
        go_simp
        obtain ⟨wp4_3, gp4_3, hwp4_3, hgp4_3, hbp4_3, rp4_3⟩ := fresh4 wp4_2
        rw [hwp4_3, hgp4_3]
        have hSp4_3 := below_next hSp4_2 hbp4_3
        have Gp4_3 : Vp4_.heap.size ≤ gp4_3 := by have := hSp4_2.size; omega
        refine hK.out _ _ hSp4_3 (fun h => ?_)
        clear h hK K hbp4_3 hwp4_3 hgp4_3
        (try simp only [Act.put, List.setIfInBounds_toArray, List.set_cons_zero, List.set_cons_succ])
        refine wpAnyH_ready (rs := [6]) (by kernel_rfl) (by simp) ?_
        refine AllReadyH.cons (o := qp4x6) rfl (fun K hK => ?_) (AllReadyH.nil)
        unfold qp4x6
        rw [if_pos (by rfl)]
        refine num_store _ _ rfl gp4_3 0 sq rfl rfl rp4_3 hSp4_3 Gp4_3 (fun wp4_4 r0 hSp4_4 far => ?_)
        refine hK.out _ _ hSp4_4 (fun h => ?_)
        clear h hK K far rp4_3
        have rp4_3 := r0
        clear r0
        (try dsimp only [Act.put])
        refine wpAnyH_done (by kernel_rfl) ?_ _
        refine NoPanic.normal ?_
        go_wp2
        go_meet
        case rel => exact ⟨gp4_3, rfl, below_next hdrew hSp4_4, Nat.le_trans hdrew.size Gp4_3, rp4_3⟩
      · unfold qp4x5
        go_simp
        obtain ⟨wp4_5, gp4_5, hwp4_5, hgp4_5, hbp4_5, rp4_5⟩ := fresh4 wp4_1
        rw [hwp4_5, hgp4_5]
        have hSp4_5 := below_next hSp4_1 hbp4_5
        have Gp4_5 : Vp4_.heap.size ≤ gp4_5 := by have := hSp4_1.size; omega
        refine hK.out _ _ hSp4_5 (fun h => ?_)
        clear h hK K hbp4_5 hwp4_5 hgp4_5
        (try simp only [Act.put, List.setIfInBounds_toArray, List.set_cons_zero, List.set_cons_succ])
        refine wpAnyH_ready (rs := [4]) (by kernel_rfl) (by simp) ?_
        refine AllReadyH.cons (o := qp4x4) rfl (fun K hK => ?_) (AllReadyH.nil)
        unfold qp4x4
        go_simp
        (go_at_call 51; refine (k11 _).mono ?_; rintro e wp4_6 ⟨rfl, hbp4_6⟩)
        (try go_simp)
        have hSp4_6 := below_next hSp4_5 hbp4_6
        replace rp4_5 := rp4_5.still hbp4_6
        refine hK.out _ _ hSp4_6 (fun h => ?_)
        clear h hK K hbp4_6
        (try simp only [Act.put, List.setIfInBounds_toArray, List.set_cons_zero, List.set_cons_succ])
        refine wpAnyH_ready (rs := [6]) (by kernel_rfl) (by simp) ?_
        refine AllReadyH.cons (o := qp4x6) rfl (fun K hK => ?_) (AllReadyH.nil)
        unfold qp4x6
        rw [if_pos (by rfl)]
        refine num_store _ _ rfl gp4_5 0 sq rfl rfl rp4_5 hSp4_6 Gp4_5 (fun wp4_7 r0 hSp4_7 far => ?_)
        refine hK.out _ _ hSp4_7 (fun h => ?_)
        clear h hK K far rp4_5
        have rp4_5 := r0
        clear r0
        (try dsimp only [Act.put])
        refine wpAnyH_done (by kernel_rfl) ?_ _
        refine NoPanic.normal ?_
        go_wp2
        go_meet
        case rel => exact ⟨gp4_5, rfl, below_next hdrew hSp4_7, Nat.le_trans hdrew.size Gp4_5, rp4_5⟩
    · unfold qp4x5
      go_simp
      obtain ⟨wp4_8, gp4_8, hwp4_8, hgp4_8, hbp4_8, rp4_8⟩ := fresh4 Vp4_
      rw [hwp4_8, hgp4_8]
      have hSp4_8 := below_next hS hbp4_8
      have Gp4_8 : Vp4_.heap.size ≤ gp4_8 := by have := hS.size; omega
      refine hK.out _ _ hSp4_8 (fun h => ?_)
      clear h hK K hbp4_8 hwp4_8 hgp4_8
      (try simp only [Act.put, List.setIfInBounds_toArray, List.set_cons_zero, List.set_cons_succ])
      refine wpAnyH_ready (rs := [2]) (by kernel_rfl) (by simp) ?_
      refine AllReadyH.cons (o := qp4x2) rfl (fun K hK => ?_) (AllReadyH.nil)
      unfold qp4x2
      go_simp
      (go_at_call 51; refine (k10 _).mono ?_; rintro e wp4_9 ⟨rfl, hbp4_9⟩)
      (try go_simp)
      have hSp4_9 := below_next hSp4_8 hbp4_9
      replace rp4_8 := rp4_8.still hbp4_9
      refine hK.out _ _ hSp4_9 (fun h => ?_)
      clear h hK K hbp4_9
      (try simp only [Act.put, List.setIfInBounds_toArray, List.set_cons_zero, List.set_cons_succ])
      refine wpAnyH_ready (rs := [4]) (by kernel_rfl) (by simp) ?_
      refine AllReadyH.cons (o := qp4x4) rfl (fun K hK => ?_) (AllReadyH.nil)
      unfold qp4x4
      go_simp
      (go_at_call 51; refine (k11 _).mono ?_; rintro e wp4_10 ⟨rfl, hbp4_10⟩)
      (try go_simp)
      have hSp4_10 := below_next hSp4_9 hbp4_10
      replace rp4_8 := rp4_8.still hbp4_10
      refine hK.out _ _ hSp4_10 (fun h => ?_)
      clear h hK K hbp4_10
      (try simp only [Act.put, List.setIfInBounds_toArray, List.set_cons_zero, List.set_cons_succ])
      refine wpAnyH_ready (rs := [6]) (by kernel_rfl) (by simp) ?_
      refine AllReadyH.cons (o := qp4x6) rfl (fun K hK => ?_) (AllReadyH.nil)
      unfold qp4x6
      rw [if_pos (by rfl)]
      refine num_store _ _ rfl gp4_8 0 sq rfl rfl rp4_8 hSp4_10 Gp4_8 (fun wp4_11 r0 hSp4_11 far => ?_)
      refine hK.out _ _ hSp4_11 (fun h => ?_)
      clear h hK K far rp4_8
      have rp4_8 := r0
      clear r0
      (try dsimp only [Act.put])
      refine wpAnyH_done (by kernel_rfl) ?_ _
      refine NoPanic.normal ?_
      go_wp2
      go_meet
      case rel => exact ⟨gp4_8, rfl, below_next hdrew hSp4_11, Nat.le_trans hdrew.size Gp4_8, rp4_8⟩
  case rest =>
  obtain ⟨g109, rfl, hb109, G109, h109⟩ := hcut
  have lt4 := h4.lt
  replace hU := hU.still hb109
  replace hV := hV.still hb109
  replace h4 := h4.still hb109
  replace h106 := h106.still hb109
  replace h107 := h107.still hb109
  replace h108 := h108.still hb109
  replace im := im.still hb109
  obtain ⟨U4, hU4⟩ : ∃ W, W = wc := ⟨_, rfl⟩
  rw [← hU4]
  rw [← hU4] at hU hV h4 h106 h107 h108 h109 im hb109
  replace hbW : Below w.heap.size w U4 := below_next hbW hb109
  have n4_109 : g109 ≠ g4 := by omega
  clear hU4 hb109 G109 lt4
  go_upto_region 5 with (fail)
  clear k1 k2 k3 k4 k5 k6 k7 k8 k9 k10 k11 hV h106 h107
  have sqr := h109.range
  have ur := hU.range
  by_cases h1 : sq = u
  · have Hr : Hid (r = evn x0) := Hid.mk' (by rw [Hr0.out, if_pos h1])
    have Hk : Hid (ok = true) := Hid.mk' (by rw [Hk0.out, if_pos h1])
    clear Hr0 Hk0
    have d1 : decide (sq = u) = true := decide_eq_true h1
    clear h1 k12 k13
    go_upto_region 9 with (first
      | (refine wpList_load_mid rfl 28 _ rfl g109 0 rfl (c4 sq) _ sqr Tryd.underlying28 rfl info4 ?_)
      | (refine wpList_load_mid rfl 28 _ rfl g2 0 rfl (c4 u) _ ur Tryd.underlying28 rfl info4 ?_)
      | (refine wpList_neq rfl _ _ _ rfl sq u hsq hu rfl rfl true d1 ?_))
    clear sqr ur h109 hU
    have ko : ∀ W, Calls Tryd.prog 90 #[.agg (c4 x0).toArray] W fun e w' => e = .returned (.bool (x0 % 2 == 1)) ∧ Below W.heap.size W w' := fun W => k14 W x0 hx0
    have km : ∀ W, Calls Tryd.prog 35 #[.agg (c4 0).toArray, .agg (c4 x0).toArray] W fun e w' => e = .returned (.agg (c4 ((0 + pF - x0) % pF)).toArray) ∧ Below W.heap.size W w' := fun W => k15 W x0 hx0
    clear k14 k15
    cases hpar : (x0 % 2 == 1) with
    | false =>
      rw [hpar] at ko
      have Hr2 : Hid (r = x0) := Hid.mk' (by rw [Hr.out, evn_even hpar])
      clear km hpar Hr
      go_wp2_with (first
        | (refine wpList_load_mid rfl 28 _ rfl g108 0 rfl (c4 x0) _ h108.range Tryd.underlying28 rfl info4 ?_)
        | (go_at_call 90; refine (ko _).mono ?_; clear ko; rintro e w9 ⟨rfl, hb9⟩; (replace h108 := h108.still hb9); (replace h4 := h4.still hb9); (replace hbW := below_next hbW hb9); clear hb9; (have t4 : w9.there g4 0 (c4 x0).toArray.size := h4.there))
        | (with_reducible (refine id (?_ : wpList _ _ _ _ _ _)); refine wpList_store_mid rfl 28 _ _ rfl g4 0 (c4 x0).toArray rfl rfl t4 (info4a x0) (one4 x0) ?_))
      (try simp only [Exit.inBlock, Exit.then])
      exact bodyPost_ret (results_cell_tmp Tryd.results83 _ _ g4 0 (c4 x0) _ rfl (h4.stored (c4 x0) rfl).range Tryd.underlying28 rfl info4) rfl ⟨by rw [Hr2.out, Hk.out]; rfl, below_setCells w4 _ _ _ hbW⟩
    | true =>
      rw [hpar] at ko
      obtain ⟨y, hy⟩ : ∃ y, (0 + pF - x0) % pF = y := ⟨_, rfl⟩
      rw [hy] at km
      have Hr2 : Hid (r = y) := Hid.mk' (by rw [Hr.out, evn_odd hpar, hy])
      clear hpar hy Hr
      go_wp2_with (first
        | (refine wpList_load_mid rfl 28 _ rfl g108 0 rfl (c4 x0) _ h108.range Tryd.underlying28 rfl info4 ?_)
        | (refine wpList_load_mid rfl 28 _ rfl g108 0 rfl (c4 y) _ h108.range Tryd.underlying28 rfl info4 ?_)
        | (refine wpList_build0 rfl 28 rfl (c4 0).toArray built0 ?_)
        | (go_at_call 90; refine (ko _).mono ?_; clear ko; rintro e w9 ⟨rfl, hb9⟩; (replace h108 := h108.still hb9); (replace h4 := h4.still hb9); (replace hbW := below_next hbW hb9); clear hb9)
        | (go_at_call 35; refine (km _).mono ?_; clear km; rintro e w10 ⟨rfl, hb10⟩; (replace h108 := h108.still hb10); (replace h4 := h4.still hb10); (replace hbW := below_next hbW hb10); clear hb10; (have t8 : w10.there g108 0 (c4 y).toArray.size := h108.there); (obtain ⟨V8, hV8⟩ : ∃ V, V = w10.setCells g108 0 (c4 y) := ⟨_, rfl⟩); (replace h108 := h108.stored (c4 y) rfl); (replace h4 := h4.far g108 0 (c4 y) (.inl n4_108.symm)); (replace hbW := below_setCells w108 (c4 y) 0 _ hbW); rw [← hV8] at h108 h4 hbW; (have H8 := Hid.mk' hV8); clear hV8; (have t4 : V8.there g4 0 (c4 y).toArray.size := h4.there))
        | (with_reducible (refine id (?_ : wpList _ _ _ _ _ _)); refine wpList_store_mid rfl 28 _ _ rfl g108 0 (c4 y).toArray rfl rfl t8 (info4a y) (one4 y) ?_; rw [List.toList_toArray, ← H8.out]; clear t8)
        | (with_reducible (refine id (?_ : wpList _ _ _ _ _ _)); refine wpList_store_mid rfl 28 _ _ rfl g4 0 (c4 y).toArray rfl rfl t4 (info4a y) (one4 y) ?_))
      (try simp only [Exit.inBlock, Exit.then])
      exact bodyPost_ret (results_cell_tmp Tryd.results83 _ _ g4 0 (c4 y) _ rfl (h4.stored (c4 y) rfl).range Tryd.underlying28 rfl info4) rfl ⟨by rw [Hr2.out, Hk.out]; rfl, below_setCells w4 _ _ _ hbW⟩
  · have Hr1 : Hid (r = if sq = nu then evn xi else 0) := Hid.mk' (by rw [Hr0.out, if_neg h1])
    have Hk1 : Hid (ok = decide (sq = nu)) := Hid.mk' (by rw [Hk0.out, if_neg h1])
    clear Hr0 Hk0
    have d1 : decide (sq = u) = false := decide_eq_false h1
    clear h1
    go_upto_region 6 with (first
      | (refine wpList_load_mid rfl 28 _ rfl g109 0 rfl (c4 sq) _ sqr Tryd.underlying28 rfl info4 ?_)
      | (refine wpList_load_mid rfl 28 _ rfl g2 0 rfl (c4 u) _ ur Tryd.underlying28 rfl info4 ?_)
      | (refine wpList_neq rfl _ _ _ rfl sq u hsq hu rfl rfl false d1 ?_))
    clear sqr ur d1
    obtain ⟨z, hz⟩ : ∃ z, decide (sq = nu) = z := ⟨_, rfl⟩
    have Hk : Hid (ok = z) := Hid.mk' (by rw [Hk1.out, hz])
    clear Hk1
    (try simp only [Act.put, List.setIfInBounds_toArray, List.set_cons_zero, List.set_cons_succ, Bool.not_false])
    go_cut [43] from 10 (fun s43 wc => s43 = .bool (!z) ∧ Below U4.heap.size U4 wc)
    case first =>
      clear k13 k14 k15 im
      have hdrew : Below U4.heap.size U4 U4.drew := (Below.refl _ _).drew
      replace hU := hU.still hdrew
      replace h109 := h109.still hdrew
      refine wp_region_noPanic ?_
      refine wp_region_held_drew (S := fun w' => Below U4.drew.heap.size U4.drew w') (by kernel_rfl) (Below.refl _ _) (fun hS => ?_)
      generalize U4.drew = Vp6_ at *
      refine wpAnyH_take (i := 0) (oi := { dst := some 39, op := Op.load 28 (Operand.tmp 9), type := 28, pos := "number.go:93", after := #[], guard := none }) (v := numV sq) rfl (by kernel_rfl) (by kernel_rfl) (by kernel_rfl) (fun _ _ _ h => h) (yieldsIf_load_mid (by rfl) 28 _ rfl g109 0 rfl (c4 sq) _ (fun _ h => (h109.still h).range) Tryd.underlying28 rfl info4) hS ?_
      (try simp only [Act.put, List.setIfInBounds_toArray, List.set_cons_zero, List.set_cons_succ])
      refine wpAnyH_take (i := 1) (oi := { dst := some 40, op := Op.build 28 #[], type := 28, pos := "number.go:93", after := #[], guard := none }) (v := numV 0) rfl (by kernel_rfl) (by kernel_rfl) (by kernel_rfl) (fun _ _ _ h => h) (yields_build0 (by rfl) 28 rfl _ built0) hS ?_
      (try simp only [Act.put, List.setIfInBounds_toArray, List.set_cons_zero, List.set_cons_succ])
      refine wpAnyH_take (i := 2) (oi := { dst := some 41, op := Op.load 28 (Operand.tmp 2), type := 28, pos := "number.go:93", after := #[], guard := none }) (v := numV u) rfl (by kernel_rfl) (by kernel_rfl) (by kernel_rfl) (fun _ _ _ h => h) (yieldsIf_load_mid (by rfl) 28 _ rfl g2 0 rfl (c4 u) _ (fun _ h => (hU.still h).range) Tryd.underlying28 rfl info4) hS ?_
      (try simp only [Act.put, List.setIfInBounds_toArray, List.set_cons_zero, List.set_cons_succ])
      refine wpAnyH_ready (rs := [3]) (by kernel_rfl) (by simp) ?_
      refine AllReadyH.cons (o := qp6x3) rfl (fun K hK => ?_) (AllReadyH.nil)
      unfold qp6x3
      go_simp
      (go_at_call 35; refine (k12 _).mono ?_; rintro e wp6_1 ⟨rfl, hbp6_1⟩)
      (try go_simp)
      have hSp6_1 := below_next hS hbp6_1
      refine hK.out _ _ hSp6_1 (fun h => ?_)
      clear h hK K hbp6_1
      (try simp only [Act.put, List.setIfInBounds_toArray, List.set_cons_zero, List.set_cons_succ])
      refine wpAnyH_take (i := 4) (oi := { dst := some 43, op := Op.binOp BinOp.neq 28 (Operand.tmp 39) (Operand.tmp 42) 28, type := 4, pos := "number.go:93", after := #[{ on := 0, ground := Ground.data }, { on := 3, ground := Ground.data }], guard := none }) (v := .bool (!z)) rfl (by kernel_rfl) (by kernel_rfl) (by kernel_rfl) (fun _ _ _ h => h) (yields_neq (by rfl) _ _ _ rfl sq nu hsq hnu rfl rfl z hz) hSp6_1 ?_
      (try simp only [Act.put, List.setIfInBounds_toArray, List.set_cons_zero, List.set_cons_succ])
      refine wpAnyH_done (by kernel_rfl) ?_ _
      refine NoPanic.normal ?_
      go_wp2
      go_meet
      case rel => exact ⟨rfl, below_next hdrew hSp6_1⟩
    case rest =>
    obtain ⟨rfl, hb6⟩ := hcut
    replace h108 := h108.still hb6
    replace h4 := h4.still hb6
    replace im := im.still hb6
    replace hbW := below_next hbW hb6
    clear hb6 h109 hU k12
    cases z with
    | false =>
      have Hr : Hid (r = 0) := Hid.mk' (by rw [Hr1.out, if_neg (of_decide_eq_false hz)])
      clear Hr1
      have t4 : wc.there g4 0 (c4 0).toArray.size := h4.there
      clear hz k13 k14 k15
      go_wp2_with (first
        | (refine wpList_build0 rfl 28 rfl (c4 0).toArray built0 ?_)
        | (with_reducible (refine id (?_ : wpList _ _ _ _ _ _)); refine wpList_store_mid rfl 28 _ _ rfl g4 0 (c4 0).toArray rfl rfl t4 (info4a 0) (one4 0) ?_))
      (try simp only [Exit.inBlock, Exit.then])
      exact bodyPost_ret (results_cell_tmp Tryd.results83 _ _ g4 0 (c4 0) _ rfl (h4.stored (c4 0) rfl).range Tryd.underlying28 rfl info4) rfl ⟨by rw [Hr.out, Hk.out]; rfl, below_setCells w4 _ _ _ hbW⟩
    | true =>
      have Hr : Hid (r = evn xi) := Hid.mk' (by rw [Hr1.out, if_pos (of_decide_eq_true hz)])
      clear hz Hr1
      have imr := im.range
      replace k13 : ∀ W, Calls Tryd.prog 51 #[.agg (c4 x0).toArray, .agg (c4 iM).toArray] W fun e w' => e = .returned (.agg (c4 xi).toArray) ∧ Below W.heap.size W w' := k13
      go_upto_region 9 with (first
        | (refine wpList_load_mid rfl 28 _ rfl g108 0 rfl (c4 x0) _ h108.range Tryd.underlying28 rfl info4 ?_)
        | (refine wpList_load_mid rfl 26 _ rfl 1 0 rfl (c4 iM) _ imr Tryd.underlying26 rfl infoLimbs ?_)
        | (refine wpList_build1 rfl 28 0 _ rfl (.agg (c4 iM).toArray) rfl (c4 iM).toArray (built1 iM) ?_)
        | (go_at_call 51; refine (k13 _).mono ?_; clear k13 imr; rintro e w8 ⟨rfl, hb8⟩; (replace h108 := h108.still hb8); (replace h4 := h4.still hb8); (replace hbW := below_next hbW hb8); clear hb8 im; (have t8 : w8.there g108 0 (c4 xi).toArray.size := h108.there); (obtain ⟨V7, hV7⟩ : ∃ V, V = w8.setCells g108 0 (c4 xi) := ⟨_, rfl⟩); (replace h108 := h108.stored (c4 xi) rfl); (replace h4 := h4.far g108 0 (c4 xi) (.inl n4_108.symm)); (replace hbW := below_setCells w108 (c4 xi) 0 _ hbW); rw [← hV7] at h108 h4 hbW; (have H7 := Hid.mk' hV7); clear hV7)
        | (with_reducible (refine id (?_ : wpList _ _ _ _ _ _)); refine wpList_store_mid rfl 28 _ _ rfl g108 0 (c4 xi).toArray rfl rfl t8 (info4a xi) (one4 xi) ?_; rw [List.toList_toArray, ← H7.out]; clear t8))
      have ko : ∀ W, Calls Tryd.prog 90 #[.agg (c4 xi).toArray] W fun e w' => e = .returned (.bool (xi % 2 == 1)) ∧ Below W.heap.size W w' := fun W => k14 W xi hxi
      have km : ∀ W, Calls Tryd.prog 35 #[.agg (c4 0).toArray, .agg (c4 xi).toArray] W fun e w' => e = .returned (.agg (c4 ((0 + pF - xi) % pF)).toArray) ∧ Below W.heap.size W w' := fun W => k15 W xi hxi
      clear k14 k15
      cases hpar : (xi % 2 == 1) with
      | false =>
        rw [hpar] at ko
        have Hr2 : Hid (r = xi) := Hid.mk' (by rw [Hr.out, evn_even hpar])
        clear km hpar Hr
        go_wp2_with (first
          | (refine wpList_load_mid rfl 28 _ rfl g108 0 rfl (c4 xi) _ h108.range Tryd.underlying28 rfl info4 ?_)
          | (go_at_call 90; refine (ko _).mono ?_; clear ko; rintro e w9 ⟨rfl, hb9⟩; (replace h108 := h108.still hb9); (replace h4 := h4.still hb9); (replace hbW := below_next hbW hb9); clear hb9; (have t4 : w9.there g4 0 (c4 xi).toArray.size := h4.there))
          | (with_reducible (refine id (?_ : wpList _ _ _ _ _ _)); refine wpList_store_mid rfl 28 _ _ rfl g4 0 (c4 xi).toArray rfl rfl t4 (info4a xi) (one4 xi) ?_))
        (try simp only [Exit.inBlock, Exit.then])
        exact bodyPost_ret (results_cell_tmp Tryd.results83 _ _ g4 0 (c4 xi) _ rfl (h4.stored (c4 xi) rfl).range Tryd.underlying28 rfl info4) rfl ⟨by rw [Hr2.out, Hk.out]; rfl, below_setCells w4 _ _ _ hbW⟩
      | true =>
        rw [hpar] at ko
        obtain ⟨y, hy⟩ : ∃ y, (0 + pF - xi) % pF = y := ⟨_, rfl⟩
        rw [hy] at km
        have Hr2 : Hid (r = y) := Hid.mk' (by rw [Hr.out, evn_odd hpar, hy])
        clear hpar hy Hr
        go_wp2_with (first
          | (refine wpList_load_mid rfl 28 _ rfl g108 0 rfl (c4 xi) _ h108.range Tryd.underlying28 rfl info4 ?_)
          | (refine wpList_load_mid rfl 28 _ rfl g108 0 rfl (c4 y) _ h108.range Tryd.underlying28 rfl info4 ?_)
          | (refine wpList_build0 rfl 28 rfl (c4 0).toArray built0 ?_)
          | (go_at_call 90; refine (ko _).mono ?_; clear ko; rintro e w9 ⟨rfl, hb9⟩; (replace h108 := h108.still hb9); (replace h4 := h4.still hb9); (replace hbW := below_next hbW hb9); clear hb9)
          | (go_at_call 35; refine (km _).mono ?_; clear km; rintro e w10 ⟨rfl, hb10⟩; (replace h108 := h108.still hb10); (replace h4 := h4.still hb10); (replace hbW := below_next hbW hb10); clear hb10; (have t8 : w10.there g108 0 (c4 y).toArray.size := h108.there); (obtain ⟨V8, hV8⟩ : ∃ V, V = w10.setCells g108 0 (c4 y) := ⟨_, rfl⟩); (replace h108 := h108.stored (c4 y) rfl); (replace h4 := h4.far g108 0 (c4 y) (.inl n4_108.symm)); (replace hbW := below_setCells w108 (c4 y) 0 _ hbW); rw [← hV8] at h108 h4 hbW; (have H8 := Hid.mk' hV8); clear hV8; (have t4 : V8.there g4 0 (c4 y).toArray.size := h4.there))
          | (with_reducible (refine id (?_ : wpList _ _ _ _ _ _)); refine wpList_store_mid rfl 28 _ _ rfl g108 0 (c4 y).toArray rfl rfl t8 (info4a y) (one4 y) ?_; rw [List.toList_toArray, ← H8.out]; clear t8)
          | (with_reducible (refine id (?_ : wpList _ _ _ _ _ _)); refine wpList_store_mid rfl 28 _ _ rfl g4 0 (c4 y).toArray rfl rfl t4 (info4a y) (one4 y) ?_))
        (try simp only [Exit.inBlock, Exit.then])
        exact bodyPost_ret (results_cell_tmp Tryd.results83 _ _ g4 0 (c4 y) _ rfl (h4.stored (c4 y) rfl).range Tryd.underlying28 rfl info4) rfl ⟨by rw [Hr2.out, Hk.out]; rfl, below_setCells w4 _ _ _ hbW⟩
end Go.Proofs.YteekjcfbnoakgaaDoor
namespace Go.Proofs.YteekjcfbnoakgaaDoor
open Go.RowKit
theorem lw0_mod (n : Nat) : lw n 0 % 2 = n % 2 := by unfold lw; simp only [Nat.pow_zero, Nat.div_one]; omega
theorem ofInt_w64 (a : Nat) (ha : a < 18446744073709551616) : (BitVec.ofInt 64 (a : Int)).toNat = a := by
  rw [BitVec.toNat_ofInt]
  omega
theorem u64_and1 (a : Nat) (ha : a < 18446744073709551616) : bits .and .u64 (a : Int) 1 = ((a % 2 : Nat) : Int) := by
  have hx : a &&& 1 ≤ a := Nat.and_le_left
  show IntKind.u64.wrap ((BitVec.ofInt 64 (a : Int) &&& BitVec.ofInt 64 ((1 : Nat) : Int)).toNat : Int) = _
  rw [BitVec.toNat_and, ofInt_w64 a ha, ofInt_w64 1 (by decide), IntKind.wrap_u64, ← Nat.and_one_is_mod]
  omega
set_option maxRecDepth 20000 in
theorem odd_any (n : Nat) (w : World) : Calls Tryd.prog 90 #[numV n] w fun e w' => e = .returned (.bool (n % 2 == 1)) ∧ Below w.heap.size w w' := by
  have e1 := u64_and1 (lw n 0) (lw_lt n 0)
  rw [lw0_mod] at e1
  obtain ⟨z, hz⟩ : ∃ z, z = (n % 2 == 1) := ⟨_, rfl⟩
  rw [← hz]
  unfold numV
  go_enter Tryd.func90, Tryd.ntmps90
  go_wp2
  go_ret
  refine ⟨?_, (Below.refl _ _).alloc (Nat.le_refl _) _⟩
  simp [hz]
  rcases Nat.mod_two_eq_zero_or_one n with h | h
  · have h2 : (n : Int) % 2 = 0 := by omega
    rw [h, h2]; rfl
  · have h2 : (n : Int) % 2 = 1 := by omega
    rw [h, h2]; rfl
/-- The exponent (p - 5) / 8. -/
def kP : Nat := 7237005577332262213973186563042994240829374041602535252466099000494570602493
theorem kP_eq : 8 * kP + 5 = pF := by decide
theorem rootq_any (u v : Nat) (hu : u < pF) (hv : v < pF) (w : World) (im : IM w) :
    Calls Tryd.prog 83 #[numV u, numV v] w fun e w' => e = .returned (.tuple #[numV ((rootP kP u v).getD 0), .bool (rootP kP u v).isSome]) ∧ Below w.heap.size w w' := by
  have hbs : ∀ b : Nat, b < pF → b ^ 1 % pF = b := fun b h => by rw [Nat.pow_one, Nat.mod_eq_of_lt h]
  have hl : ∀ a : Nat, a % pF < pF := fun a => Nat.mod_lt _ pF_pos
  obtain ⟨E, hE⟩ : ∃ E : Nat, 1809251394333065553493296640760748560207343510400633813116524750123642650623 = E := ⟨_, rfl⟩
  obtain ⟨kk, hkk⟩ : ∃ kk, kP = kk := ⟨_, rfl⟩
  have hsum : 1 + E * 2 ^ 2 = kk := by rw [← hE, ← hkk]; decide
  obtain ⟨v2, hv2⟩ : ∃ x, x = v * v % pF := ⟨_, rfl⟩
  obtain ⟨v3, hv3⟩ : ∃ x, x = v2 * v % pF := ⟨_, rfl⟩
  obtain ⟨a1, ha1⟩ : ∃ x, x = u * v3 % pF := ⟨_, rfl⟩
  obtain ⟨a2, ha2⟩ : ∃ x, x = a1 * v3 % pF := ⟨_, rfl⟩
  obtain ⟨b, hb⟩ : ∃ x, x = a2 * v % pF := ⟨_, rfl⟩
  obtain ⟨o, ho⟩ : ∃ x, x = b ^ E % pF := ⟨_, rfl⟩
  obtain ⟨t, ht⟩ : ∃ x, x = b ^ kk % pF := ⟨_, rfl⟩
  obtain ⟨t2, ht2⟩ : ∃ x, x = t * u % pF := ⟨_, rfl⟩
  obtain ⟨x0, hx0⟩ : ∃ x, x = t2 * v3 % pF := ⟨_, rfl⟩
  obtain ⟨xx, hxx⟩ : ∃ x, x = x0 * x0 % pF := ⟨_, rfl⟩
  obtain ⟨sq, hsq⟩ : ∃ x, x = xx * v % pF := ⟨_, rfl⟩
  obtain ⟨nu, hnu⟩ : ∃ x, x = (0 + pF - u) % pF := ⟨_, rfl⟩
  obtain ⟨xi, hxi⟩ : ∃ x, x = x0 * iM % pF := ⟨_, rfl⟩
  have lv2 : v2 < pF := by rw [hv2]; exact hl _
  have lv3 : v3 < pF := by rw [hv3]; exact hl _
  have la1 : a1 < pF := by rw [ha1]; exact hl _
  have la2 : a2 < pF := by rw [ha2]; exact hl _
  have lb : b < pF := by rw [hb]; exact hl _
  have lt : t < pF := by rw [ht]; exact hl _
  have lt2 : t2 < pF := by rw [ht2]; exact hl _
  have lx0 : x0 < pF := by rw [hx0]; exact hl _
  have lxx : xx < pF := by rw [hxx]; exact hl _
  have lsq : sq < pF := by rw [hsq]; exact hl _
  have lnu : nu < pF := by rw [hnu]; exact hl _
  have lxi : xi < pF := by rw [hxi]; exact hl _
  have hX : rootX kk u v = x0 := by
    unfold rootX
    rw [← hv2, ← hv3, ← ha1, ← ha2, ← hb, ← ht, ← ht2, ← hx0]
  have h := rootq_raw u v v2 v3 a1 a2 b o t t2 x0 xx sq nu xi hu lsq lnu lx0 lxi
    (fun W => by rw [hv2]; exact times_any v v hv hv W) (fun W => by rw [hv3]; exact times_any v2 v lv2 hv W) (fun W => by rw [ha1]; exact times_any u v3 hu lv3 W) (fun W => by rw [ha2]; exact times_any a1 v3 la1 lv3 W) (fun W => by rw [hb]; exact times_any a2 v la2 hv W)
    (fun W => by
      have h := ones250_any b W
      rw [hbs _ lb, hE, ← ho] at h
      exact h)
    (fun W => by
      have h := then_pow b E 1 2 kk hsum (by decide) W
      rw [hbs _ lb, ← ho, ← ht] at h
      exact h)
    (fun W => by rw [ht2]; exact times_any t u lt hu W) (fun W => by rw [hx0]; exact times_any t2 v3 lt2 lv3 W) (fun W => by rw [hxx]; exact times_any x0 x0 lx0 lx0 W) (fun W => by rw [hsq]; exact times_any xx v lxx hv W)
    (fun W => by rw [hnu]; exact minus_any 0 u (by decide) hu W) (fun W => by rw [hxi]; exact times_any x0 iM lx0 (by decide) W) (fun W z _ => odd_any z W) (fun W z hz => minus_any 0 z (by decide) hz W) w im
  have hP : rootP kk u v = if sq = u then some (evn x0) else if sq = nu then some (evn xi) else none := by
    unfold rootP
    rw [hX, ← hxx, ← hsq, ← hnu, ← hxi]
  rw [hkk, hP]
  refine h.mono fun e w' ⟨he, hb⟩ => ⟨he.trans ?_, hb⟩
  by_cases h1 : sq = u
  · simp only [if_pos h1]; rfl
  · simp only [if_neg h1]
    by_cases h2 : sq = nu
    · simp only [if_pos h2, decide_eq_true h2]; rfl
    · simp only [if_neg h2, decide_eq_false h2]; rfl
end Go.Proofs.YteekjcfbnoakgaaDoor
namespace Go.Proofs.YteekjcfbnoakgaaDoor
open Go.RowKit
theorem inv_cast (a e : Nat) (h : pF - 2 = e) : a ^ e % pF = finv a % pF := by unfold finv; rw [h, Nat.mod_mod]
theorem rootY_cast (k u v e : Nat) (h : k + 1 = e) : quoR u v ^ e % pF = rootY k u v % pF := by unfold rootY; rw [h, Nat.mod_mod]
theorem quoR_lt (u v : Nat) : quoR u v < pF := Nat.mod_lt _ pF_pos
theorem rootY_lt (k u v : Nat) : rootY k u v < pF := Nat.mod_lt _ pF_pos
theorem rootZ_lt (k u v : Nat) : rootZ k u v < pF := by
  unfold rootZ
  split
  · exact rootY_lt k u v
  · exact Nat.mod_lt _ pF_pos
theorem ratio_opt (A B C : Prop) [Decidable A] [Decidable B] [Decidable C] (x : Nat) : (decide A && !(decide B && !decide C)) = (if A ∧ ¬(B ∧ ¬C) then some x else none : Option Nat).isSome ∧ (if (decide A && !(decide B && !decide C)) = true then x else 0) = (if A ∧ ¬(B ∧ ¬C) then some x else none : Option Nat).getD 0 := by
  by_cases hA : A <;> by_cases hB : B <;> by_cases hC : C <;> simp [hA, hB, hC]
theorem Rep.far' {L : Nat → Int} {x : Nat} (h : Rep L x) : ∀ j, j < 16 → -1073741824 ≤ L j ∧ L j ≤ 1073741824 := fun j hj => by have := h.bd j hj; omega
theorem rsame_wide {A B : Nat → Int} {a b : Nat} (hA : Rw A a) (hB : Rw B b) (z : Bool) (hz : decide (a % pF = b % pF) = z) (w : World) : Calls Tryd.prog 47 #[.agg (intsI 16 A).toArray, .agg (intsI 16 B).toArray] w fun e w' => e = .returned (.bool z) ∧ Below w.heap.size w w' := by
  have h := rsame_gen A B a b (fun W => rbytes A (hA.dig.mono (by decide)) a hA.val W) (fun W => rbytes B (hB.dig.mono (by decide)) b hB.val W) w
  rw [hz] at h
  exact h
theorem rratio_wide (U V : Nat → Int) (u v : Nat) (hU : Rw U u) (hV : Rw V v) (hu : u < pF) (hv : v < pF) (w : World) :
    Calls Tryd.prog 44 #[rV U, rV V] w fun e w' => ∃ R, e = .returned (.tuple #[rV R, .bool (rootR kP u v).isSome]) ∧ Rw R ((rootR kP u v).getD 0) ∧ Below w.heap.size w w' := by
  obtain ⟨kk, hkk⟩ : ∃ kk, kP = kk := ⟨_, rfl⟩
  obtain ⟨E1, hE1⟩ : ∃ E : Nat, 57896044618658097711785492504343953926634992332820282019728792003956564819947 = E := ⟨_, rfl⟩
  obtain ⟨E2, hE2⟩ : ∃ E : Nat, 7237005577332262213973186563042994240829374041602535252466099000494570602494 = E := ⟨_, rfl⟩
  have e1 : pF - 2 = E1 := by rw [← hE1]; decide
  have e2 : kk + 1 = E2 := by rw [← hE2, ← hkk]; decide
  have cI : ∀ W, Calls Tryd.prog 53 #[refV V] W fun e w' => ∃ R, e = .returned (refV R) ∧ Rep R (v ^ E1) ∧ Below W.heap.size W w' := fun W => by rw [← hE1]; exact rinverse_gen V v hV.bd (fun M m h => (rw_times h.wide hV).cast (by unfold fmul; rw [Nat.mod_mod])) W
  have cP : ∀ (Q : Nat → Int) (q : Nat), Rep Q q → ∀ W, Calls Tryd.prog 70 #[refV Q, .int .i64 252, .int .i64 14, .int .i64 4] W fun e w' => ∃ R, e = .returned (refV R) ∧ Rep R (q ^ E2) ∧ Below W.heap.size W w' := fun Q q hQ W => by rw [← hE2]; exact rpow8_any Q q hQ W
  clear hE1 hE2
  have hq : quoR u v = fmul u (finv v) := rfl
  have hql := quoR_lt u v
  have hyl := rootY_lt kk u v
  have hzl := rootZ_lt kk u v
  have hzd : rootZ kk u v = if rootY kk u v * rootY kk u v % pF = quoR u v then rootY kk u v else rootY kk u v * iM % pF := rfl
  have hRd : rootR kk u v = if rootZ kk u v * rootZ kk u v % pF = quoR u v ∧ ¬(v = 0 ∧ u ≠ 0) then some (evn (rootZ kk u v)) else none := rfl
  have hyc := rootY_cast kk u v E2 e2
  rw [hkk, hRd]
  clear hRd
  generalize rootZ kk u v = z at *
  generalize rootY kk u v = y at *
  generalize hqq : quoR u v = q at *
  have h := rratio_raw U V (finv v) q y z (fmul z z) z (fsub 0 z) (decide (fmul z z = q)) (decide (v = 0)) (decide (u = 0))
    (fun W => (cI W).mono fun e w' ⟨R, he, hR, hb⟩ => ⟨R, he, hR.cast (inv_cast v E1 e1), hb⟩)
    (fun R hR W => (rtimes_any U R hU.bd hR.bd W).mono fun e w' ⟨he, hb⟩ => ⟨_, he, by rw [hq]; exact rw_times hU hR.wide, hb⟩)
    (fun Q hQ W => (cP Q q hQ W).mono fun e w' ⟨R, he, hR, hb⟩ => ⟨R, he, hR.cast hyc, hb⟩)
    (fun Y Q hY hQ W => by
      by_cases h : y * y % pF = q
      · rw [if_pos h] at hzd
        rw [hzd]
        exact (rfit_yes Y Q y q hY hQ (by rw [h, Nat.mod_eq_of_lt hql]) W).mono fun e w' ⟨he, hb⟩ => ⟨Y, he, hY, hb⟩
      · rw [if_neg h] at hzd
        rw [hzd]
        exact (rfit_no Y Q y q hY hQ (by rw [Nat.mod_eq_of_lt hql]; exact h) W).mono fun e w' ⟨R, he, hR, hb⟩ => ⟨R, he, hR.cast (by rw [Nat.mod_mod]), hb⟩)
    (fun Z hZ W => (rtimes_any Z Z hZ.bd hZ.bd W).mono fun e w' ⟨he, hb⟩ => ⟨_, he, rw_times hZ.wide hZ.wide, hb⟩)
    (fun R Q hR hQ W => rsame_rep hR hQ _ (by rw [Nat.mod_eq_of_lt (fmul_lt z z), Nat.mod_eq_of_lt hql]) W)
    (fun W => rsmall_rep 0 (by decide) W)
    (fun O hO W => rsame_wide hV hO.wide _ (by rw [Nat.mod_eq_of_lt hv]; rfl) W)
    (fun O hO W => rsame_wide hU hO.wide _ (by rw [Nat.mod_eq_of_lt hu]; rfl) W)
    (fun Z hZ W => (rep_bytes Z z hZ W).mono fun e w' ⟨s, he, hs, hb⟩ => ⟨s, he, by rw [Nat.mod_eq_of_lt hzl] at hs; exact BytesIn.of_own hs, hb⟩)
    (fun O Z hO hZ W => (rminus_any O Z hO.far' hZ.far' W).mono fun e w' ⟨he, hb⟩ => ⟨_, he, rep_minus hO hZ hzl, hb⟩) w
  have hf : fmul z z = z * z % pF := rfl
  have hev : (if z % 2 = 1 then fsub 0 z else z) = evn z := rfl
  rw [hf, hev] at h
  clear cI cP hzd hyc hf hev
  generalize z * z % pF = m at *
  generalize evn z = ev at *
  have ho := ratio_opt (m = q) (v = 0) (u = 0) ev
  refine h.mono fun e w' ⟨R, he, hR, hb⟩ => ⟨R, ?_, ?_, hb⟩
  · rw [he, ho.1]
  · rw [ho.2] at hR
    exact hR
end Go.Proofs.YteekjcfbnoakgaaDoor
