/- What at and quotients of package point do in the model. -/
import Derived.Test.YteekjcfbnoakgaaDoorRBase6M
namespace Go.Proofs.YteekjcfbnoakgaaDoor
open Go.RowKit
abbrev qa1x2 : Oper := { dst := some 7, op := Op.call { callee := Callee.value (Operand.func 63), args := #[Operand.const (Value.int IntKind.i64 1)], argTypes := #[3] }, type := 28, pos := "curve.go:41", after := #[], guard := none }
abbrev qa1x5 : Oper := { dst := some 10, op := Op.call { callee := Callee.value (Operand.func 51), args := #[Operand.tmp 8, Operand.tmp 9], argTypes := #[28, 28] }, type := 28, pos := "curve.go:41", after := #[{ on := 3, ground := Ground.data }, { on := 4, ground := Ground.data }, { on := 2, ground := Ground.chain }], guard := none }
abbrev qa1x7 : Oper := { dst := none, op := Op.store 30 (Operand.tmp 4) (Operand.tmp 11), type := 0, pos := "curve.go:41", after := #[{ on := 6, ground := Ground.data }, { on := 5, ground := Ground.chain }, { on := 0, ground := Ground.phase }, { on := 1, ground := Ground.phase }, { on := 2, ground := Ground.phase }, { on := 3, ground := Ground.phase }, { on := 4, ground := Ground.phase }, { on := 5, ground := Ground.phase }, { on := 6, ground := Ground.phase }], guard := none }
abbrev qa2x2 : Oper := { dst := some 11, op := Op.call { callee := Callee.value (Operand.func 51), args := #[Operand.tmp 9, Operand.tmp 10], argTypes := #[28, 28] }, type := 28, pos := "curve.go:70", after := #[{ on := 0, ground := Ground.data }, { on := 1, ground := Ground.data }], guard := none }
abbrev qa2x5 : Oper := { dst := some 14, op := Op.call { callee := Callee.value (Operand.func 51), args := #[Operand.tmp 12, Operand.tmp 13], argTypes := #[28, 28] }, type := 28, pos := "curve.go:70", after := #[{ on := 3, ground := Ground.data }, { on := 4, ground := Ground.data }, { on := 2, ground := Ground.chain }], guard := none }
abbrev qa2x8 : Oper := { dst := some 17, op := Op.call { callee := Callee.value (Operand.func 51), args := #[Operand.tmp 15, Operand.tmp 16], argTypes := #[28, 28] }, type := 28, pos := "curve.go:70", after := #[{ on := 6, ground := Ground.data }, { on := 7, ground := Ground.data }, { on := 5, ground := Ground.chain }], guard := none }
abbrev qa2x11 : Oper := { dst := some 20, op := Op.call { callee := Callee.value (Operand.func 51), args := #[Operand.tmp 18, Operand.tmp 19], argTypes := #[28, 28] }, type := 28, pos := "curve.go:70", after := #[{ on := 9, ground := Ground.data }, { on := 10, ground := Ground.data }, { on := 8, ground := Ground.chain }], guard := none }
abbrev qa2x13 : Oper := { dst := none, op := Op.store 30 (Operand.tmp 8) (Operand.tmp 21), type := 0, pos := "curve.go:70", after := #[{ on := 12, ground := Ground.data }, { on := 11, ground := Ground.chain }, { on := 0, ground := Ground.phase }, { on := 1, ground := Ground.phase }, { on := 2, ground := Ground.phase }, { on := 3, ground := Ground.phase }, { on := 4, ground := Ground.phase }, { on := 5, ground := Ground.phase }, { on := 6, ground := Ground.phase }, { on := 7, ground := Ground.phase }, { on := 8, ground := Ground.phase }, { on := 9, ground := Ground.phase }, { on := 10, ground := Ground.phase }, { on := 11, ground := Ground.phase }, { on := 12, ground := Ground.phase }], guard := none }
set_option maxRecDepth 20000 in
set_option maxHeartbeats 4000000 in
theorem pat_raw (x y t : Nat)
    (ct : ∀ W, Calls Tryd.prog 51 #[numV x, numV y] W fun e w' => e = .returned (numV t) ∧ Below W.heap.size W w')
    (w : World) : Calls Tryd.prog 38 #[numV x, numV y] w fun e w' => e = .returned (pV x y 1 t) ∧ Below w.heap.size w w' := by
  have hzp := zeroP
  have c1 : ∀ W, Calls Tryd.prog 63 #[.int .i64 1] W fun e w' => e = .returned (numV 1) ∧ Below W.heap.size W w' := fsmall_pos 1 (by decide)
  obtain ⟨V1, g2, eg2, hg2, bg2, hx⟩ : ∃ V g, w.alloc (.cells (c4 x).toArray 28) = V ∧ w.heap.size = g ∧ Below w.heap.size w V ∧ RW V g 0 (c4 x) := ⟨_, _, rfl, rfl, (Below.refl _ _).alloc (Nat.le_refl _) _, RW.fresh w _ _⟩
  obtain ⟨V2, g3, eg3, hg3, bg3, hy⟩ : ∃ V g, V1.alloc (.cells (c4 y).toArray 28) = V ∧ V1.heap.size = g ∧ Below V1.heap.size V1 V ∧ RW V g 0 (c4 y) := ⟨_, _, rfl, rfl, (Below.refl _ _).alloc (Nat.le_refl _) _, RW.fresh V1 _ _⟩
  obtain ⟨W, g4, e4, hg4, b4, hres⟩ := fresh16 V2
  have t1 : V1.heap.size = w.heap.size + 1 := by rw [← eg2]; simp
  have t2 : V2.heap.size = V1.heap.size + 1 := by rw [← eg3]; simp
  have HW : Hid (W = ((w.alloc (.cells (c4 x).toArray 28)).alloc (.cells (c4 y).toArray 28)).alloc (.cells zP 30)) := Hid.mk' (by rw [← e4, ← eg3, ← eg2])
  have q2 : Hid (w.heap.size = g2) := Hid.mk' hg2
  have q3 : Hid (w.heap.size + 1 = g3) := Hid.mk' (by omega)
  have q4 : Hid (w.heap.size + 1 + 1 = g4) := Hid.mk' (by omega)
  replace hx := (hx.still bg3).still b4
  replace hy := hy.still b4
  have hbW : Below w.heap.size w W := (bg2.trans (bg3.mono (by omega))).trans (b4.mono (by omega))
  have w4 : w.heap.size ≤ g4 := by omega
  have n24 : g2 ≠ g4 := by omega
  have n34 : g3 ≠ g4 := by omega
  have l4 := hres.lt
  clear eg2 eg3 e4 hg2 hg3 hg4 bg2 bg3 b4 t1 t2 V1 V2
  rw [show numV x = .agg (c4 x).toArray from rfl, show numV y = .agg (c4 y).toArray from rfl]
  go_enter Tryd.func38, Tryd.ntmps38
  go_upto_region 1 with (fail)
  rw [← HW.out, q4.out, q3.out, q2.out]
  clear HW q2 q3 q4
  have hdrew : Below W.heap.size W W.drew := (Below.refl _ _).drew
  replace hx := hx.still hdrew
  replace hy := hy.still hdrew
  replace hres := hres.still hdrew
  refine wp_region_noPanic ?_
  replace l4 := Nat.lt_of_lt_of_le l4 hdrew.size
  refine wp_region_held_drew (S := fun w' => Out g4 0 16 W.drew w') (by kernel_rfl) (Out.refl _ _ _ _) (fun hS => ?_)
  generalize W.drew = Va1_ at *
  refine wpAnyH_take (i := 0) (oi := { dst := some 5, op := Op.load 28 (Operand.tmp 2), type := 28, pos := "curve.go:41", after := #[], guard := none }) (v := numV x) rfl (by kernel_rfl) (by kernel_rfl) (by kernel_rfl) (fun _ _ _ h => h) (yieldsIf_load_mid (by rfl) 28 _ rfl g2 0 rfl (c4 x) _ (fun _ h => (hx.out h n24).range) Tryd.underlying28 rfl info4) hS ?_
  (try simp only [Act.put, List.setIfInBounds_toArray, List.set_cons_zero, List.set_cons_succ])
  refine wpAnyH_take (i := 1) (oi := { dst := some 6, op := Op.load 28 (Operand.tmp 3), type := 28, pos := "curve.go:41", after := #[], guard := none }) (v := numV y) rfl (by kernel_rfl) (by kernel_rfl) (by kernel_rfl) (fun _ _ _ h => h) (yieldsIf_load_mid (by rfl) 28 _ rfl g3 0 rfl (c4 y) _ (fun _ h => (hy.out h n34).range) Tryd.underlying28 rfl info4) hS ?_
  (try simp only [Act.put, List.setIfInBounds_toArray, List.set_cons_zero, List.set_cons_succ])
  refine wpAnyH_take (i := 3) (oi := { dst := some 8, op := Op.load 28 (Operand.tmp 2), type := 28, pos := "curve.go:41", after := #[], guard := none }) (v := numV x) rfl (by kernel_rfl) (by kernel_rfl) (by kernel_rfl) (fun _ _ _ h => h) (yieldsIf_load_mid (by rfl) 28 _ rfl g2 0 rfl (c4 x) _ (fun _ h => (hx.out h n24).range) Tryd.underlying28 rfl info4) hS ?_
  (try simp only [Act.put, List.setIfInBounds_toArray, List.set_cons_zero, List.set_cons_succ])
  refine wpAnyH_take (i := 4) (oi := { dst := some 9, op := Op.load 28 (Operand.tmp 3), type := 28, pos := "curve.go:41", after := #[], guard := none }) (v := numV y) rfl (by kernel_rfl) (by kernel_rfl) (by kernel_rfl) (fun _ _ _ h => h) (yieldsIf_load_mid (by rfl) 28 _ rfl g3 0 rfl (c4 y) _ (fun _ h => (hy.out h n34).range) Tryd.underlying28 rfl info4) hS ?_
  (try simp only [Act.put, List.setIfInBounds_toArray, List.set_cons_zero, List.set_cons_succ])
  refine wpAnyH_ready (rs := [2]) (by kernel_rfl) (by simp) ?_
  refine AllReadyH.cons (o := qa1x2) rfl (fun K hK => ?_) (AllReadyH.nil)
  unfold qa1x2
  go_simp
  (go_at_call 63; refine (c1 _).mono ?_; clear c1; rintro e wa1_1 ⟨rfl, hba1_1⟩)
  (try go_simp)
  have hSa1_1 := hS.trans (Out.of_below hba1_1 l4)
  replace l4 := Nat.lt_of_lt_of_le l4 hba1_1.size
  replace hres := hres.still hba1_1
  refine hK.out _ _ hSa1_1 (fun h => ?_)
  clear h hK K hba1_1
  (try simp only [Act.put, List.setIfInBounds_toArray, List.set_cons_zero, List.set_cons_succ])
  refine wpAnyH_ready (rs := [5]) (by kernel_rfl) (by simp) ?_
  refine AllReadyH.cons (o := qa1x5) rfl (fun K hK => ?_) (AllReadyH.nil)
  unfold qa1x5
  go_simp
  (go_at_call 51; refine (ct _).mono ?_; clear ct; rintro e wa1_2 ⟨rfl, hba1_2⟩)
  (try go_simp)
  have hSa1_2 := hSa1_1.trans (Out.of_below hba1_2 l4)
  replace l4 := Nat.lt_of_lt_of_le l4 hba1_2.size
  replace hres := hres.still hba1_2
  refine hK.out _ _ hSa1_2 (fun h => ?_)
  clear h hK K hba1_2
  (try simp only [Act.put, List.setIfInBounds_toArray, List.set_cons_zero, List.set_cons_succ])
  refine wpAnyH_take (i := 6) (oi := { dst := some 11, op := Op.build 30 #[(0, Operand.tmp 5), (1, Operand.tmp 6), (2, Operand.tmp 7), (3, Operand.tmp 10)], type := 30, pos := "curve.go:41", after := #[{ on := 0, ground := Ground.data }, { on := 1, ground := Ground.data }, { on := 2, ground := Ground.data }, { on := 5, ground := Ground.data }], guard := none }) (v := pV x y 1 t) rfl (by kernel_rfl) (by kernel_rfl) (by kernel_rfl) (fun _ _ _ h => h) (yields_build4 (by rfl) 30 _ _ _ _ rfl (numV x) (numV y) (numV 1) (numV t) rfl rfl rfl rfl _ (builtP4 _ _ _ _)) hSa1_2 ?_
  (try simp only [Act.put, List.setIfInBounds_toArray, List.set_cons_zero, List.set_cons_succ])
  refine wpAnyH_ready (rs := [7]) (by kernel_rfl) (by simp) ?_
  refine AllReadyH.cons (o := qa1x7) rfl (fun K hK => ?_) (AllReadyH.nil)
  unfold qa1x7
  rw [if_pos (by rfl)]
  refine wp_store_mid 30 _ _ rfl g4 0 (p16 x y 1 t).toArray rfl rfl (thr16 hres _ _ _ _) (info16A _ _ _ _) (one16 _ _ _ _) ?_
  have hSa1_3 := hSa1_2.trans (Out.setCells (b := g4) (o := 0) (n := 16) wa1_2 (p16 x y 1 t) (Nat.le_refl _) (by rw [p16_len]; exact Nat.le_refl _))
  replace hres := hres.stored (p16 x y 1 t) (p16_same _ _ _ _ _ _ _ _)
  obtain ⟨wa1_3, hwa1_3⟩ : ∃ W, wa1_2.setCells g4 0 (p16 x y 1 t) = W := ⟨_, rfl⟩
  rw [hwa1_3] at hres
  rw [hwa1_3] at hSa1_3
  rw [show wa1_2.setCells g4 0 (p16 x y 1 t).toArray.toList = wa1_3 from hwa1_3]
  refine hK.out _ _ hSa1_3 (fun h => ?_)
  clear h hK K hwa1_3
  (try dsimp only [Act.put])
  refine wpAnyH_done (by kernel_rfl) ?_ _
  refine NoPanic.normal ?_
  have fin := (hbW.trans (hdrew.mono hbW.size)).trans (hSa1_3.below w4 (Nat.le_trans hbW.size hdrew.size))
  go_wp2
  exact bodyPost_ret (results_cell_mid Tryd.results38 _ _ g4 0 (p16 x y 1 t) _ rfl hres.range Tryd.underlying30 rfl (info16 _ _ _ _)) rfl ⟨rfl, fin⟩
theorem pat_any (x y : Nat) (hx : x < pF) (hy : y < pF) (w : World) : Calls Tryd.prog 38 #[numV x, numV y] w fun e w' => e = .returned (pV x y 1 (fmul x y)) ∧ Below w.heap.size w w' :=
  pat_raw x y (fmul x y) (fun W => times_any x y hx hy W) w
set_option maxRecDepth 20000 in
set_option maxHeartbeats 8000000 in
theorem quot_raw (a b c d o1 o2 o3 o4 : Nat)
    (k1 : ∀ W, Calls Tryd.prog 51 #[numV a, numV d] W fun e w' => e = .returned (numV o1) ∧ Below W.heap.size W w')
    (k2 : ∀ W, Calls Tryd.prog 51 #[numV c, numV b] W fun e w' => e = .returned (numV o2) ∧ Below W.heap.size W w')
    (k3 : ∀ W, Calls Tryd.prog 51 #[numV b, numV d] W fun e w' => e = .returned (numV o3) ∧ Below W.heap.size W w')
    (k4 : ∀ W, Calls Tryd.prog 51 #[numV a, numV c] W fun e w' => e = .returned (numV o4) ∧ Below W.heap.size W w')
    (w : World) : Calls Tryd.prog 75 #[numV a, numV b, numV c, numV d] w fun e w' => e = .returned (pV o1 o2 o3 o4) ∧ Below w.heap.size w w' := by
  have hzp := zeroP
  obtain ⟨V1, g4, eg4, hg4, bg4, ha⟩ : ∃ V g, w.alloc (.cells (c4 a).toArray 28) = V ∧ w.heap.size = g ∧ Below w.heap.size w V ∧ RW V g 0 (c4 a) := ⟨_, _, rfl, rfl, (Below.refl _ _).alloc (Nat.le_refl _) _, RW.fresh w _ _⟩
  obtain ⟨V2, g5, eg5, hg5, bg5, hb⟩ : ∃ V g, V1.alloc (.cells (c4 b).toArray 28) = V ∧ V1.heap.size = g ∧ Below V1.heap.size V1 V ∧ RW V g 0 (c4 b) := ⟨_, _, rfl, rfl, (Below.refl _ _).alloc (Nat.le_refl _) _, RW.fresh V1 _ _⟩
  obtain ⟨V3, g6, eg6, hg6, bg6, hc⟩ : ∃ V g, V2.alloc (.cells (c4 c).toArray 28) = V ∧ V2.heap.size = g ∧ Below V2.heap.size V2 V ∧ RW V g 0 (c4 c) := ⟨_, _, rfl, rfl, (Below.refl _ _).alloc (Nat.le_refl _) _, RW.fresh V2 _ _⟩
  obtain ⟨V4, g7, eg7, hg7, bg7, hd⟩ : ∃ V g, V3.alloc (.cells (c4 d).toArray 28) = V ∧ V3.heap.size = g ∧ Below V3.heap.size V3 V ∧ RW V g 0 (c4 d) := ⟨_, _, rfl, rfl, (Below.refl _ _).alloc (Nat.le_refl _) _, RW.fresh V3 _ _⟩
  obtain ⟨W, g8, e8, hg8, b8, hres⟩ := fresh16 V4
  have t1 : V1.heap.size = w.heap.size + 1 := by rw [← eg4]; simp
  have t2 : V2.heap.size = V1.heap.size + 1 := by rw [← eg5]; simp
  have t3 : V3.heap.size = V2.heap.size + 1 := by rw [← eg6]; simp
  have t4 : V4.heap.size = V3.heap.size + 1 := by rw [← eg7]; simp
  have HW : Hid (W = ((((w.alloc (.cells (c4 a).toArray 28)).alloc (.cells (c4 b).toArray 28)).alloc (.cells (c4 c).toArray 28)).alloc (.cells (c4 d).toArray 28)).alloc (.cells zP 30)) := Hid.mk' (by rw [← e8, ← eg7, ← eg6, ← eg5, ← eg4])
  have q4 : Hid (w.heap.size = g4) := Hid.mk' hg4
  have q5 : Hid (w.heap.size + 1 = g5) := Hid.mk' (by omega)
  have q6 : Hid (w.heap.size + 1 + 1 = g6) := Hid.mk' (by omega)
  have q7 : Hid (w.heap.size + 1 + 1 + 1 = g7) := Hid.mk' (by omega)
  have q8 : Hid (w.heap.size + 1 + 1 + 1 + 1 = g8) := Hid.mk' (by omega)
  replace ha := (((ha.still bg5).still bg6).still bg7).still b8
  replace hb := ((hb.still bg6).still bg7).still b8
  replace hc := (hc.still bg7).still b8
  replace hd := hd.still b8
  have hbW : Below w.heap.size w W := (((bg4.trans (bg5.mono (by omega))).trans (bg6.mono (by omega))).trans (bg7.mono (by omega))).trans (b8.mono (by omega))
  have w8 : w.heap.size ≤ g8 := by omega
  have n48 : g4 ≠ g8 := by omega
  have n58 : g5 ≠ g8 := by omega
  have n68 : g6 ≠ g8 := by omega
  have n78 : g7 ≠ g8 := by omega
  have l8 := hres.lt
  clear eg4 eg5 eg6 eg7 e8 hg4 hg5 hg6 hg7 hg8 bg4 bg5 bg6 bg7 b8 t1 t2 t3 t4 V1 V2 V3 V4
  rw [show numV a = .agg (c4 a).toArray from rfl, show numV b = .agg (c4 b).toArray from rfl, show numV c = .agg (c4 c).toArray from rfl, show numV d = .agg (c4 d).toArray from rfl]
  go_enter Tryd.func75, Tryd.ntmps75
  go_upto_region 1 with (fail)
  rw [← HW.out, q8.out, q7.out, q6.out, q5.out, q4.out]
  clear HW q4 q5 q6 q7 q8
  have hdrew : Below W.heap.size W W.drew := (Below.refl _ _).drew
  replace ha := ha.still hdrew
  replace hb := hb.still hdrew
  replace hc := hc.still hdrew
  replace hd := hd.still hdrew
  replace hres := hres.still hdrew
  refine wp_region_noPanic ?_
  replace l8 := Nat.lt_of_lt_of_le l8 hdrew.size
  refine wp_region_held_drew (S := fun w' => Out g8 0 16 W.drew w') (by kernel_rfl) (Out.refl _ _ _ _) (fun hS => ?_)
  generalize W.drew = Va2_ at *
  refine wpAnyH_take (i := 0) (oi := { dst := some 9, op := Op.load 28 (Operand.tmp 4), type := 28, pos := "curve.go:70", after := #[], guard := none }) (v := numV a) rfl (by kernel_rfl) (by kernel_rfl) (by kernel_rfl) (fun _ _ _ h => h) (yieldsIf_load_mid (by rfl) 28 _ rfl g4 0 rfl (c4 a) _ (fun _ h => (ha.out h n48).range) Tryd.underlying28 rfl info4) hS ?_
  (try simp only [Act.put, List.setIfInBounds_toArray, List.set_cons_zero, List.set_cons_succ])
  refine wpAnyH_take (i := 1) (oi := { dst := some 10, op := Op.load 28 (Operand.tmp 7), type := 28, pos := "curve.go:70", after := #[], guard := none }) (v := numV d) rfl (by kernel_rfl) (by kernel_rfl) (by kernel_rfl) (fun _ _ _ h => h) (yieldsIf_load_mid (by rfl) 28 _ rfl g7 0 rfl (c4 d) _ (fun _ h => (hd.out h n78).range) Tryd.underlying28 rfl info4) hS ?_
  (try simp only [Act.put, List.setIfInBounds_toArray, List.set_cons_zero, List.set_cons_succ])
  refine wpAnyH_take (i := 3) (oi := { dst := some 12, op := Op.load 28 (Operand.tmp 6), type := 28, pos := "curve.go:70", after := #[], guard := none }) (v := numV c) rfl (by kernel_rfl) (by kernel_rfl) (by kernel_rfl) (fun _ _ _ h => h) (yieldsIf_load_mid (by rfl) 28 _ rfl g6 0 rfl (c4 c) _ (fun _ h => (hc.out h n68).range) Tryd.underlying28 rfl info4) hS ?_
  (try simp only [Act.put, List.setIfInBounds_toArray, List.set_cons_zero, List.set_cons_succ])
  refine wpAnyH_take (i := 4) (oi := { dst := some 13, op := Op.load 28 (Operand.tmp 5), type := 28, pos := "curve.go:70", after := #[], guard := none }) (v := numV b) rfl (by kernel_rfl) (by kernel_rfl) (by kernel_rfl) (fun _ _ _ h => h) (yieldsIf_load_mid (by rfl) 28 _ rfl g5 0 rfl (c4 b) _ (fun _ h => (hb.out h n58).range) Tryd.underlying28 rfl info4) hS ?_
  (try simp only [Act.put, List.setIfInBounds_toArray, List.set_cons_zero, List.set_cons_succ])
  refine wpAnyH_take (i := 6) (oi := { dst := some 15, op := Op.load 28 (Operand.tmp 5), type := 28, pos := "curve.go:70", after := #[], guard := none }) (v := numV b) rfl (by kernel_rfl) (by kernel_rfl) (by kernel_rfl) (fun _ _ _ h => h) (yieldsIf_load_mid (by rfl) 28 _ rfl g5 0 rfl (c4 b) _ (fun _ h => (hb.out h n58).range) Tryd.underlying28 rfl info4) hS ?_
  (try simp only [Act.put, List.setIfInBounds_toArray, List.set_cons_zero, List.set_cons_succ])
  refine wpAnyH_take (i := 7) (oi := { dst := some 16, op := Op.load 28 (Operand.tmp 7), type := 28, pos := "curve.go:70", after := #[], guard := none }) (v := numV d) rfl (by kernel_rfl) (by kernel_rfl) (by kernel_rfl) (fun _ _ _ h => h) (yieldsIf_load_mid (by rfl) 28 _ rfl g7 0 rfl (c4 d) _ (fun _ h => (hd.out h n78).range) Tryd.underlying28 rfl info4) hS ?_
  (try simp only [Act.put, List.setIfInBounds_toArray, List.set_cons_zero, List.set_cons_succ])
  refine wpAnyH_take (i := 9) (oi := { dst := some 18, op := Op.load 28 (Operand.tmp 4), type := 28, pos := "curve.go:70", after := #[], guard := none }) (v := numV a) rfl (by kernel_rfl) (by kernel_rfl) (by kernel_rfl) (fun _ _ _ h => h) (yieldsIf_load_mid (by rfl) 28 _ rfl g4 0 rfl (c4 a) _ (fun _ h => (ha.out h n48).range) Tryd.underlying28 rfl info4) hS ?_
  (try simp only [Act.put, List.setIfInBounds_toArray, List.set_cons_zero, List.set_cons_succ])
  refine wpAnyH_take (i := 10) (oi := { dst := some 19, op := Op.load 28 (Operand.tmp 6), type := 28, pos := "curve.go:70", after := #[], guard := none }) (v := numV c) rfl (by kernel_rfl) (by kernel_rfl) (by kernel_rfl) (fun _ _ _ h => h) (yieldsIf_load_mid (by rfl) 28 _ rfl g6 0 rfl (c4 c) _ (fun _ h => (hc.out h n68).range) Tryd.underlying28 rfl info4) hS ?_
  (try simp only [Act.put, List.setIfInBounds_toArray, List.set_cons_zero, List.set_cons_succ])
  refine wpAnyH_ready (rs := [2]) (by kernel_rfl) (by simp) ?_
  refine AllReadyH.cons (o := qa2x2) rfl (fun K hK => ?_) (AllReadyH.nil)
  unfold qa2x2
  go_simp
  (go_at_call 51; refine (k1 _).mono ?_; clear k1; rintro e wa2_1 ⟨rfl, hba2_1⟩)
  (try go_simp)
  have hSa2_1 := hS.trans (Out.of_below hba2_1 l8)
  replace l8 := Nat.lt_of_lt_of_le l8 hba2_1.size
  replace hres := hres.still hba2_1
  refine hK.out _ _ hSa2_1 (fun h => ?_)
  clear h hK K hba2_1
  (try simp only [Act.put, List.setIfInBounds_toArray, List.set_cons_zero, List.set_cons_succ])
  refine wpAnyH_ready (rs := [5]) (by kernel_rfl) (by simp) ?_
  refine AllReadyH.cons (o := qa2x5) rfl (fun K hK => ?_) (AllReadyH.nil)
  unfold qa2x5
  go_simp
  (go_at_call 51; refine (k2 _).mono ?_; clear k2; rintro e wa2_2 ⟨rfl, hba2_2⟩)
  (try go_simp)
  have hSa2_2 := hSa2_1.trans (Out.of_below hba2_2 l8)
  replace l8 := Nat.lt_of_lt_of_le l8 hba2_2.size
  replace hres := hres.still hba2_2
  refine hK.out _ _ hSa2_2 (fun h => ?_)
  clear h hK K hba2_2
  (try simp only [Act.put, List.setIfInBounds_toArray, List.set_cons_zero, List.set_cons_succ])
  refine wpAnyH_ready (rs := [8]) (by kernel_rfl) (by simp) ?_
  refine AllReadyH.cons (o := qa2x8) rfl (fun K hK => ?_) (AllReadyH.nil)
  unfold qa2x8
  go_simp
  (go_at_call 51; refine (k3 _).mono ?_; clear k3; rintro e wa2_3 ⟨rfl, hba2_3⟩)
  (try go_simp)
  have hSa2_3 := hSa2_2.trans (Out.of_below hba2_3 l8)
  replace l8 := Nat.lt_of_lt_of_le l8 hba2_3.size
  replace hres := hres.still hba2_3
  refine hK.out _ _ hSa2_3 (fun h => ?_)
  clear h hK K hba2_3
  (try simp only [Act.put, List.setIfInBounds_toArray, List.set_cons_zero, List.set_cons_succ])
  refine wpAnyH_ready (rs := [11]) (by kernel_rfl) (by simp) ?_
  refine AllReadyH.cons (o := qa2x11) rfl (fun K hK => ?_) (AllReadyH.nil)
  unfold qa2x11
  go_simp
  (go_at_call 51; refine (k4 _).mono ?_; clear k4; rintro e wa2_4 ⟨rfl, hba2_4⟩)
  (try go_simp)
  have hSa2_4 := hSa2_3.trans (Out.of_below hba2_4 l8)
  replace l8 := Nat.lt_of_lt_of_le l8 hba2_4.size
  replace hres := hres.still hba2_4
  refine hK.out _ _ hSa2_4 (fun h => ?_)
  clear h hK K hba2_4
  (try simp only [Act.put, List.setIfInBounds_toArray, List.set_cons_zero, List.set_cons_succ])
  refine wpAnyH_take (i := 12) (oi := { dst := some 21, op := Op.build 30 #[(0, Operand.tmp 11), (1, Operand.tmp 14), (2, Operand.tmp 17), (3, Operand.tmp 20)], type := 30, pos := "curve.go:70", after := #[{ on := 2, ground := Ground.data }, { on := 5, ground := Ground.data }, { on := 8, ground := Ground.data }, { on := 11, ground := Ground.data }], guard := none }) (v := pV o1 o2 o3 o4) rfl (by kernel_rfl) (by kernel_rfl) (by kernel_rfl) (fun _ _ _ h => h) (yields_build4 (by rfl) 30 _ _ _ _ rfl (numV o1) (numV o2) (numV o3) (numV o4) rfl rfl rfl rfl _ (builtP4 _ _ _ _)) hSa2_4 ?_
  (try simp only [Act.put, List.setIfInBounds_toArray, List.set_cons_zero, List.set_cons_succ])
  refine wpAnyH_ready (rs := [13]) (by kernel_rfl) (by simp) ?_
  refine AllReadyH.cons (o := qa2x13) rfl (fun K hK => ?_) (AllReadyH.nil)
  unfold qa2x13
  rw [if_pos (by rfl)]
  refine wp_store_mid 30 _ _ rfl g8 0 (p16 o1 o2 o3 o4).toArray rfl rfl (thr16 hres _ _ _ _) (info16A _ _ _ _) (one16 _ _ _ _) ?_
  have hSa2_5 := hSa2_4.trans (Out.setCells (b := g8) (o := 0) (n := 16) wa2_4 (p16 o1 o2 o3 o4) (Nat.le_refl _) (by rw [p16_len]; exact Nat.le_refl _))
  replace hres := hres.stored (p16 o1 o2 o3 o4) (p16_same _ _ _ _ _ _ _ _)
  obtain ⟨wa2_5, hwa2_5⟩ : ∃ W, wa2_4.setCells g8 0 (p16 o1 o2 o3 o4) = W := ⟨_, rfl⟩
  rw [hwa2_5] at hres
  rw [hwa2_5] at hSa2_5
  rw [show wa2_4.setCells g8 0 (p16 o1 o2 o3 o4).toArray.toList = wa2_5 from hwa2_5]
  refine hK.out _ _ hSa2_5 (fun h => ?_)
  clear h hK K hwa2_5
  (try dsimp only [Act.put])
  refine wpAnyH_done (by kernel_rfl) ?_ _
  refine NoPanic.normal ?_
  have fin := (hbW.trans (hdrew.mono hbW.size)).trans (hSa2_5.below w8 (Nat.le_trans hbW.size hdrew.size))
  go_wp2
  exact bodyPost_ret (results_cell_mid Tryd.results75 _ _ g8 0 (p16 o1 o2 o3 o4) _ rfl hres.range Tryd.underlying30 rfl (info16 _ _ _ _)) rfl ⟨rfl, fin⟩
theorem quot_any (a b c d : Nat) (ha : a < pF) (hb : b < pF) (hc : c < pF) (hd : d < pF) (w : World) : Calls Tryd.prog 75 #[numV a, numV b, numV c, numV d] w fun e w' => e = .returned (pV (fmul a d) (fmul c b) (fmul b d) (fmul a c)) ∧ Below w.heap.size w w' :=
  quot_raw a b c d _ _ _ _ (fun W => times_any a d ha hd W) (fun W => times_any c b hc hb W) (fun W => times_any b d hb hd W) (fun W => times_any a c ha hc W) w
end Go.Proofs.YteekjcfbnoakgaaDoor
