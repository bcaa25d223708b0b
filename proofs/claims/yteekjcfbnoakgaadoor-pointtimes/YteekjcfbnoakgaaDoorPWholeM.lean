/- What the proof stands on: PWhole, PEq, POps. -/
import Derived.Test.YteekjcfbnoakgaaDoorPAdd
import Derived.Test.YteekjcfbnoakgaaDoorRBase6M
import Derived.Test.YteekjcfbnoakgaaDoorRefPow2M
namespace Go.Proofs.YteekjcfbnoakgaaDoor
open Go.RowKit
/-- Four numbers that are this point. -/
structure W6 (p : N4) (P : Fp × Fp) : Prop where
  ok : p.Ok
  on : On dE P
  ext : Ext4 p P
/-- Cells that hold this point: the zero ones hold Zero. -/
def R6 (c : List Value) (P : Fp × Fp) : Prop := ∃ p : N4, c = p16 p.X p.Y p.Z p.T ∧ p.Ok ∧ On dE P ∧ ((p.X = 0 ∧ p.Y = 0 ∧ p.Z = 0 ∧ p.T = 0 ∧ P = ezero) ∨ Ext4 p P)
theorem W6.r6 {p : N4} {P : Fp × Fp} (h : W6 p P) : R6 (p16 p.X p.Y p.Z p.T) P := ⟨p, rfl, h.ok, h.on, .inr h.ext⟩
theorem R6.len {c : List Value} {P : Fp × Fp} (h : R6 c P) : c.length = 16 := by obtain ⟨p, rfl, -⟩ := h; rfl
theorem R6.one {c : List Value} {P : Fp × Fp} (h : R6 c P) : c.toArray.all (·.oneCell') = true := by obtain ⟨p, rfl, -⟩ := h; exact one16 _ _ _ _
theorem R6.on {c : List Value} {P : Fp × Fp} (h : R6 c P) : On dE P := by obtain ⟨p, -, -, h, -⟩ := h; exact h
theorem r6_zero : R6 (p16 0 0 0 0) ezero := ⟨⟨0, 0, 0, 0⟩, rfl, ⟨by decide, by decide, by decide, by decide⟩, ezero_on dE, .inl ⟨rfl, rfl, rfl, rfl, rfl⟩⟩
theorem fmul_comm (a b : Nat) : fmul a b = fmul b a := by unfold fmul; rw [Nat.mul_comm]
theorem padd_pt {p q : N4} {P Q : Fp × Fp} (hp : W6 p P) (hq : W6 q Q) (w : World) :
    Calls Tryd.prog 58 #[pV p.X p.Y p.Z p.T, pV q.X q.Y q.Z q.T] w fun e w' => ∃ r : N4, e = .returned (pV r.X r.Y r.Z r.T) ∧ W6 r (eadd dE P Q) ∧ Below w.heap.size w w' := by
  have hr : W6 (addN dN p q) (eadd dE P Q) := ⟨addN_ok _ _ _, eadd_on ns_dE hp.on hq.on, addN_ext hp.on hq.on hp.ext hq.ext⟩
  refine (add_raw p.X p.Y p.Z p.T q.X q.Y q.Z q.T dN _ _ _ _ _ _ _ _ _ _ _ _ _ _ _ _ _
    (fun W => times_any _ _ hp.ok.X hq.ok.X W) (fun W => times_any _ _ hp.ok.Y hq.ok.Y W) (fun W => times_any _ _ hp.ok.Z hq.ok.Z W) (fun W => times_any _ _ hp.ok.T hq.ok.T W) (fun W => curveD_any W) (fun W => times_any _ _ (fmul_lt _ _) dN_lt W)
    (fun W => plus_any _ _ hp.ok.X hp.ok.Y W) (fun W => plus_any _ _ hq.ok.X hq.ok.Y W) (fun W => times_any _ _ (fadd_lt _ _) (fadd_lt _ _) W) (fun W => minus_any _ _ (fmul_lt _ _) (fmul_lt _ _) W) (fun W => minus_any _ _ (fsub_lt _ _) (fmul_lt _ _) W)
    (fun W => plus_any _ _ (fmul_lt _ _) (fmul_lt _ _) W) (fun W => plus_any _ _ (fmul_lt _ _) (fmul_lt _ _) W) (fun W => minus_any _ _ (fmul_lt _ _) (fmul_lt _ _) W)
    (fun W => quot_any _ _ _ _ (fsub_lt _ _) (fadd_lt _ _) (fadd_lt _ _) (fsub_lt _ _) W) w).mono ?_
  rintro e w' ⟨rfl, hb⟩
  refine ⟨addN dN p q, ?_, hr, hb⟩
  show Ending.returned (pV (fmul (subXY p q) (fsub (fmul p.Z q.Z) (fmul (fmul p.T q.T) dN))) (fmul (fadd (fmul p.Y q.Y) (fmul p.X q.X)) (fadd (fmul p.Z q.Z) (fmul (fmul p.T q.T) dN))) (fmul (fadd (fmul p.Z q.Z) (fmul (fmul p.T q.T) dN)) (fsub (fmul p.Z q.Z) (fmul (fmul p.T q.T) dN))) (fmul (subXY p q) (fadd (fmul p.Y q.Y) (fmul p.X q.X)))) = _
  rw [fmul_comm (fadd (fmul p.Y q.Y) (fmul p.X q.X)) (fadd (fmul p.Z q.Z) (fmul (fmul p.T q.T) dN)), fmul_comm (fadd (fmul p.Z q.Z) (fmul (fmul p.T q.T) dN)) (fsub (fmul p.Z q.Z) (fmul (fmul p.T q.T) dN))]
  rfl
section
variable {n : Nat} [NeZero n]
theorem tw_g {a b c : Fin n} (h : b = a*(1+c)) : a + a - b = a*(1-c) := by rw [h]; clear h; grind
theorem tw_f {i x y r : Fin n} (h : i*(x*y + y*x) = r) : i*(x*y + x*y) = r := by rw [← h]; clear h; grind
end
theorem ext_dbl {D : Fp} (hD : NS D) {P : Fp × Fp} (hP : On D P) {X Y Z T : Fp} (h : Ext X Y Z T P) :
    Ext ((X*Y + X*Y) * (Z*Z + Z*Z - (Y*Y - X*X))) ((Y*Y - X*X) * (Y*Y + X*X)) ((Z*Z + Z*Z - (Y*Y - X*X)) * (Y*Y - X*X)) ((X*Y + X*Y) * (Y*Y + X*X)) (eadd D P P) := by
  have k := h.k
  have hh : Y*Y - X*X = Z*Z*(1 + D*P.1*P.1*P.2*P.2) := by
    rw [s_dbl1 iI_sq k.1 h.y]
    congr 1
    exact s_on hP
  refine ext_of hD hP hP (fp_ne h.z h.z) ?_ ?_ hh ?_
  · exact tw_f (s_f h.x h.y h.x h.y)
  · exact tw_g hh
  · exact s_s iI_sq k.1 h.y k.1 h.y
def dblN (p : N4) : N4 :=
  ⟨fmul (fadd (fmul p.X p.Y) (fmul p.X p.Y)) (fsub (fadd (fmul p.Z p.Z) (fmul p.Z p.Z)) (fsub (fmul p.Y p.Y) (fmul p.X p.X))),
   fmul (fadd (fmul p.Y p.Y) (fmul p.X p.X)) (fsub (fmul p.Y p.Y) (fmul p.X p.X)),
   fmul (fsub (fmul p.Y p.Y) (fmul p.X p.X)) (fsub (fadd (fmul p.Z p.Z) (fmul p.Z p.Z)) (fsub (fmul p.Y p.Y) (fmul p.X p.X))),
   fmul (fadd (fmul p.X p.Y) (fmul p.X p.Y)) (fadd (fmul p.Y p.Y) (fmul p.X p.X))⟩
theorem dblN_ext {p : N4} {P : Fp × Fp} (hP : On dE P) (h : Ext4 p P) : Ext4 (dblN p) (eadd dE P P) := by
  have e := ext_dbl ns_dE hP h
  unfold Ext4 dblN
  rw [fmul_comm (fadd (fmul p.Y p.Y) (fmul p.X p.X)), fmul_comm (fsub (fmul p.Y p.Y) (fmul p.X p.X)) (fsub (fadd (fmul p.Z p.Z) (fmul p.Z p.Z)) (fsub (fmul p.Y p.Y) (fmul p.X p.X)))]
  simp only [cF_mul, cF_add, cF_sub _ _ (fmul_lt _ _), cF_sub _ _ (fsub_lt _ _)]
  exact e
theorem ptwice_pt {p : N4} {P : Fp × Fp} (hp : W6 p P) (w : World) :
    Calls Tryd.prog 57 #[pV p.X p.Y p.Z p.T] w fun e w' => ∃ r : N4, e = .returned (pV r.X r.Y r.Z r.T) ∧ W6 r (eadd dE P P) ∧ Below w.heap.size w w' := by
  have hr : W6 (dblN p) (eadd dE P P) := ⟨⟨fmul_lt _ _, fmul_lt _ _, fmul_lt _ _, fmul_lt _ _⟩, eadd_on ns_dE hp.on hp.on, dblN_ext hp.on hp.ext⟩
  refine (twice_raw p.X p.Y p.Z p.T _ _ _ _ _ _ _ _ _ _ _ _ _
    (fun W => times_any _ _ hp.ok.X hp.ok.X W) (fun W => times_any _ _ hp.ok.Y hp.ok.Y W) (fun W => times_any _ _ hp.ok.Z hp.ok.Z W) (fun W => times_any _ _ hp.ok.X hp.ok.Y W)
    (fun W => minus_any _ _ (fmul_lt _ _) (fmul_lt _ _) W) (fun W => plus_any _ _ (fmul_lt _ _) (fmul_lt _ _) W) (fun W => plus_any _ _ (fmul_lt _ _) (fmul_lt _ _) W) (fun W => plus_any _ _ (fmul_lt _ _) (fmul_lt _ _) W) (fun W => minus_any _ _ (fadd_lt _ _) (fsub_lt _ _) W)
    (fun W => quot_any _ _ _ _ (fadd_lt _ _) (fsub_lt _ _) (fadd_lt _ _) (fsub_lt _ _) W) w).mono ?_
  rintro e w' ⟨rfl, hb⟩
  exact ⟨dblN p, rfl, hr, hb⟩
theorem zero_at : fmul 0 1 = 0 := by decide
theorem z_ne {p : N4} {P : Fp × Fp} (h : Ext4 p P) : (decide (p.X = 0) && decide (p.Y = 0) && decide (p.Z = 0) && decide (p.T = 0)) = false := by
  have hz : p.Z ≠ 0 := fun e => h.z (by rw [e]; exact cF_zero)
  rw [decide_eq_false hz, Bool.and_false, Bool.false_and]
set_option maxRecDepth 20000 in
set_option maxHeartbeats 4000000 in
theorem pwhole_pt {c : List Value} {P : Fp × Fp} (h : R6 c P) (w : World) :
    Calls Tryd.prog 49 #[.agg c.toArray] w fun e w' => ∃ r : N4, e = .returned (.agg (p16 r.X r.Y r.Z r.T).toArray) ∧ W6 r P ∧ Below w.heap.size w w' := by
  obtain ⟨p, rfl, hok, hon, hd⟩ := h
  have hzp := zeroP
  obtain ⟨V1, g1, eg1, hg1, bg1, hp⟩ : ∃ V g, w.alloc (.cells (p16 p.X p.Y p.Z p.T).toArray 30) = V ∧ w.heap.size = g ∧ Below w.heap.size w V ∧ RW V g 0 (p16 p.X p.Y p.Z p.T) := ⟨_, _, rfl, rfl, (Below.refl _ _).alloc (Nat.le_refl _) _, RW.fresh w _ _⟩
  obtain ⟨W, g2, eg2, hg2, bg2, hres⟩ := fresh16 V1
  have t1 : V1.heap.size = w.heap.size + 1 := by rw [← eg1]; simp
  have HW : Hid (W = (w.alloc (.cells (p16 p.X p.Y p.Z p.T).toArray 30)).alloc (.cells zP 30)) := Hid.mk' (by rw [← eg2, ← eg1])
  have q1 : Hid (w.heap.size = g1) := Hid.mk' hg1
  have q2 : Hid (w.heap.size + 1 = g2) := Hid.mk' (by omega)
  replace hp := hp.still bg2
  have hbW : Below w.heap.size w W := bg1.trans (bg2.mono (by omega))
  have w2 : w.heap.size ≤ g2 := by omega
  clear eg1 eg2 hg1 hg2 bg1 bg2 t1 V1
  rcases hd with ⟨e0, e1, e2, e3, eP⟩ | hx
  · have hz : (decide (p.X = 0) && decide (p.Y = 0) && decide (p.Z = 0) && decide (p.T = 0)) = true := by rw [e0, e1, e2, e3]; rfl
    have c1 : ∀ W, Calls Tryd.prog 63 #[.int .i64 1] W fun e w' => e = .returned (.agg (c4 1).toArray) ∧ Below W.heap.size W w' := fsmall_pos 1 (by decide)
    have ca : ∀ W, Calls Tryd.prog 38 #[.agg (c4 0).toArray, .agg (c4 1).toArray] W fun e w' => e = .returned (.agg (p16 0 1 1 0).toArray) ∧ Below W.heap.size W w' := fun W => by
      have k := pat_any 0 1 (by decide) (by decide) W
      rw [zero_at] at k
      exact k
    subst eP
    have Hz := Hid.mk' hz
    clear e0 e1 e2 e3 hz
    go_enter Tryd.func49, Tryd.ntmps49
    go_wp2_with (first
      | (rw [← HW.out, q2.out, q1.out]; refine wpList_load_mid rfl 30 _ rfl g1 0 rfl (p16 p.X p.Y p.Z p.T) _ hp.range Tryd.underlying30 rfl (info16 _ _ _ _) ?_; clear HW q1 q2)
      | (refine wpList_build0 rfl 30 rfl _ builtP0 ?_)
      | (refine wpList_eqp rfl _ _ _ rfl p hok rfl rfl true Hz.out ?_; clear Hz)
      | (refine wpList_build0 rfl 28 rfl _ built0 ?_)
      | (go_at_call 63; refine (c1 _).mono ?_; clear c1; rintro e w1 ⟨rfl, hb1⟩; (replace hres := hres.still hb1); (replace hbW := below_next hbW hb1); clear hb1)
      | (go_at_call 38; refine (ca _).mono ?_; clear ca; rintro e w2' ⟨rfl, hb2⟩; (replace hres := hres.still hb2); (replace hbW := below_next hbW hb2); clear hb2; (have t6 : w2'.there g2 0 (p16 0 1 1 0).toArray.size := thr16 hres _ _ _ _))
      | (with_reducible (refine id (?_ : wpList _ _ _ _ _ _)); refine wpList_store_mid rfl 30 _ _ rfl g2 0 (p16 0 1 1 0).toArray rfl rfl t6 (info16A _ _ _ _) (one16 _ _ _ _) ?_))
    (try simp only [Exit.inBlock, Exit.then])
    exact bodyPost_ret (results_cell_mid Tryd.results49 _ _ g2 0 (p16 0 1 1 0) _ rfl (hres.stored (p16 0 1 1 0) (p16_same _ _ _ _ _ _ _ _)).range Tryd.underlying30 rfl (info16 _ _ _ _)) rfl ⟨zeroN, rfl, ⟨zeroN_ok, hon, zeroN_ext⟩, below_setCells w2 _ _ _ hbW⟩
  · have hz := z_ne hx
    have Hz := Hid.mk' hz
    clear hz
    have t6 : W.there g2 0 (p16 p.X p.Y p.Z p.T).toArray.size := thr16 hres _ _ _ _
    go_enter Tryd.func49, Tryd.ntmps49
    go_wp2_with (first
      | (rw [← HW.out, q2.out, q1.out]; refine wpList_load_mid rfl 30 _ rfl g1 0 rfl (p16 p.X p.Y p.Z p.T) _ hp.range Tryd.underlying30 rfl (info16 _ _ _ _) ?_; clear HW q1 q2)
      | (refine wpList_load_mid rfl 30 _ rfl g1 0 rfl (p16 p.X p.Y p.Z p.T) _ hp.range Tryd.underlying30 rfl (info16 _ _ _ _) ?_)
      | (refine wpList_build0 rfl 30 rfl _ builtP0 ?_)
      | (refine wpList_eqp rfl _ _ _ rfl p hok rfl rfl false Hz.out ?_; clear Hz)
      | (with_reducible (refine id (?_ : wpList _ _ _ _ _ _)); refine wpList_store_mid rfl 30 _ _ rfl g2 0 (p16 p.X p.Y p.Z p.T).toArray rfl rfl t6 (info16A _ _ _ _) (one16 _ _ _ _) ?_))
    (try simp only [Exit.inBlock, Exit.then])
    exact bodyPost_ret (results_cell_mid Tryd.results49 _ _ g2 0 (p16 p.X p.Y p.Z p.T) _ rfl (hres.stored (p16 p.X p.Y p.Z p.T) (p16_same _ _ _ _ _ _ _ _)).range Tryd.underlying30 rfl (info16 _ _ _ _)) rfl ⟨p, rfl, ⟨hok, hon, hx⟩, below_setCells w2 _ _ _ hbW⟩
end Go.Proofs.YteekjcfbnoakgaaDoor
namespace Go.Proofs.YteekjcfbnoakgaaDoor
open Go.RowKit
set_option maxRecDepth 20000 in
set_option maxHeartbeats 4000000 in
theorem peqb_any {w : World} {v u : Value} {S T : ByteArray} (hv : Str w v S) (hu : Str w u T) :
    Calls Tryd.prog 36 #[v, u] w fun e w' => e = .returned (.bool (S.toList == T.toList)) ∧ Below w.heap.size w w' := by
  have q1 := hv.conv w (Below.refl _ _)
  have q2 := hu.conv w (Below.refl _ _)
  obtain ⟨x1, n1, k1, rfl⟩ := hv.form
  obtain ⟨x2, n2, k2, rfl⟩ := hu.form
  clear hv hu
  go_enter Tryd.func36, Tryd.ntmps36
  go_wp2
  go_ret
  exact ⟨rfl, Below.refl _ _⟩
theorem num_str {a b : Nat} (ha : a < pF) (hb : b < pF) : ((strB 32 (byt a)).toList == (strB 32 (byt b)).toList) = decide (a = b) := by
  by_cases h : a = b
  · subst h; rw [decide_eq_true rfl]; exact beq_self_eq_true _
  · rw [decide_eq_false h, ByteArray.toList_eq, ByteArray.toList_eq]
    exact beq_false_of_ne (fun e => h (val_of_byt ha hb ((strB_eq (byt_all a) (byt_all b)).1 (WideShapes.bytes_inj e)).2))
theorem bytes_str (n : Nat) (w : World) : Calls Tryd.prog 65 #[numV n] w fun e w' => ∃ v, e = .returned v ∧ Str w' v (strB 32 (byt n)) ∧ Below w.heap.size w w' :=
  (bytes_any n w).mono fun _ _ ⟨g, he, hg, hr, hb⟩ => ⟨_, he, Str.of (NewB.bytes ⟨g, rfl, hg, hr⟩ (by decide)) (byt_all n), hb⟩
set_option maxRecDepth 20000 in
set_option maxHeartbeats 4000000 in
theorem pequal_any (a b : Nat) (ha : a < pF) (hb : b < pF) (w : World) :
    Calls Tryd.prog 50 #[numV a, numV b] w fun e w' => e = .returned (.bool (decide (a = b))) ∧ Below w.heap.size w w' := by
  have hse := num_str ha hb
  have cB1 := bytes_str a
  have cB2 := bytes_str b
  generalize strB 32 (byt a) = Sa at *
  generalize strB 32 (byt b) = Sb at *
  rw [← hse]
  have Hs := Hid.mk' hse
  clear hse ha hb
  obtain ⟨hA, hB⟩ := two_rows w (c4 a) (c4 b) 28
  obtain ⟨W, hW⟩ : ∃ W, W = (w.alloc (.cells (c4 a).toArray 28)).alloc (.cells (c4 b).toArray 28) := ⟨_, rfl⟩
  have hw : Below w.heap.size w W := by rw [hW]; exact ((Below.refl _ _).alloc (Nat.le_refl _) _).alloc (by simp) _
  rw [← hW] at hA hB
  have HW := Hid.mk' hW
  obtain ⟨g2, hg2⟩ : ∃ g, w.heap.size = g := ⟨_, rfl⟩
  obtain ⟨g3, hg3⟩ : ∃ g, w.heap.size + 1 = g := ⟨_, rfl⟩
  rw [hg2] at hA
  rw [hg3] at hB
  have H2 := Hid.mk' hg2
  have H3 := Hid.mk' hg3
  clear hW hg2 hg3
  rw [show numV a = .agg (c4 a).toArray from rfl, show numV b = .agg (c4 b).toArray from rfl]
  go_enter Tryd.func50, Tryd.ntmps50
  go_wp2
  rw [← HW.out, H3.out, H2.out]
  clear HW H2 H3 Hs
  have hdrew : Below W.heap.size W W.drew := (Below.refl _ _).drew
  replace hA := hA.still hdrew
  replace hB := hB.still hdrew
  replace hw := below_next hw hdrew
  clear hdrew
  refine wp_region_noPanic ?_
  refine wp_region_held_drew (S := fun w' => Below W.drew.heap.size W.drew w') (by kernel_rfl) (Below.refl _ _) (fun hHeld => ?_)
  clear hHeld
  refine wpAnyH_take (i := 0) (oi := { dst := some 5, op := Op.load 28 (Operand.tmp 2), type := 28, pos := "curve.go:103", after := #[], guard := none }) (v := numV a) rfl (by kernel_rfl) (by kernel_rfl) (by kernel_rfl) (fun _ _ _ h => h) (yieldsIf_load_mid (by rfl) 28 _ rfl g2 0 rfl (c4 a) _ (fun _ h => (hA.still h).range) Tryd.underlying28 rfl info4) (Below.refl _ _) ?_
  (try simp only [Act.put, List.setIfInBounds_toArray, List.set_cons_zero, List.set_cons_succ])
  refine wpAnyH_take (i := 2) (oi := { dst := some 7, op := Op.load 28 (Operand.tmp 3), type := 28, pos := "curve.go:103", after := #[], guard := none }) (v := numV b) rfl (by kernel_rfl) (by kernel_rfl) (by kernel_rfl) (fun _ _ _ h => h) (yieldsIf_load_mid (by rfl) 28 _ rfl g3 0 rfl (c4 b) _ (fun _ h => (hB.still h).range) Tryd.underlying28 rfl info4) (Below.refl _ _) ?_
  (try simp only [Act.put, List.setIfInBounds_toArray, List.set_cons_zero, List.set_cons_succ])
  refine wpAnyH_ready (rs := [1]) (by kernel_rfl) (by simp) ?_
  refine AllReadyH.cons (o := { dst := some 6, op := Op.call { callee := Callee.value (Operand.func 65), args := #[Operand.tmp 5], argTypes := #[28] }, type := 22, pos := "curve.go:103", after := #[{ on := 0, ground := Ground.data }], guard := none }) rfl (fun K hK => ?_) AllReadyH.nil
  go_simp
  (go_at_call 65; refine (cB1 _).mono ?_; clear cB1; rintro e w1 ⟨v1, rfl, t1, hb1⟩; (obtain ⟨x1, n1, k1, rfl⟩ := t1.form))
  (try go_simp)
  refine hK.out _ _ hb1 (fun h => ?_)
  clear h hK K
  refine wpAnyH_narrow (S' := fun w' => Below w1.heap.size w1 w') (fun _ h => below_next hb1 h) _ _ _ _ ?_
  clear hA
  replace hB := hB.still hb1
  replace hw := below_next hw hb1
  clear hb1
  (try simp only [Act.put, List.setIfInBounds_toArray, List.set_cons_zero, List.set_cons_succ])
  refine wpAnyH_ready (rs := [3]) (by kernel_rfl) (by simp) ?_
  refine AllReadyH.cons (o := { dst := some 8, op := Op.call { callee := Callee.value (Operand.func 65), args := #[Operand.tmp 7], argTypes := #[28] }, type := 22, pos := "curve.go:103", after := #[{ on := 2, ground := Ground.data }, { on := 1, ground := Ground.chain }], guard := none }) rfl (fun K hK => ?_) AllReadyH.nil
  go_simp
  (go_at_call 65; refine (cB2 _).mono ?_; clear cB2; rintro e w2 ⟨v2, rfl, t2, hb2⟩; (obtain ⟨x2, n2, k2, rfl⟩ := t2.form))
  (try go_simp)
  refine hK.out _ _ hb2 (fun h => ?_)
  clear h hK K
  refine wpAnyH_narrow (S' := fun w' => Below w2.heap.size w2 w') (fun _ h => below_next hb2 h) _ _ _ _ ?_
  clear hB
  replace t1 := t1.still hb2
  replace hw := below_next hw hb2
  clear hb2
  (try simp only [Act.put, List.setIfInBounds_toArray, List.set_cons_zero, List.set_cons_succ])
  refine wpAnyH_ready (rs := [4]) (by kernel_rfl) (by simp) ?_
  refine AllReadyH.cons (o := { dst := some 9, op := Op.call { callee := Callee.value (Operand.func 36), args := #[Operand.tmp 6, Operand.tmp 8], argTypes := #[22, 22] }, type := 4, pos := "curve.go:103", after := #[{ on := 1, ground := Ground.data }, { on := 3, ground := Ground.data }, { on := 3, ground := Ground.chain }], guard := none }) rfl (fun K hK => ?_) AllReadyH.nil
  go_simp
  (go_at_call 36; refine (peqb_any t1 t2).mono ?_; rintro e w3 ⟨rfl, hb3⟩)
  (try go_simp)
  refine hK.out _ _ hb3 (fun h => ?_)
  clear h hK K
  refine wpAnyH_narrow (S' := fun w' => Below w3.heap.size w3 w') (fun _ h => below_next hb3 h) _ _ _ _ ?_
  clear t1
  clear t2
  replace hw := below_next hw hb3
  clear hb3
  (try simp only [Act.put, List.setIfInBounds_toArray, List.set_cons_zero, List.set_cons_succ])
  refine wpAnyH_take (i := 5) (oi := { dst := some 4, op := Op.assign (Operand.tmp 9), type := 4, pos := "curve.go:103", after := #[{ on := 4, ground := Ground.data }, { on := 4, ground := Ground.chain }, { on := 0, ground := Ground.phase }, { on := 1, ground := Ground.phase }, { on := 2, ground := Ground.phase }, { on := 3, ground := Ground.phase }, { on := 4, ground := Ground.phase }], guard := none }) (v := ?va5) rfl (by kernel_rfl) (by kernel_rfl) (by kernel_rfl) (fun _ _ _ h => h) (Or.inl ⟨by rfl, ?ha5⟩) (Below.refl _ _) ?ra5
  case ha5 =>
    intro w hSw
    go_simp
    try with_reducible rfl
  (try simp only [Act.put, List.setIfInBounds_toArray, List.set_cons_zero, List.set_cons_succ])
  refine wpAnyH_done (by kernel_rfl) ?_ _
  refine NoPanic.normal ?_
  go_wp2
  go_ret
  exact ⟨rfl, hw⟩
theorem byt0_odd {x : Nat} (h : x % 2 = 1) : bits .and .u8 (byt x 0 : Int) 1 = 1 := by
  rw [and1_u8 (byt x 0) (byt_lt x 0), byt0_mod x, h]; rfl
theorem byt0_even {x : Nat} (h : x % 2 = 0) : bits .and .u8 (byt x 0 : Int) 1 = 0 := by
  rw [and1_u8 (byt x 0) (byt_lt x 0), byt0_mod x, h]; rfl
theorem or_high {y : Nat} (hy : y < pF) : bits .or .u8 (byt y 31 : Int) 128 = ((byt y 31 + 128 : Nat) : Int) := by
  have := enc_bit (byt y 31) (byt31_lt hy) 1 (by decide)
  exact this
set_option maxRecDepth 20000 in
set_option maxHeartbeats 4000000 in
theorem bytesOf_any (x y : Nat) (hy : y < pF) (w : World) :
    Calls Tryd.prog 37 #[numV x, numV y] w fun e w' => ∃ s, e = .returned s ∧ NewC w w' s 32 (encXY x y) ∧ Below w.heap.size w w' := by
  have e3 := or_high hy
  have cy : ∀ W, Calls Tryd.prog 65 #[.agg (c4 y).toArray] W fun e w' => ∃ g, e = .returned (.slice (some ⟨g, 0, none⟩) 32 32) ∧ W.heap.size ≤ g ∧ RowAt .u8 w' g 0 32 (byt y) ∧ Below W.heap.size W w' := bytes_any y
  have cx : ∀ W, Calls Tryd.prog 65 #[.agg (c4 x).toArray] W fun e w' => ∃ g, e = .returned (.slice (some ⟨g, 0, none⟩) 32 32) ∧ W.heap.size ≤ g ∧ RowAt .u8 w' g 0 32 (byt x) ∧ Below W.heap.size W w' := bytes_any x
  obtain ⟨hA, hB⟩ := two_rows w (c4 x) (c4 y) 28
  obtain ⟨W, hW⟩ : ∃ W, W = (w.alloc (.cells (c4 x).toArray 28)).alloc (.cells (c4 y).toArray 28) := ⟨_, rfl⟩
  have hw : Below w.heap.size w W := by rw [hW]; exact ((Below.refl _ _).alloc (Nat.le_refl _) _).alloc (by simp) _
  rw [← hW] at hA hB
  have HW := Hid.mk' hW
  obtain ⟨g2, hg2⟩ : ∃ g, w.heap.size = g := ⟨_, rfl⟩
  obtain ⟨g3, hg3⟩ : ∃ g, w.heap.size + 1 = g := ⟨_, rfl⟩
  rw [hg2] at hA
  rw [hg3] at hB
  have H2 := Hid.mk' hg2
  have H3 := Hid.mk' hg3
  clear hW hg2 hg3
  rw [show numV x = .agg (c4 x).toArray from rfl, show numV y = .agg (c4 y).toArray from rfl]
  go_enter Tryd.func37, Tryd.ntmps37
  rcases Nat.mod_two_eq_zero_or_one x with hp | hp
  · have e1 := byt0_even hp
    go_wp2_with (first
      | (rw [← HW.out, H3.out, H2.out]; refine wpList_load_mid rfl 28 _ rfl g3 0 rfl (c4 y) _ hB.range Tryd.underlying28 rfl info4 ?_; clear HW H2 H3)
      | (go_at_call 65; refine (cy _).mono ?_; clear cy hB; rintro e w1 ⟨gy, rfl, hgy, ry, hb1⟩; (have sb := hw.size); (replace hA := hA.still hb1); (replace hw := below_next hw hb1); clear hb1; (have lgy := block_lt_of_cell (ry 0 (by decide)).1); (have wgy : w.heap.size ≤ gy := Nat.le_trans sb hgy); clear sb)
      | (refine wpList_load_mid rfl 28 _ rfl g2 0 rfl (c4 x) _ hA.range Tryd.underlying28 rfl info4 ?_)
      | (go_at_call 65; refine (cx _).mono ?_; clear cx hA; rintro e w2 ⟨gx, rfl, hgx, rx, hb2⟩; (replace ry := ry.below hb2 lgy); (replace hw := below_next hw hb2); clear hb2; (have c0 := (rx 0 (by decide)).1); rw [Nat.zero_add] at c0))
    go_ret
    refine ⟨_, rfl, ⟨gy, 32, rfl, Nat.le_refl _, wgy, ry.congr fun j hj => ?_⟩, hw⟩
    unfold encXY
    rw [hp]
    split
    · next h => rw [h, Nat.mul_zero, Nat.add_zero]
    · rfl
  · have e1 := byt0_odd hp
    go_wp2_with (first
      | (rw [← HW.out, H3.out, H2.out]; refine wpList_load_mid rfl 28 _ rfl g3 0 rfl (c4 y) _ hB.range Tryd.underlying28 rfl info4 ?_; clear HW H2 H3)
      | (go_at_call 65; refine (cy _).mono ?_; clear cy hB; rintro e w1 ⟨gy, rfl, hgy, ry, hb1⟩; (have sb := hw.size); (replace hA := hA.still hb1); (replace hw := below_next hw hb1); clear hb1; (have lgy := block_lt_of_cell (ry 0 (by decide)).1); (have wgy : w.heap.size ≤ gy := Nat.le_trans sb hgy); clear sb)
      | (refine wpList_load_mid rfl 28 _ rfl g2 0 rfl (c4 x) _ hA.range Tryd.underlying28 rfl info4 ?_)
      | (go_at_call 65; refine (cx _).mono ?_; clear cx hA; rintro e w2 ⟨gx, rfl, hgx, rx, hb2⟩; (replace ry := ry.below hb2 lgy); (replace hw := below_next hw hb2); clear hb2; (have c0 := (rx 0 (by decide)).1); rw [Nat.zero_add] at c0; (have c31 := (ry 31 (by decide)).1); rw [Nat.zero_add] at c31; (have f31 := (ry 31 (by decide)).2); rw [Nat.zero_add] at f31))
    have r31 := ry.set (i := 31) (by decide) (v := (byt y 31 : Int) + 128) (u := byt y 31 + 128) (Int.natCast_add _ _).symm
    rw [Nat.zero_add] at r31
    go_ret
    refine ⟨_, rfl, ⟨gy, 32, rfl, Nat.le_refl _, wgy, r31.congr fun j hj => ?_⟩, ?_⟩
    · unfold upd encXY
      rw [hp]
    · exact below_setCells wgy [_] 31 _ hw
end Go.Proofs.YteekjcfbnoakgaaDoor
namespace Go.Proofs.YteekjcfbnoakgaaDoor
open Go.RowKit
abbrev qm1x1 : Oper := { dst := some 6, op := Op.call { callee := Callee.value (Operand.func 49), args := #[Operand.tmp 5], argTypes := #[30] }, type := 30, pos := "point.go:57", after := #[{ on := 0, ground := Ground.data }], guard := none }
abbrev qm1x3 : Oper := { dst := some 8, op := Op.call { callee := Callee.value (Operand.func 49), args := #[Operand.tmp 7], argTypes := #[30] }, type := 30, pos := "point.go:57", after := #[{ on := 2, ground := Ground.data }, { on := 1, ground := Ground.chain }], guard := none }
abbrev qm1x4 : Oper := { dst := some 9, op := Op.call { callee := Callee.value (Operand.func 58), args := #[Operand.tmp 6, Operand.tmp 8], argTypes := #[30, 30] }, type := 30, pos := "point.go:57", after := #[{ on := 1, ground := Ground.data }, { on := 3, ground := Ground.data }, { on := 3, ground := Ground.chain }], guard := none }
abbrev qm1x5 : Oper := { dst := none, op := Op.store 30 (Operand.tmp 4) (Operand.tmp 9), type := 0, pos := "point.go:57", after := #[{ on := 4, ground := Ground.data }, { on := 4, ground := Ground.chain }, { on := 0, ground := Ground.phase }, { on := 1, ground := Ground.phase }, { on := 2, ground := Ground.phase }, { on := 3, ground := Ground.phase }, { on := 4, ground := Ground.phase }], guard := none }
abbrev qm2x3 : Oper := { dst := some 9, op := Op.call { callee := Callee.value (Operand.func 35), args := #[Operand.tmp 6, Operand.tmp 8], argTypes := #[28, 28] }, type := 28, pos := "point.go:63", after := #[{ on := 0, ground := Ground.data }, { on := 2, ground := Ground.data }], guard := none }
abbrev qm2x11 : Oper := { dst := some 17, op := Op.call { callee := Callee.value (Operand.func 35), args := #[Operand.tmp 14, Operand.tmp 16], argTypes := #[28, 28] }, type := 28, pos := "point.go:63", after := #[{ on := 8, ground := Ground.data }, { on := 10, ground := Ground.data }, { on := 3, ground := Ground.chain }], guard := none }
abbrev qm2x13 : Oper := { dst := none, op := Op.store 30 (Operand.tmp 2) (Operand.tmp 18), type := 0, pos := "point.go:63", after := #[{ on := 12, ground := Ground.data }, { on := 11, ground := Ground.chain }, { on := 0, ground := Ground.phase }, { on := 1, ground := Ground.phase }, { on := 2, ground := Ground.phase }, { on := 3, ground := Ground.phase }, { on := 4, ground := Ground.phase }, { on := 5, ground := Ground.phase }, { on := 6, ground := Ground.phase }, { on := 7, ground := Ground.phase }, { on := 8, ground := Ground.phase }, { on := 9, ground := Ground.phase }, { on := 10, ground := Ground.phase }, { on := 11, ground := Ground.phase }, { on := 12, ground := Ground.phase }], guard := none }
set_option maxRecDepth 20000 in
set_option maxHeartbeats 4000000 in
theorem pzero_pt (w : World) : Calls Tryd.prog 15 #[] w fun e w' => e = .returned (.agg (p16 0 0 0 0).toArray) ∧ Below w.heap.size w w' := by
  have hzp := zeroP
  obtain ⟨W, g, eW, hg, b, h0⟩ := fresh16 w
  have HW : Hid (w.alloc (.cells zP 30) = W) := Hid.mk' eW
  have Hg : Hid (w.heap.size = g) := Hid.mk' hg
  have wg : w.heap.size ≤ g := Nat.le_of_eq hg
  have t0 : W.there g 0 (p16 0 0 0 0).toArray.size := h0.there
  clear eW hg
  go_enter Tryd.func15, Tryd.ntmps15
  go_wp2_with (first
    | (refine wpList_build0 rfl 30 rfl _ builtP0 ?_)
    | (with_reducible (refine id (?_ : wpList _ _ _ _ _ _)); rw [HW.out, Hg.out]; refine wpList_store_mid rfl 30 _ _ rfl g 0 (p16 0 0 0 0).toArray rfl rfl t0 (info16A _ _ _ _) (one16 _ _ _ _) ?_; clear HW Hg))
  (try simp only [Exit.inBlock, Exit.then])
  exact bodyPost_ret (results_cell_mid Tryd.results15 _ _ g 0 (p16 0 0 0 0) _ rfl (h0.stored (p16 0 0 0 0) rfl).range Tryd.underlying30 rfl (info16 _ _ _ _)) rfl ⟨rfl, below_setCells wg _ _ _ b⟩
theorem base_w6 : W6 (ofXY xB yB) baseP := ⟨ofXY_ok xB_lt yB_lt, base_on, ofXY_ext _ _⟩
set_option maxRecDepth 20000 in
set_option maxHeartbeats 4000000 in
theorem pbase_pt (w : World) : Calls Tryd.prog 18 #[] w fun e w' => ∃ c, e = .returned (.agg c.toArray) ∧ R6 c baseP ∧ Below w.heap.size w w' := by
  have hzp := zeroP
  have hr : R6 (p16 xB yB 1 (fmul xB yB)) baseP := base_w6.r6
  have cx : ∀ W, Calls Tryd.prog 54 #[] W fun e w' => e = .returned (.agg (c4 xB).toArray) ∧ Below W.heap.size W w' := baseX_any
  have cy : ∀ W, Calls Tryd.prog 55 #[] W fun e w' => e = .returned (.agg (c4 yB).toArray) ∧ Below W.heap.size W w' := baseY_any
  have ca : ∀ W, Calls Tryd.prog 38 #[.agg (c4 xB).toArray, .agg (c4 yB).toArray] W fun e w' => e = .returned (.agg (p16 xB yB 1 (fmul xB yB)).toArray) ∧ Below W.heap.size W w' := fun W => pat_any xB yB xB_lt yB_lt W
  generalize fmul xB yB = tb at *
  generalize xB = xb at *
  generalize yB = yb at *
  generalize baseP = pb at *
  obtain ⟨W, g, eW, hg, b, h0⟩ := fresh16 w
  have HW : Hid (w.alloc (.cells zP 30) = W) := Hid.mk' eW
  have Hg : Hid (w.heap.size = g) := Hid.mk' hg
  have wg : w.heap.size ≤ g := Nat.le_of_eq hg
  clear eW hg
  go_enter Tryd.func18, Tryd.ntmps18
  go_wp2_with (first
    | (go_at_call 54; rw [HW.out, Hg.out]; refine (cx _).mono ?_; clear cx HW Hg; rintro e w1 ⟨rfl, hb1⟩; (replace h0 := h0.still hb1); (replace b := below_next b hb1); clear hb1)
    | (go_at_call 55; refine (cy _).mono ?_; clear cy; rintro e w2 ⟨rfl, hb2⟩; (replace h0 := h0.still hb2); (replace b := below_next b hb2); clear hb2)
    | (go_at_call 38; refine (ca _).mono ?_; clear ca; rintro e w3 ⟨rfl, hb3⟩; (replace h0 := h0.still hb3); (replace b := below_next b hb3); clear hb3; (have t0 : w3.there g 0 (p16 xb yb 1 tb).toArray.size := h0.there))
    | (with_reducible (refine id (?_ : wpList _ _ _ _ _ _)); refine wpList_store_mid rfl 30 _ _ rfl g 0 (p16 xb yb 1 tb).toArray rfl rfl t0 (info16A _ _ _ _) (one16 _ _ _ _) ?_))
  (try simp only [Exit.inBlock, Exit.then])
  exact bodyPost_ret (results_cell_mid Tryd.results18 _ _ g 0 (p16 xb yb 1 tb) _ rfl (h0.stored (p16 xb yb 1 tb) rfl).range Tryd.underlying30 rfl (info16 _ _ _ _)) rfl ⟨_, rfl, hr, below_setCells wg _ _ _ b⟩
set_option maxRecDepth 20000 in
set_option maxHeartbeats 8000000 in
theorem pplus_pt {c d : List Value} {P Q : Fp × Fp} (hP : R6 c P) (hQ : R6 d Q) (w : World) :
    Calls Tryd.prog 24 #[.agg c.toArray, .agg d.toArray] w fun e w' => ∃ c', e = .returned (.agg c'.toArray) ∧ R6 c' (eadd dE P Q) ∧ Below w.heap.size w w' := by
  have hzp := zeroP
  have kc := fun W => pwhole_pt hP W
  have kd := fun W => pwhole_pt hQ W
  have lc := hP.len
  have ld := hQ.len
  clear hP hQ
  obtain ⟨V1, g2, eg2, hg2, bg2, hc⟩ : ∃ V g, w.alloc (.cells c.toArray 30) = V ∧ w.heap.size = g ∧ Below w.heap.size w V ∧ RW V g 0 c := ⟨_, _, rfl, rfl, (Below.refl _ _).alloc (Nat.le_refl _) _, RW.fresh w _ _⟩
  obtain ⟨V2, g3, eg3, hg3, bg3, hd⟩ : ∃ V g, V1.alloc (.cells d.toArray 30) = V ∧ V1.heap.size = g ∧ Below V1.heap.size V1 V ∧ RW V g 0 d := ⟨_, _, rfl, rfl, (Below.refl _ _).alloc (Nat.le_refl _) _, RW.fresh V1 _ _⟩
  obtain ⟨W, g4, eg4, hg4, bg4, hres⟩ := fresh16 V2
  have t1 : V1.heap.size = w.heap.size + 1 := by rw [← eg2]; simp
  have t2 : V2.heap.size = V1.heap.size + 1 := by rw [← eg3]; simp
  have HW : Hid (W = ((w.alloc (.cells c.toArray 30)).alloc (.cells d.toArray 30)).alloc (.cells zP 30)) := Hid.mk' (by rw [← eg4, ← eg3, ← eg2])
  have q2 : Hid (w.heap.size = g2) := Hid.mk' hg2
  have q3 : Hid (w.heap.size + 1 = g3) := Hid.mk' (by omega)
  have q4 : Hid (w.heap.size + 1 + 1 = g4) := Hid.mk' (by omega)
  replace hc := (hc.still bg3).still bg4
  replace hd := hd.still bg4
  have hbW : Below w.heap.size w W := (bg2.trans (bg3.mono (by omega))).trans (bg4.mono (by omega))
  have w4 : w.heap.size ≤ g4 := by omega
  have n24 : g2 ≠ g4 := by omega
  have n34 : g3 ≠ g4 := by omega
  have l4 := hres.lt
  clear eg2 eg3 eg4 hg2 hg3 hg4 bg2 bg3 bg4 t1 t2 V1 V2
  go_enter Tryd.func24, Tryd.ntmps24
  go_upto_region 1 with (fail)
  rw [← HW.out, q4.out, q3.out, q2.out]
  clear HW q4 q3 q2
  have hdrew : Below W.heap.size W W.drew := (Below.refl _ _).drew
  replace hc := hc.still hdrew
  replace hd := hd.still hdrew
  replace hres := hres.still hdrew
  refine wp_region_noPanic ?_
  replace l4 := Nat.lt_of_lt_of_le l4 hdrew.size
  refine wp_region_held_drew (S := fun w' => Out g4 0 16 W.drew w') (by kernel_rfl) (Out.refl _ _ _ _) (fun hS => ?_)
  generalize W.drew = Vm1_ at *
  refine wpAnyH_take (i := 0) (oi := { dst := some 5, op := Op.load 30 (Operand.tmp 2), type := 30, pos := "point.go:57", after := #[], guard := none }) (v := .agg c.toArray) rfl (by kernel_rfl) (by kernel_rfl) (by kernel_rfl) (fun _ _ _ h => h) (yieldsIf_load_mid (by rfl) 30 _ rfl g2 0 rfl (c) _ (fun _ h => (hc.out h n24).range) Tryd.underlying30 rfl (infoP lc)) hS ?_
  (try simp only [Act.put, List.setIfInBounds_toArray, List.set_cons_zero, List.set_cons_succ])
  refine wpAnyH_take (i := 2) (oi := { dst := some 7, op := Op.load 30 (Operand.tmp 3), type := 30, pos := "point.go:57", after := #[], guard := none }) (v := .agg d.toArray) rfl (by kernel_rfl) (by kernel_rfl) (by kernel_rfl) (fun _ _ _ h => h) (yieldsIf_load_mid (by rfl) 30 _ rfl g3 0 rfl (d) _ (fun _ h => (hd.out h n34).range) Tryd.underlying30 rfl (infoP ld)) hS ?_
  (try simp only [Act.put, List.setIfInBounds_toArray, List.set_cons_zero, List.set_cons_succ])
  refine wpAnyH_ready (rs := [1]) (by kernel_rfl) (by simp) ?_
  refine AllReadyH.cons (o := qm1x1) rfl (fun K hK => ?_) (AllReadyH.nil)
  unfold qm1x1
  go_simp
  (go_at_call 49; refine (kc _).mono ?_; clear kc; rintro e wm1_1 ⟨r1, rfl, hr1, hbm1_1⟩)
  (try go_simp)
  have hSm1_1 := hS.trans (Out.of_below hbm1_1 l4)
  replace l4 := Nat.lt_of_lt_of_le l4 hbm1_1.size
  replace hres := hres.still hbm1_1
  refine hK.out _ _ hSm1_1 (fun h => ?_)
  clear h hK K hbm1_1
  (try simp only [Act.put, List.setIfInBounds_toArray, List.set_cons_zero, List.set_cons_succ])
  refine wpAnyH_ready (rs := [3]) (by kernel_rfl) (by simp) ?_
  refine AllReadyH.cons (o := qm1x3) rfl (fun K hK => ?_) (AllReadyH.nil)
  unfold qm1x3
  go_simp
  (go_at_call 49; refine (kd _).mono ?_; clear kd; rintro e wm1_2 ⟨r2, rfl, hr2, hbm1_2⟩)
  (try go_simp)
  have hSm1_2 := hSm1_1.trans (Out.of_below hbm1_2 l4)
  replace l4 := Nat.lt_of_lt_of_le l4 hbm1_2.size
  replace hres := hres.still hbm1_2
  refine hK.out _ _ hSm1_2 (fun h => ?_)
  clear h hK K hbm1_2
  (try simp only [Act.put, List.setIfInBounds_toArray, List.set_cons_zero, List.set_cons_succ])
  refine wpAnyH_ready (rs := [4]) (by kernel_rfl) (by simp) ?_
  refine AllReadyH.cons (o := qm1x4) rfl (fun K hK => ?_) (AllReadyH.nil)
  unfold qm1x4
  go_simp
  (go_at_call 58; refine (padd_pt hr1 hr2 _).mono ?_; rintro e wm1_3 ⟨r3, rfl, hr3, hbm1_3⟩)
  (try go_simp)
  have hSm1_3 := hSm1_2.trans (Out.of_below hbm1_3 l4)
  replace l4 := Nat.lt_of_lt_of_le l4 hbm1_3.size
  replace hres := hres.still hbm1_3
  refine hK.out _ _ hSm1_3 (fun h => ?_)
  clear h hK K hbm1_3
  (try simp only [Act.put, List.setIfInBounds_toArray, List.set_cons_zero, List.set_cons_succ])
  refine wpAnyH_ready (rs := [5]) (by kernel_rfl) (by simp) ?_
  refine AllReadyH.cons (o := qm1x5) rfl (fun K hK => ?_) (AllReadyH.nil)
  unfold qm1x5
  rw [if_pos (by rfl)]
  refine wp_store_mid 30 _ _ rfl g4 0 (p16 r3.X r3.Y r3.Z r3.T).toArray rfl rfl (thr16 hres _ _ _ _) (info16A _ _ _ _) (one16 _ _ _ _) ?_
  have hSm1_4 := hSm1_3.trans (Out.setCells (b := g4) (o := 0) (n := 16) wm1_3 (p16 r3.X r3.Y r3.Z r3.T) (Nat.le_refl _) (by rw [p16_len]; exact Nat.le_refl _))
  replace hres := hres.stored (p16 r3.X r3.Y r3.Z r3.T) (p16_same _ _ _ _ _ _ _ _)
  obtain ⟨wm1_4, hwm1_4⟩ : ∃ W, wm1_3.setCells g4 0 (p16 r3.X r3.Y r3.Z r3.T) = W := ⟨_, rfl⟩
  rw [hwm1_4] at hres
  rw [hwm1_4] at hSm1_4
  rw [show wm1_3.setCells g4 0 (p16 r3.X r3.Y r3.Z r3.T).toArray.toList = wm1_4 from hwm1_4]
  refine hK.out _ _ hSm1_4 (fun h => ?_)
  clear h hK K hwm1_4
  (try dsimp only [Act.put])
  refine wpAnyH_done (by kernel_rfl) ?_ _
  refine NoPanic.normal ?_
  have fin := (hbW.trans (hdrew.mono hbW.size)).trans (hSm1_4.below w4 (Nat.le_trans hbW.size hdrew.size))
  go_wp2
  exact bodyPost_ret (results_cell_mid Tryd.results24 _ _ g4 0 (p16 r3.X r3.Y r3.Z r3.T) _ rfl hres.range Tryd.underlying30 rfl (info16 _ _ _ _)) rfl ⟨_, rfl, hr3.r6, fin⟩
set_option maxRecDepth 20000 in
set_option maxHeartbeats 8000000 in
theorem pneg_pt {c : List Value} {P : Fp × Fp} (hP : R6 c P) (w : World) :
    Calls Tryd.prog 27 #[.agg c.toArray] w fun e w' => ∃ c', e = .returned (.agg c'.toArray) ∧ R6 c' (eneg P) ∧ Below w.heap.size w w' := by
  have hzp := zeroP
  have kc := fun W => pwhole_pt hP W
  have lc := hP.len
  have hN : ∀ r : N4, W6 r P → R6 (p16 (fsub 0 r.X) r.Y r.Z (fsub 0 r.T)) (eneg P) := fun r h => W6.r6 (p := negN r) ⟨negN_ok h.ok, eneg_on h.on, negN_ext h.ok h.ext⟩
  clear hP
  obtain ⟨V1, g1, eg1, hg1, bg1, hc⟩ : ∃ V g, w.alloc (.cells c.toArray 30) = V ∧ w.heap.size = g ∧ Below w.heap.size w V ∧ RW V g 0 c := ⟨_, _, rfl, rfl, (Below.refl _ _).alloc (Nat.le_refl _) _, RW.fresh w _ _⟩
  obtain ⟨W, g2, eg2, hg2, bg2, hres⟩ := fresh16 V1
  have t1 : V1.heap.size = w.heap.size + 1 := by rw [← eg1]; simp
  have HW : Hid (W = (w.alloc (.cells c.toArray 30)).alloc (.cells zP 30)) := Hid.mk' (by rw [← eg2, ← eg1])
  have q1 : Hid (w.heap.size = g1) := Hid.mk' hg1
  have q2 : Hid (w.heap.size + 1 = g2) := Hid.mk' (by omega)
  replace hc := hc.still bg2
  have hbW : Below w.heap.size w W := bg1.trans (bg2.mono (by omega))
  have w2l : w.heap.size ≤ g2 := by omega
  have w1l : w.heap.size ≤ g1 := by omega
  have n12 : g1 ≠ g2 := by omega
  clear eg1 eg2 hg1 hg2 bg1 bg2 t1 V1
  go_enter Tryd.func27, Tryd.ntmps27
  go_upto_region 3 with (first
    | (rw [← HW.out, q2.out, q1.out]; refine wpList_load_mid rfl 30 _ rfl g1 0 rfl c _ hc.range Tryd.underlying30 rfl (infoP lc) ?_; clear HW q1 q2)
    | (go_at_call 49; refine (kc _).mono ?_; clear kc; rintro e w4 ⟨r, rfl, hr, hb4⟩; (replace hc := hc.still hb4); (replace hres := hres.still hb4); (replace hbW := below_next hbW hb4); clear hb4; (have t4 : w4.there g1 0 (p16 r.X r.Y r.Z r.T).toArray.size := thereP hc lc rfl); (obtain ⟨V4, hV4⟩ : ∃ V, V = w4.setCells g1 0 (p16 r.X r.Y r.Z r.T) := ⟨_, rfl⟩); (have hp : RW V4 g1 0 (p16 r.X r.Y r.Z r.T) := by rw [hV4]; exact hc.stored _ lc.symm); (replace hres := hres.far g1 0 (p16 r.X r.Y r.Z r.T) (.inl n12.symm)); (replace hbW := below_setCells w1l (p16 r.X r.Y r.Z r.T) 0 _ hbW); rw [← hV4] at hres hbW; (have H4 := Hid.mk' hV4); clear hV4 hc; (obtain ⟨V5, g3, e5, hg3, b5, h3⟩ := fresh4 V4); (have l1 := hp.lt); (have l2 := hres.lt); (have n32 : g3 ≠ g2 := by omega); (have q3 : Hid (V4.heap.size = g3) := Hid.mk' hg3); (have H5 := Hid.mk' e5); clear e5 hg3; (replace hp := hp.still b5); (replace hres := hres.still b5); (replace hbW := below_next hbW b5); clear b5 l1 l2)
    | (with_reducible (refine id (?_ : wpList _ _ _ _ _ _)); refine wpList_store_mid rfl 30 _ _ rfl g1 0 (p16 r.X r.Y r.Z r.T).toArray rfl rfl t4 (info16A _ _ _ _) (one16 _ _ _ _) ?_; rw [List.toList_toArray, ← H4.out]; clear t4 H4))
  (try dsimp only [Act.put])
  rw [H5.out, q3.out]
  clear H5 q3
  have l2 := hres.lt
  have cX : ∀ W, Calls Tryd.prog 35 #[numV 0, numV r.X] W fun e w' => e = .returned (numV (fsub 0 r.X)) ∧ Below W.heap.size W w' := fun W => minus_any 0 r.X (by decide) hr.ok.X W
  have cT : ∀ W, Calls Tryd.prog 35 #[numV 0, numV r.T] W fun e w' => e = .returned (numV (fsub 0 r.T)) ∧ Below W.heap.size W w' := fun W => minus_any 0 r.T (by decide) hr.ok.T W
  have Hn := Hid.mk' (hN r hr)
  generalize fsub 0 r.X = nx at *
  generalize fsub 0 r.T = nt at *
  obtain ⟨hX, hY, hZ, hT⟩ := parts16 hp
  clear hp hN hr
  have hdrew : Below V5.heap.size V5 V5.drew := (Below.refl _ _).drew
  replace hX := hX.still hdrew
  replace hY := hY.still hdrew
  replace hZ := hZ.still hdrew
  replace hT := hT.still hdrew
  replace h3 := h3.still hdrew
  replace hres := hres.still hdrew
  refine wp_region_noPanic ?_
  replace l2 := Nat.lt_of_lt_of_le l2 hdrew.size
  refine wp_region_held_drew (S := fun w' => Out g2 0 16 V5.drew w') (by kernel_rfl) (Out.refl _ _ _ _) (fun hS => ?_)
  generalize V5.drew = Vm2_ at *
  refine wpAnyH_take (i := 0) (oi := { dst := some 6, op := Op.load 28 (Operand.tmp 3), type := 28, pos := "point.go:63", after := #[], guard := none }) (v := numV 0) rfl (by kernel_rfl) (by kernel_rfl) (by kernel_rfl) (fun _ _ _ h => h) (yieldsIf_load_mid (by rfl) 28 _ rfl g3 0 rfl (c4 0) _ (fun _ h => (h3.out h n32).range) Tryd.underlying28 rfl info4) hS ?_
  (try simp only [Act.put, List.setIfInBounds_toArray, List.set_cons_zero, List.set_cons_succ])
  refine wpAnyH_take (i := 1) (oi := { dst := some 7, op := Op.fieldAddr 30 (Operand.tmp 1) 0, type := 0, pos := "point.go:63", after := #[], guard := none }) (v := ?vm2_1) rfl (by kernel_rfl) (by kernel_rfl) (by kernel_rfl) (fun _ _ _ h => h) (Or.inl ⟨by rfl, ?hm2_1⟩) hS ?rm2_1
  case hm2_1 =>
    intro w hSw
    go_simp
    try with_reducible rfl
  (try simp only [Act.put, List.setIfInBounds_toArray, List.set_cons_zero, List.set_cons_succ])
  refine wpAnyH_take (i := 2) (oi := { dst := some 8, op := Op.load 28 (Operand.tmp 7), type := 28, pos := "point.go:63", after := #[{ on := 1, ground := Ground.data }], guard := none }) (v := numV r.X) rfl (by kernel_rfl) (by kernel_rfl) (by kernel_rfl) (fun _ _ _ h => h) (yieldsIf_load_mid (by rfl) 28 _ rfl g1 0 rfl (c4 r.X) _ (fun _ h => (hX.out h n12).range) Tryd.underlying28 rfl info4) hS ?_
  (try simp only [Act.put, List.setIfInBounds_toArray, List.set_cons_zero, List.set_cons_succ])
  refine wpAnyH_take (i := 4) (oi := { dst := some 10, op := Op.fieldAddr 30 (Operand.tmp 1) 1, type := 0, pos := "point.go:63", after := #[], guard := none }) (v := ?vm2_2) rfl (by kernel_rfl) (by kernel_rfl) (by kernel_rfl) (fun _ _ _ h => h) (Or.inl ⟨by rfl, ?hm2_2⟩) hS ?rm2_2
  case hm2_2 =>
    intro w hSw
    go_simp
    try with_reducible rfl
  (try simp only [Act.put, List.setIfInBounds_toArray, List.set_cons_zero, List.set_cons_succ])
  refine wpAnyH_take (i := 5) (oi := { dst := some 11, op := Op.load 28 (Operand.tmp 10), type := 28, pos := "point.go:63", after := #[{ on := 4, ground := Ground.data }], guard := none }) (v := numV r.Y) rfl (by kernel_rfl) (by kernel_rfl) (by kernel_rfl) (fun _ _ _ h => h) (yieldsIf_load_mid (by rfl) 28 _ rfl g1 4 rfl (c4 r.Y) _ (fun _ h => (hY.out h n12).range) Tryd.underlying28 rfl info4) hS ?_
  (try simp only [Act.put, List.setIfInBounds_toArray, List.set_cons_zero, List.set_cons_succ])
  refine wpAnyH_take (i := 6) (oi := { dst := some 12, op := Op.fieldAddr 30 (Operand.tmp 1) 2, type := 0, pos := "point.go:63", after := #[], guard := none }) (v := ?vm2_3) rfl (by kernel_rfl) (by kernel_rfl) (by kernel_rfl) (fun _ _ _ h => h) (Or.inl ⟨by rfl, ?hm2_3⟩) hS ?rm2_3
  case hm2_3 =>
    intro w hSw
    go_simp
    try with_reducible rfl
  (try simp only [Act.put, List.setIfInBounds_toArray, List.set_cons_zero, List.set_cons_succ])
  refine wpAnyH_take (i := 7) (oi := { dst := some 13, op := Op.load 28 (Operand.tmp 12), type := 28, pos := "point.go:63", after := #[{ on := 6, ground := Ground.data }], guard := none }) (v := numV r.Z) rfl (by kernel_rfl) (by kernel_rfl) (by kernel_rfl) (fun _ _ _ h => h) (yieldsIf_load_mid (by rfl) 28 _ rfl g1 8 rfl (c4 r.Z) _ (fun _ h => (hZ.out h n12).range) Tryd.underlying28 rfl info4) hS ?_
  (try simp only [Act.put, List.setIfInBounds_toArray, List.set_cons_zero, List.set_cons_succ])
  refine wpAnyH_take (i := 8) (oi := { dst := some 14, op := Op.load 28 (Operand.tmp 3), type := 28, pos := "point.go:63", after := #[], guard := none }) (v := numV 0) rfl (by kernel_rfl) (by kernel_rfl) (by kernel_rfl) (fun _ _ _ h => h) (yieldsIf_load_mid (by rfl) 28 _ rfl g3 0 rfl (c4 0) _ (fun _ h => (h3.out h n32).range) Tryd.underlying28 rfl info4) hS ?_
  (try simp only [Act.put, List.setIfInBounds_toArray, List.set_cons_zero, List.set_cons_succ])
  refine wpAnyH_take (i := 9) (oi := { dst := some 15, op := Op.fieldAddr 30 (Operand.tmp 1) 3, type := 0, pos := "point.go:63", after := #[], guard := none }) (v := ?vm2_4) rfl (by kernel_rfl) (by kernel_rfl) (by kernel_rfl) (fun _ _ _ h => h) (Or.inl ⟨by rfl, ?hm2_4⟩) hS ?rm2_4
  case hm2_4 =>
    intro w hSw
    go_simp
    try with_reducible rfl
  (try simp only [Act.put, List.setIfInBounds_toArray, List.set_cons_zero, List.set_cons_succ])
  refine wpAnyH_take (i := 10) (oi := { dst := some 16, op := Op.load 28 (Operand.tmp 15), type := 28, pos := "point.go:63", after := #[{ on := 9, ground := Ground.data }], guard := none }) (v := numV r.T) rfl (by kernel_rfl) (by kernel_rfl) (by kernel_rfl) (fun _ _ _ h => h) (yieldsIf_load_mid (by rfl) 28 _ rfl g1 12 rfl (c4 r.T) _ (fun _ h => (hT.out h n12).range) Tryd.underlying28 rfl info4) hS ?_
  (try simp only [Act.put, List.setIfInBounds_toArray, List.set_cons_zero, List.set_cons_succ])
  refine wpAnyH_ready (rs := [3]) (by kernel_rfl) (by simp) ?_
  refine AllReadyH.cons (o := qm2x3) rfl (fun K hK => ?_) (AllReadyH.nil)
  unfold qm2x3
  go_simp
  (go_at_call 35; refine (cX _).mono ?_; clear cX; rintro e wm2_5 ⟨rfl, hbm2_5⟩)
  (try go_simp)
  have hSm2_5 := hS.trans (Out.of_below hbm2_5 l2)
  replace l2 := Nat.lt_of_lt_of_le l2 hbm2_5.size
  replace hres := hres.still hbm2_5
  refine hK.out _ _ hSm2_5 (fun h => ?_)
  clear h hK K hbm2_5
  (try simp only [Act.put, List.setIfInBounds_toArray, List.set_cons_zero, List.set_cons_succ])
  refine wpAnyH_ready (rs := [11]) (by kernel_rfl) (by simp) ?_
  refine AllReadyH.cons (o := qm2x11) rfl (fun K hK => ?_) (AllReadyH.nil)
  unfold qm2x11
  go_simp
  (go_at_call 35; refine (cT _).mono ?_; clear cT; rintro e wm2_6 ⟨rfl, hbm2_6⟩)
  (try go_simp)
  have hSm2_6 := hSm2_5.trans (Out.of_below hbm2_6 l2)
  replace l2 := Nat.lt_of_lt_of_le l2 hbm2_6.size
  replace hres := hres.still hbm2_6
  refine hK.out _ _ hSm2_6 (fun h => ?_)
  clear h hK K hbm2_6
  (try simp only [Act.put, List.setIfInBounds_toArray, List.set_cons_zero, List.set_cons_succ])
  refine wpAnyH_take (i := 12) (oi := { dst := some 18, op := Op.build 30 #[(0, Operand.tmp 9), (1, Operand.tmp 11), (2, Operand.tmp 13), (3, Operand.tmp 17)], type := 30, pos := "point.go:63", after := #[{ on := 3, ground := Ground.data }, { on := 5, ground := Ground.data }, { on := 7, ground := Ground.data }, { on := 11, ground := Ground.data }], guard := none }) (v := pV nx r.Y r.Z nt) rfl (by kernel_rfl) (by kernel_rfl) (by kernel_rfl) (fun _ _ _ h => h) (yields_build4 (by rfl) 30 _ _ _ _ rfl (numV nx) (numV r.Y) (numV r.Z) (numV nt) rfl rfl rfl rfl _ (builtP4 _ _ _ _)) hSm2_6 ?_
  (try simp only [Act.put, List.setIfInBounds_toArray, List.set_cons_zero, List.set_cons_succ])
  refine wpAnyH_ready (rs := [13]) (by kernel_rfl) (by simp) ?_
  refine AllReadyH.cons (o := qm2x13) rfl (fun K hK => ?_) (AllReadyH.nil)
  unfold qm2x13
  rw [if_pos (by rfl)]
  refine wp_store_mid 30 _ _ rfl g2 0 (p16 nx r.Y r.Z nt).toArray rfl rfl (thr16 hres _ _ _ _) (info16A _ _ _ _) (one16 _ _ _ _) ?_
  have hSm2_7 := hSm2_6.trans (Out.setCells (b := g2) (o := 0) (n := 16) wm2_6 (p16 nx r.Y r.Z nt) (Nat.le_refl _) (by rw [p16_len]; exact Nat.le_refl _))
  replace hres := hres.stored (p16 nx r.Y r.Z nt) (p16_same _ _ _ _ _ _ _ _)
  obtain ⟨wm2_7, hwm2_7⟩ : ∃ W, wm2_6.setCells g2 0 (p16 nx r.Y r.Z nt) = W := ⟨_, rfl⟩
  rw [hwm2_7] at hres
  rw [hwm2_7] at hSm2_7
  rw [show wm2_6.setCells g2 0 (p16 nx r.Y r.Z nt).toArray.toList = wm2_7 from hwm2_7]
  refine hK.out _ _ hSm2_7 (fun h => ?_)
  clear h hK K hwm2_7
  (try dsimp only [Act.put])
  refine wpAnyH_done (by kernel_rfl) ?_ _
  refine NoPanic.normal ?_
  have fin := (hbW.trans (hdrew.mono hbW.size)).trans (hSm2_7.below w2l (Nat.le_trans hbW.size hdrew.size))
  go_wp2
  exact bodyPost_ret (results_cell_mid Tryd.results27 _ _ g2 0 (p16 nx r.Y r.Z nt) _ rfl hres.range Tryd.underlying30 rfl (info16 _ _ _ _)) rfl ⟨_, rfl, Hn.out, fin⟩
end Go.Proofs.YteekjcfbnoakgaaDoor
