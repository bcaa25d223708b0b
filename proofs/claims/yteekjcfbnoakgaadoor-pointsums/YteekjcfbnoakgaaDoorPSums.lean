/- The law PointSums over any way to hold a point. -/
import Derived.Test.YteekjcfbnoakgaaDoorPTimes
namespace Go.Proofs.YteekjcfbnoakgaaDoor
open Go.RowKit
set_option maxRecDepth 20000 in
set_option maxHeartbeats 16000000 in
theorem psums6 {G : World → Prop} {R : List Value → Fp × Fp → Prop} (api : PointApi G R) (v u : Value) (n m : Nat) (bs ks : Nat → Nat) (hbs : ∀ j, bs j < 256) (hks : ∀ j, ks j < 256) (w : World) (hv : BytesIn w v n bs) (hu : BytesIn w u m ks) (hG : G w) :
    Calls Tryd.prog 5 #[v, u] w fun e w' => e = .returned (.bool true) ∧ Below w.heap.size w w' := by
  have hz := zeroP
  have hzq := zeroQ
  have hzr := zeroR
  have kl := api.len
  have ko := api.one
  have kk := api.keep
  have cs := some6 api v n bs hbs w hv hG
  have cu := fun w hu hG => some6 api u m ks hks w hu hG
  have cbr : ∀ W, Calls Tryd.prog 19 #[] W fun e w' => ∃ t : P4, e = .returned (.agg (q64 t.X t.Y t.Z t.T).toArray) ∧ t.Pt baseP ∧ Below W.heap.size W w' := fun W => rbase_pt W
  have fv := fun w hv => fit_any v n bs w hv
  have fu := fun w hu => fit_any u m ks w hu
  have cv : ∀ (r : P4), r.Pt baseP → ∀ s W, BytesIn W s 32 (fitB n bs) → Calls Tryd.prog 21 #[.agg (q64 r.X r.Y r.Z r.T).toArray, s] W fun e w' => ∃ t : P4, e = .returned (.tuple #[.agg (q64 t.X t.Y t.Z t.T).toArray, .int .i64 0]) ∧ t.Pt (emul dE (ofB (fitB n bs) 32) baseP) ∧ Below W.heap.size W w' := fun r hr s W h => rtimes_pt hr s _ (fitB_lt hbs) W h
  have cw : ∀ (r : P4), r.Pt baseP → ∀ s W, BytesIn W s 32 (fitB m ks) → Calls Tryd.prog 21 #[.agg (q64 r.X r.Y r.Z r.T).toArray, s] W fun e w' => ∃ t : P4, e = .returned (.tuple #[.agg (q64 t.X t.Y t.Z t.T).toArray, .int .i64 0]) ∧ t.Pt (emul dE (ofB (fitB m ks) 32) baseP) ∧ Below W.heap.size W w' := fun r hr s W h => rtimes_pt hr s _ (fitB_lt hks) W h
  have ck := fun w hG => knows6 api w hG
  have cD : ∀ W, Calls Tryd.prog 26 #[] W fun e w' => ∃ R, e = .returned (.agg (i16 R).toArray) ∧ Rw R dN ∧ Below W.heap.size W w' := fun W => rD_any W
  have cE := api.enc
  have cF : ∀ (t : P4) P W, t.Pt P → Calls Tryd.prog 17 #[.agg (q64 t.X t.Y t.Z t.T).toArray] W fun e w' => ∃ s, e = .returned s ∧ NewC W w' s 32 (encB P) ∧ Below W.heap.size W w' := fun t P W h => renc_pt h W
  generalize emul dE (ofB (fitB n bs) 32) baseP = P at *
  generalize emul dE (ofB (fitB m ks) 32) baseP = Q at *
  generalize baseP = pb at *
  generalize fitB n bs = fb at *
  generalize fitB m ks = fk at *
  go_enter Tryd.func5, Tryd.ntmps5
  go_upto_region 5 with (first
    | (go_at_call 22; refine cs.mono ?_; clear cs; rintro e w1 ⟨c1, rfl, hc1, b⟩; (have l1 := kl _ _ hc1); (have o1 := ko _ _ hc1); (obtain ⟨V1, hV1, h1, b1, t1⟩ := boxP w1 c1 l1); (have H1 := Hid.mk' hV1); clear hV1; (replace b := below_next b b1); clear b1; (have cu2 := cu V1 (hu.still b)  (kk _ _ hG b)); clear cu)
    | (with_reducible (refine id (?_ : wpList _ _ _ _ _ _)); refine wpList_store_mid rfl 30 _ _ rfl w1.heap.size 0 c1.toArray rfl rfl t1 (infoPA l1) o1 ?_; rw [List.toList_toArray, ← H1.out]; clear t1 H1)
    | (go_at_call 22; refine cu2.mono ?_; clear cu2; rintro e w2 ⟨c2, rfl, hc2, hb2⟩; (replace h1 := h1.still hb2); (replace b := below_next b hb2); clear hb2; (have l2 := kl _ _ hc2); (have o2 := ko _ _ hc2); (obtain ⟨V2, hV2, h2, b2, t2⟩ := boxP w2 c2 l2); (have H2 := Hid.mk' hV2); clear hV2; (replace h1 := h1.still b2); (replace b := below_next b b2); clear b2; (have cb3 := cbr V2))
    | (with_reducible (refine id (?_ : wpList _ _ _ _ _ _)); refine wpList_store_mid rfl 30 _ _ rfl w2.heap.size 0 c2.toArray rfl rfl t2 (infoPA l2) o2 ?_; rw [List.toList_toArray, ← H2.out]; clear t2 H2)
    | (go_at_call 19; refine cb3.mono ?_; clear cb3; rintro e w3 ⟨r3, rfl, hr3, hb3⟩; (replace h1 := h1.still hb3); (replace h2 := h2.still hb3); (replace b := below_next b hb3); clear hb3; (have cf3 := fv w3 (hv.still b)); clear fv)
    | (go_at_call 23; refine cf3.mono ?_; clear cf3; rintro e w4 ⟨s3, rfl, hn3, hb3⟩; (replace h1 := h1.still hb3); (replace h2 := h2.still hb3); (replace b := below_next b hb3); clear hb3; (have ct3 := cv r3 hr3 s3 w4 (NewB.bytes hn3 (by decide))); clear cv hn3)
    | (go_at_call 21; refine ct3.mono ?_; clear ct3; rintro e w5 ⟨t5, rfl, hq5, hb5⟩; (replace h1 := h1.still hb5); (replace h2 := h2.still hb5); (replace b := below_next b hb5); clear hb5; (obtain ⟨V5, hV5, h5, b5, u5⟩ := boxQ w5 t5); (have H5 := Hid.mk' hV5); clear hV5; (replace h1 := h1.still b5); (replace h2 := h2.still b5); (replace b := below_next b b5); clear b5; (have cb6 := cbr V5); clear cbr)
    | (with_reducible (refine id (?_ : wpList _ _ _ _ _ _)); refine wpList_store_mid rfl 38 _ _ rfl w5.heap.size 0 (q64 t5.X t5.Y t5.Z t5.T).toArray rfl rfl u5 (infoQA _ _ _ _) (oneQ _ _ _ _) ?_; rw [List.toList_toArray, ← H5.out]; clear u5 H5)
    | (go_at_call 19; refine cb6.mono ?_; clear cb6; rintro e w6 ⟨r6, rfl, hr6, hb6⟩; (replace h1 := h1.still hb6); (replace h2 := h2.still hb6); (replace h5 := h5.still hb6); (replace b := below_next b hb6); clear hb6; (have cf6 := fu w6 (hu.still b)); clear fu)
    | (go_at_call 23; refine cf6.mono ?_; clear cf6; rintro e w7 ⟨s6, rfl, hn6, hb6⟩; (replace h1 := h1.still hb6); (replace h2 := h2.still hb6); (replace h5 := h5.still hb6); (replace b := below_next b hb6); clear hb6; (have ct6 := cw r6 hr6 s6 w7 (NewB.bytes hn6 (by decide))); clear cw hn6)
    | (go_at_call 21; refine ct6.mono ?_; clear ct6; rintro e w8 ⟨t8, rfl, hq8, hb8⟩; (replace h1 := h1.still hb8); (replace h2 := h2.still hb8); (replace h5 := h5.still hb8); (replace b := below_next b hb8); clear hb8; (obtain ⟨V8, hV8, h8, b8, u8⟩ := boxQ w8 t8); (have H8 := Hid.mk' hV8); clear hV8; (replace h1 := h1.still b8); (replace h2 := h2.still b8); (replace h5 := h5.still b8); (replace b := below_next b b8); clear b8)
    | (with_reducible (refine id (?_ : wpList _ _ _ _ _ _)); refine wpList_store_mid rfl 38 _ _ rfl w8.heap.size 0 (q64 t8.X t8.Y t8.Z t8.T).toArray rfl rfl u8 (infoQA _ _ _ _) (oneQ _ _ _ _) ?_; rw [List.toList_toArray, ← H8.out]; clear u8 H8))
  (try simp only [Act.put, List.setIfInBounds_toArray, List.set_cons_zero, List.set_cons_succ])
  have cP := fun w hG => api.plus c1 P c2 Q w hc1 hc2 hG
  have cN := fun w hG => api.neg c1 P w hc1 hG
  have cS := fun w hG => api.same c1 P c2 Q w hc1 hc2 hG
  have cU := fun w hG => api.same c1 P c1 P w hc1 hc1 hG
  rw [decide_eq_true (rfl : P = P)] at cU
  have cQ : ∀ D, Rw D dN → ∀ W, Calls Tryd.prog 25 #[.agg (q64 t5.X t5.Y t5.Z t5.T).toArray, .agg (q64 t8.X t8.Y t8.Z t8.T).toArray, .agg (i16 D).toArray] W fun e w' => ∃ t : P4, e = .returned (.agg (q64 t.X t.Y t.Z t.T).toArray) ∧ t.Pt (eadd dE P Q) ∧ Below W.heap.size W w' := fun D hD W => rplus_pt hq5 hq8 hD W
  have cM : ∀ W, Calls Tryd.prog 28 #[.agg (q64 t5.X t5.Y t5.Z t5.T).toArray] W fun e w' => ∃ t : P4, e = .returned (.agg (q64 t.X t.Y t.Z t.T).toArray) ∧ t.Pt (eneg P) ∧ Below W.heap.size W w' := fun W => rneg_pt hq5 W
  have cT : ∀ W, Calls Tryd.prog 29 #[.agg (q64 t5.X t5.Y t5.Z t5.T).toArray, .agg (q64 t8.X t8.Y t8.Z t8.T).toArray] W fun e w' => e = .returned (.bool (decide (P = Q))) ∧ Below W.heap.size W w' := fun W => rsame_pt hq5 hq8 W
  have hse : ∀ X : Fp × Fp, ((strB 32 (encB X)).toList == (strB 32 (encB X)).toList) = true := fun X => beq_self_eq_true _
  generalize decide (P = Q) = z at *
  have hse1 := hse (eadd dE P Q)
  have hse2 := hse (eneg P)
  generalize eadd dE P Q = PQ at *
  generalize eneg P = PN at *
  generalize dN = dn at *
  clear api hse
  have hdrew : Below V8.heap.size V8 V8.drew := (Below.refl _ _).drew
  replace h1 := h1.still hdrew
  replace h2 := h2.still hdrew
  replace h5 := h5.still hdrew
  replace h8 := h8.still hdrew
  replace b := below_next b hdrew
  clear hdrew
  refine wp_region_noPanic ?_
  refine wp_region_held_drew (S := fun w' => Below V8.drew.heap.size V8.drew w') (by kernel_rfl) (Below.refl _ _) (fun hHeld => ?_)
  clear hHeld
  refine wpAnyH_take (i := 0) (oi := { dst := some 29, op := Op.load 30 (Operand.tmp 5), type := 30, pos := "law.go:66", after := #[], guard := none }) (v := .agg c1.toArray) rfl (by kernel_rfl) (by kernel_rfl) (by kernel_rfl) (fun _ _ _ h => h) (yieldsIf_load_mid (by rfl) 30 _ rfl w1.heap.size 0 rfl (c1) _ (fun _ h => (h1.still h).range) Tryd.underlying30 rfl (infoP l1)) (Below.refl _ _) ?_
  (try simp only [Act.put, List.setIfInBounds_toArray, List.set_cons_zero, List.set_cons_succ])
  refine wpAnyH_take (i := 1) (oi := { dst := some 30, op := Op.load 30 (Operand.tmp 6), type := 30, pos := "law.go:66", after := #[], guard := none }) (v := .agg c2.toArray) rfl (by kernel_rfl) (by kernel_rfl) (by kernel_rfl) (fun _ _ _ h => h) (yieldsIf_load_mid (by rfl) 30 _ rfl w2.heap.size 0 rfl (c2) _ (fun _ h => (h2.still h).range) Tryd.underlying30 rfl (infoP l2)) (Below.refl _ _) ?_
  (try simp only [Act.put, List.setIfInBounds_toArray, List.set_cons_zero, List.set_cons_succ])
  refine wpAnyH_take (i := 5) (oi := { dst := some 34, op := Op.load 38 (Operand.tmp 7), type := 38, pos := "law.go:66", after := #[], guard := none }) (v := .agg (q64 t5.X t5.Y t5.Z t5.T).toArray) rfl (by kernel_rfl) (by kernel_rfl) (by kernel_rfl) (fun _ _ _ h => h) (yieldsIf_load_mid (by rfl) 38 _ rfl w5.heap.size 0 rfl (q64 t5.X t5.Y t5.Z t5.T) _ (fun _ h => (h5.still h).range) Tryd.underlying38 rfl (infoQ _ _ _ _)) (Below.refl _ _) ?_
  (try simp only [Act.put, List.setIfInBounds_toArray, List.set_cons_zero, List.set_cons_succ])
  refine wpAnyH_take (i := 6) (oi := { dst := some 35, op := Op.load 38 (Operand.tmp 9), type := 38, pos := "law.go:66", after := #[], guard := none }) (v := .agg (q64 t8.X t8.Y t8.Z t8.T).toArray) rfl (by kernel_rfl) (by kernel_rfl) (by kernel_rfl) (fun _ _ _ h => h) (yieldsIf_load_mid (by rfl) 38 _ rfl w8.heap.size 0 rfl (q64 t8.X t8.Y t8.Z t8.T) _ (fun _ h => (h8.still h).range) Tryd.underlying38 rfl (infoQ _ _ _ _)) (Below.refl _ _) ?_
  (try simp only [Act.put, List.setIfInBounds_toArray, List.set_cons_zero, List.set_cons_succ])
  refine wpAnyH_ready (rs := [2]) (by kernel_rfl) (by simp) ?_
  refine AllReadyH.cons (o := { dst := some 31, op := Op.call { callee := Callee.value (Operand.func 24), args := #[Operand.tmp 29, Operand.tmp 30], argTypes := #[30, 30] }, type := 30, pos := "law.go:66", after := #[{ on := 0, ground := Ground.data }, { on := 1, ground := Ground.data }], guard := none }) rfl (fun K hK => ?_) AllReadyH.nil
  go_simp
  (go_at_call 24; refine (cP _ (kk _ _ hG b)).mono ?_; clear cP; rintro e w11 ⟨c11, rfl, hc11, hb11⟩)
  (try go_simp)
  refine hK.out _ _ hb11 (fun h => ?_)
  clear h hK K
  refine wpAnyH_narrow (S' := fun w' => Below w11.heap.size w11 w') (fun _ h => below_next hb11 h) _ _ _ _ ?_
  replace h1 := h1.still hb11
  replace h2 := h2.still hb11
  replace h5 := h5.still hb11
  replace h8 := h8.still hb11
  replace b := below_next b hb11
  clear hb11
  (try simp only [Act.put, List.setIfInBounds_toArray, List.set_cons_zero, List.set_cons_succ])
  refine wpAnyH_ready (rs := [3]) (by kernel_rfl) (by simp) ?_
  refine AllReadyH.cons (o := { dst := some 32, op := Op.call { callee := Callee.value (Operand.func 16), args := #[Operand.tmp 31], argTypes := #[30] }, type := 22, pos := "law.go:66", after := #[{ on := 2, ground := Ground.data }, { on := 2, ground := Ground.chain }], guard := none }) rfl (fun K hK => ?_) AllReadyH.nil
  go_simp
  (go_at_call 16; refine (cE c11 _ _ hc11 (kk _ _ hG b)).mono ?_; rintro e w12 ⟨v12, rfl, hn12, hb12⟩; (have t12 := Str.of (NewC.bytes hn12 (by decide)) (encB_lt _)); (obtain ⟨x12, n12, k12, rfl⟩ := t12.form); clear hn12)
  (try go_simp)
  refine hK.out _ _ hb12 (fun h => ?_)
  clear h hK K
  refine wpAnyH_narrow (S' := fun w' => Below w12.heap.size w12 w') (fun _ h => below_next hb12 h) _ _ _ _ ?_
  replace h1 := h1.still hb12
  replace h2 := h2.still hb12
  replace h5 := h5.still hb12
  replace h8 := h8.still hb12
  replace b := below_next b hb12
  clear hb12
  (try simp only [Act.put, List.setIfInBounds_toArray, List.set_cons_zero, List.set_cons_succ])
  refine wpAnyH_take (i := 4) (oi := { dst := some 33, op := Op.convert 22 9 (Operand.tmp 32), type := 9, pos := "law.go:66", after := #[{ on := 3, ground := Ground.data }], guard := none }) (v := ?va4) rfl (by kernel_rfl) (by kernel_rfl) (by kernel_rfl) (fun _ _ _ h => h) (Or.inl ⟨by rfl, ?ha4⟩) (Below.refl _ _) ?ra4
  case ha4 =>
    intro w hSw
    have q := t12.conv w hSw
    go_simp
    try with_reducible rfl
  (try simp only [Act.put, List.setIfInBounds_toArray, List.set_cons_zero, List.set_cons_succ])
  refine wpAnyH_ready (rs := [7]) (by kernel_rfl) (by simp) ?_
  refine AllReadyH.cons (o := { dst := some 36, op := Op.call { callee := Callee.value (Operand.func 26), args := #[], argTypes := #[] }, type := 36, pos := "law.go:66", after := #[{ on := 3, ground := Ground.chain }], guard := none }) rfl (fun K hK => ?_) AllReadyH.nil
  go_simp
  (go_at_call 26; refine (cD _).mono ?_; clear cD; rintro e w13 ⟨D13, rfl, hD13, hb13⟩)
  (try go_simp)
  refine hK.out _ _ hb13 (fun h => ?_)
  clear h hK K
  refine wpAnyH_narrow (S' := fun w' => Below w13.heap.size w13 w') (fun _ h => below_next hb13 h) _ _ _ _ ?_
  replace h1 := h1.still hb13
  replace h2 := h2.still hb13
  replace h5 := h5.still hb13
  replace h8 := h8.still hb13
  replace t12 := t12.still hb13
  replace b := below_next b hb13
  clear hb13
  (try simp only [Act.put, List.setIfInBounds_toArray, List.set_cons_zero, List.set_cons_succ])
  refine wpAnyH_ready (rs := [8]) (by kernel_rfl) (by simp) ?_
  refine AllReadyH.cons (o := { dst := some 37, op := Op.call { callee := Callee.value (Operand.func 25), args := #[Operand.tmp 34, Operand.tmp 35, Operand.tmp 36], argTypes := #[38, 38, 36] }, type := 38, pos := "law.go:66", after := #[{ on := 5, ground := Ground.data }, { on := 6, ground := Ground.data }, { on := 7, ground := Ground.data }, { on := 7, ground := Ground.chain }], guard := none }) rfl (fun K hK => ?_) AllReadyH.nil
  go_simp
  (go_at_call 25; refine (cQ D13 hD13 _).mono ?_; clear cQ; rintro e w14 ⟨t14, rfl, hq14, hb14⟩)
  (try go_simp)
  refine hK.out _ _ hb14 (fun h => ?_)
  clear h hK K
  refine wpAnyH_narrow (S' := fun w' => Below w14.heap.size w14 w') (fun _ h => below_next hb14 h) _ _ _ _ ?_
  replace h1 := h1.still hb14
  replace h2 := h2.still hb14
  replace h5 := h5.still hb14
  replace h8 := h8.still hb14
  replace t12 := t12.still hb14
  replace b := below_next b hb14
  clear hb14
  (try simp only [Act.put, List.setIfInBounds_toArray, List.set_cons_zero, List.set_cons_succ])
  refine wpAnyH_ready (rs := [9]) (by kernel_rfl) (by simp) ?_
  refine AllReadyH.cons (o := { dst := some 38, op := Op.call { callee := Callee.value (Operand.func 17), args := #[Operand.tmp 37], argTypes := #[38] }, type := 22, pos := "law.go:66", after := #[{ on := 8, ground := Ground.data }, { on := 8, ground := Ground.chain }], guard := none }) rfl (fun K hK => ?_) AllReadyH.nil
  go_simp
  (go_at_call 17; refine (cF t14 _ _ hq14).mono ?_; rintro e w15 ⟨v15, rfl, hn15, hb15⟩; (have t15 := Str.of (NewC.bytes hn15 (by decide)) (encB_lt _)); (obtain ⟨x15, n15, k15, rfl⟩ := t15.form); clear hn15)
  (try go_simp)
  refine hK.out _ _ hb15 (fun h => ?_)
  clear h hK K
  refine wpAnyH_narrow (S' := fun w' => Below w15.heap.size w15 w') (fun _ h => below_next hb15 h) _ _ _ _ ?_
  replace h1 := h1.still hb15
  replace h2 := h2.still hb15
  replace h5 := h5.still hb15
  replace h8 := h8.still hb15
  replace t12 := t12.still hb15
  replace b := below_next b hb15
  clear hb15
  (try simp only [Act.put, List.setIfInBounds_toArray, List.set_cons_zero, List.set_cons_succ])
  refine wpAnyH_take (i := 10) (oi := { dst := some 39, op := Op.convert 22 9 (Operand.tmp 38), type := 9, pos := "law.go:66", after := #[{ on := 9, ground := Ground.data }], guard := none }) (v := ?va10) rfl (by kernel_rfl) (by kernel_rfl) (by kernel_rfl) (fun _ _ _ h => h) (Or.inl ⟨by rfl, ?ha10⟩) (Below.refl _ _) ?ra10
  case ha10 =>
    intro w hSw
    have q := t15.conv w hSw
    go_simp
    try with_reducible rfl
  (try simp only [Act.put, List.setIfInBounds_toArray, List.set_cons_zero, List.set_cons_succ])
  refine wpAnyH_take (i := 11) (oi := { dst := some 40, op := Op.binOp BinOp.eql 9 (Operand.tmp 33) (Operand.tmp 39) 9, type := 4, pos := "law.go:66", after := #[{ on := 4, ground := Ground.data }, { on := 10, ground := Ground.data }], guard := none }) (v := ?va11) rfl (by kernel_rfl) (by kernel_rfl) (by kernel_rfl) (fun _ _ _ h => h) (Or.inl ⟨by rfl, ?ha11⟩) (Below.refl _ _) ?ra11
  case ha11 =>
    intro w hSw
    go_simp
    try with_reducible rfl
  (try simp only [Act.put, List.setIfInBounds_toArray, List.set_cons_zero, List.set_cons_succ])
  refine wpAnyH_take (i := 12) (oi := { dst := some 41, op := Op.move (Operand.tmp 40), type := 4, pos := "law.go:66", after := #[{ on := 11, ground := Ground.data }, { on := 9, ground := Ground.chain }], guard := none }) (v := ?va12) rfl (by kernel_rfl) (by kernel_rfl) (by kernel_rfl) (fun _ _ _ h => h) (Or.inl ⟨by rfl, ?ha12⟩) (Below.refl _ _) ?ra12
  case ha12 =>
    intro w hSw
    go_simp
    try with_reducible rfl
  (try simp only [Act.put, List.setIfInBounds_toArray, List.set_cons_zero, List.set_cons_succ])
  refine wpAnyH_take (i := 13) (oi := { dst := some 42, op := Op.load 30 (Operand.tmp 5), type := 30, pos := "law.go:66", after := #[{ on := 12, ground := Ground.guard }], guard := some (12, true) }) (v := .agg c1.toArray) rfl (by kernel_rfl) (by kernel_rfl) (by kernel_rfl) (fun _ _ _ h => h) (yieldsIf_load_mid (by rfl) 30 _ rfl w1.heap.size 0 rfl (c1) _ (fun _ h => (h1.still h).range) Tryd.underlying30 rfl (infoP l1)) (Below.refl _ _) ?_
  (try simp only [Act.put, List.setIfInBounds_toArray, List.set_cons_zero, List.set_cons_succ])
  refine wpAnyH_take (i := 17) (oi := { dst := some 46, op := Op.load 38 (Operand.tmp 7), type := 38, pos := "law.go:66", after := #[{ on := 12, ground := Ground.guard }], guard := some (12, true) }) (v := .agg (q64 t5.X t5.Y t5.Z t5.T).toArray) rfl (by kernel_rfl) (by kernel_rfl) (by kernel_rfl) (fun _ _ _ h => h) (yieldsIf_load_mid (by rfl) 38 _ rfl w5.heap.size 0 rfl (q64 t5.X t5.Y t5.Z t5.T) _ (fun _ h => (h5.still h).range) Tryd.underlying38 rfl (infoQ _ _ _ _)) (Below.refl _ _) ?_
  (try simp only [Act.put, List.setIfInBounds_toArray, List.set_cons_zero, List.set_cons_succ])
  refine wpAnyH_ready (rs := [14]) (by kernel_rfl) (by simp) ?_
  refine AllReadyH.cons (o := { dst := some 43, op := Op.call { callee := Callee.value (Operand.func 27), args := #[Operand.tmp 42], argTypes := #[30] }, type := 30, pos := "law.go:66", after := #[{ on := 13, ground := Ground.data }, { on := 12, ground := Ground.chain }, { on := 12, ground := Ground.guard }], guard := some (12, true) }) rfl (fun K hK => ?_) AllReadyH.nil
  go_simp
  (go_at_call 27; refine (cN _ (kk _ _ hG b)).mono ?_; clear cN; rintro e w16 ⟨c16, rfl, hc16, hb16⟩)
  (try go_simp)
  refine hK.out _ _ hb16 (fun h => ?_)
  clear h hK K
  refine wpAnyH_narrow (S' := fun w' => Below w16.heap.size w16 w') (fun _ h => below_next hb16 h) _ _ _ _ ?_
  replace h1 := h1.still hb16
  replace h2 := h2.still hb16
  replace h5 := h5.still hb16
  replace h8 := h8.still hb16
  replace t12 := t12.still hb16
  replace t15 := t15.still hb16
  replace b := below_next b hb16
  clear hb16
  (try simp only [Act.put, List.setIfInBounds_toArray, List.set_cons_zero, List.set_cons_succ])
  refine wpAnyH_ready (rs := [15]) (by kernel_rfl) (by simp) ?_
  refine AllReadyH.cons (o := { dst := some 44, op := Op.call { callee := Callee.value (Operand.func 16), args := #[Operand.tmp 43], argTypes := #[30] }, type := 22, pos := "law.go:66", after := #[{ on := 14, ground := Ground.data }, { on := 14, ground := Ground.chain }, { on := 12, ground := Ground.guard }], guard := some (12, true) }) rfl (fun K hK => ?_) AllReadyH.nil
  go_simp
  (go_at_call 16; refine (cE c16 _ _ hc16 (kk _ _ hG b)).mono ?_; rintro e w17 ⟨v17, rfl, hn17, hb17⟩; (have t17 := Str.of (NewC.bytes hn17 (by decide)) (encB_lt _)); (obtain ⟨x17, n17, k17, rfl⟩ := t17.form); clear hn17)
  (try go_simp)
  refine hK.out _ _ hb17 (fun h => ?_)
  clear h hK K
  refine wpAnyH_narrow (S' := fun w' => Below w17.heap.size w17 w') (fun _ h => below_next hb17 h) _ _ _ _ ?_
  replace h1 := h1.still hb17
  replace h2 := h2.still hb17
  replace h5 := h5.still hb17
  replace h8 := h8.still hb17
  replace t12 := t12.still hb17
  replace t15 := t15.still hb17
  replace b := below_next b hb17
  clear hb17
  (try simp only [Act.put, List.setIfInBounds_toArray, List.set_cons_zero, List.set_cons_succ])
  refine wpAnyH_take (i := 16) (oi := { dst := some 45, op := Op.convert 22 9 (Operand.tmp 44), type := 9, pos := "law.go:66", after := #[{ on := 15, ground := Ground.data }, { on := 12, ground := Ground.guard }], guard := some (12, true) }) (v := ?va16) rfl (by kernel_rfl) (by kernel_rfl) (by kernel_rfl) (fun _ _ _ h => h) (Or.inl ⟨by rfl, ?ha16⟩) (Below.refl _ _) ?ra16
  case ha16 =>
    intro w hSw
    have q := t17.conv w hSw
    go_simp
    try with_reducible rfl
  (try simp only [Act.put, List.setIfInBounds_toArray, List.set_cons_zero, List.set_cons_succ])
  refine wpAnyH_ready (rs := [18]) (by kernel_rfl) (by simp) ?_
  refine AllReadyH.cons (o := { dst := some 47, op := Op.call { callee := Callee.value (Operand.func 28), args := #[Operand.tmp 46], argTypes := #[38] }, type := 38, pos := "law.go:66", after := #[{ on := 17, ground := Ground.data }, { on := 15, ground := Ground.chain }, { on := 12, ground := Ground.guard }], guard := some (12, true) }) rfl (fun K hK => ?_) AllReadyH.nil
  go_simp
  (go_at_call 28; refine (cM _).mono ?_; clear cM; rintro e w18 ⟨t18, rfl, hq18, hb18⟩)
  (try go_simp)
  refine hK.out _ _ hb18 (fun h => ?_)
  clear h hK K
  refine wpAnyH_narrow (S' := fun w' => Below w18.heap.size w18 w') (fun _ h => below_next hb18 h) _ _ _ _ ?_
  replace h1 := h1.still hb18
  replace h2 := h2.still hb18
  replace h5 := h5.still hb18
  replace h8 := h8.still hb18
  replace t12 := t12.still hb18
  replace t15 := t15.still hb18
  replace t17 := t17.still hb18
  replace b := below_next b hb18
  clear hb18
  (try simp only [Act.put, List.setIfInBounds_toArray, List.set_cons_zero, List.set_cons_succ])
  refine wpAnyH_ready (rs := [19]) (by kernel_rfl) (by simp) ?_
  refine AllReadyH.cons (o := { dst := some 48, op := Op.call { callee := Callee.value (Operand.func 17), args := #[Operand.tmp 47], argTypes := #[38] }, type := 22, pos := "law.go:66", after := #[{ on := 18, ground := Ground.data }, { on := 18, ground := Ground.chain }, { on := 12, ground := Ground.guard }], guard := some (12, true) }) rfl (fun K hK => ?_) AllReadyH.nil
  go_simp
  (go_at_call 17; refine (cF t18 _ _ hq18).mono ?_; rintro e w19 ⟨v19, rfl, hn19, hb19⟩; (have t19 := Str.of (NewC.bytes hn19 (by decide)) (encB_lt _)); (obtain ⟨x19, n19, k19, rfl⟩ := t19.form); clear hn19)
  (try go_simp)
  refine hK.out _ _ hb19 (fun h => ?_)
  clear h hK K
  refine wpAnyH_narrow (S' := fun w' => Below w19.heap.size w19 w') (fun _ h => below_next hb19 h) _ _ _ _ ?_
  replace h1 := h1.still hb19
  replace h2 := h2.still hb19
  replace h5 := h5.still hb19
  replace h8 := h8.still hb19
  replace t12 := t12.still hb19
  replace t15 := t15.still hb19
  replace t17 := t17.still hb19
  replace b := below_next b hb19
  clear hb19
  (try simp only [Act.put, List.setIfInBounds_toArray, List.set_cons_zero, List.set_cons_succ])
  refine wpAnyH_take (i := 20) (oi := { dst := some 49, op := Op.convert 22 9 (Operand.tmp 48), type := 9, pos := "law.go:66", after := #[{ on := 19, ground := Ground.data }, { on := 12, ground := Ground.guard }], guard := some (12, true) }) (v := ?va20) rfl (by kernel_rfl) (by kernel_rfl) (by kernel_rfl) (fun _ _ _ h => h) (Or.inl ⟨by rfl, ?ha20⟩) (Below.refl _ _) ?ra20
  case ha20 =>
    intro w hSw
    have q := t19.conv w hSw
    go_simp
    try with_reducible rfl
  (try simp only [Act.put, List.setIfInBounds_toArray, List.set_cons_zero, List.set_cons_succ])
  refine wpAnyH_take (i := 21) (oi := { dst := some 50, op := Op.binOp BinOp.eql 9 (Operand.tmp 45) (Operand.tmp 49) 9, type := 4, pos := "law.go:66", after := #[{ on := 16, ground := Ground.data }, { on := 20, ground := Ground.data }, { on := 12, ground := Ground.guard }], guard := some (12, true) }) (v := ?va21) rfl (by kernel_rfl) (by kernel_rfl) (by kernel_rfl) (fun _ _ _ h => h) (Or.inl ⟨by rfl, ?ha21⟩) (Below.refl _ _) ?ra21
  case ha21 =>
    intro w hSw
    go_simp
    try with_reducible rfl
  (try simp only [Act.put, List.setIfInBounds_toArray, List.set_cons_zero, List.set_cons_succ])
  refine wpAnyH_take (i := 22) (oi := { dst := some 51, op := Op.pick (Operand.tmp 41) (Operand.tmp 50) (Operand.const (Value.bool false)), type := 4, pos := "law.go:66", after := #[{ on := 12, ground := Ground.data }, { on := 21, ground := Ground.data }], guard := none }) (v := ?va22) rfl (by kernel_rfl) (by kernel_rfl) (by kernel_rfl) (fun _ _ _ h => h) (Or.inl ⟨by rfl, ?ha22⟩) (Below.refl _ _) ?ra22
  case ha22 =>
    intro w hSw
    go_simp
    try with_reducible rfl
  (try simp only [Act.put, List.setIfInBounds_toArray, List.set_cons_zero, List.set_cons_succ])
  refine wpAnyH_take (i := 23) (oi := { dst := some 52, op := Op.move (Operand.tmp 51), type := 4, pos := "law.go:66", after := #[{ on := 22, ground := Ground.data }, { on := 19, ground := Ground.chain }], guard := none }) (v := ?va23) rfl (by kernel_rfl) (by kernel_rfl) (by kernel_rfl) (fun _ _ _ h => h) (Or.inl ⟨by rfl, ?ha23⟩) (Below.refl _ _) ?ra23
  case ha23 =>
    intro w hSw
    go_simp
    try with_reducible rfl
  (try simp only [Act.put, List.setIfInBounds_toArray, List.set_cons_zero, List.set_cons_succ])
  refine wpAnyH_take (i := 24) (oi := { dst := some 53, op := Op.load 30 (Operand.tmp 5), type := 30, pos := "law.go:66", after := #[{ on := 23, ground := Ground.guard }], guard := some (23, true) }) (v := .agg c1.toArray) rfl (by kernel_rfl) (by kernel_rfl) (by kernel_rfl) (fun _ _ _ h => h) (yieldsIf_load_mid (by rfl) 30 _ rfl w1.heap.size 0 rfl (c1) _ (fun _ h => (h1.still h).range) Tryd.underlying30 rfl (infoP l1)) (Below.refl _ _) ?_
  (try simp only [Act.put, List.setIfInBounds_toArray, List.set_cons_zero, List.set_cons_succ])
  refine wpAnyH_take (i := 25) (oi := { dst := some 54, op := Op.load 30 (Operand.tmp 6), type := 30, pos := "law.go:66", after := #[{ on := 23, ground := Ground.guard }], guard := some (23, true) }) (v := .agg c2.toArray) rfl (by kernel_rfl) (by kernel_rfl) (by kernel_rfl) (fun _ _ _ h => h) (yieldsIf_load_mid (by rfl) 30 _ rfl w2.heap.size 0 rfl (c2) _ (fun _ h => (h2.still h).range) Tryd.underlying30 rfl (infoP l2)) (Below.refl _ _) ?_
  (try simp only [Act.put, List.setIfInBounds_toArray, List.set_cons_zero, List.set_cons_succ])
  refine wpAnyH_take (i := 27) (oi := { dst := some 56, op := Op.load 38 (Operand.tmp 7), type := 38, pos := "law.go:66", after := #[{ on := 23, ground := Ground.guard }], guard := some (23, true) }) (v := .agg (q64 t5.X t5.Y t5.Z t5.T).toArray) rfl (by kernel_rfl) (by kernel_rfl) (by kernel_rfl) (fun _ _ _ h => h) (yieldsIf_load_mid (by rfl) 38 _ rfl w5.heap.size 0 rfl (q64 t5.X t5.Y t5.Z t5.T) _ (fun _ h => (h5.still h).range) Tryd.underlying38 rfl (infoQ _ _ _ _)) (Below.refl _ _) ?_
  (try simp only [Act.put, List.setIfInBounds_toArray, List.set_cons_zero, List.set_cons_succ])
  refine wpAnyH_take (i := 28) (oi := { dst := some 57, op := Op.load 38 (Operand.tmp 9), type := 38, pos := "law.go:66", after := #[{ on := 23, ground := Ground.guard }], guard := some (23, true) }) (v := .agg (q64 t8.X t8.Y t8.Z t8.T).toArray) rfl (by kernel_rfl) (by kernel_rfl) (by kernel_rfl) (fun _ _ _ h => h) (yieldsIf_load_mid (by rfl) 38 _ rfl w8.heap.size 0 rfl (q64 t8.X t8.Y t8.Z t8.T) _ (fun _ h => (h8.still h).range) Tryd.underlying38 rfl (infoQ _ _ _ _)) (Below.refl _ _) ?_
  (try simp only [Act.put, List.setIfInBounds_toArray, List.set_cons_zero, List.set_cons_succ])
  refine wpAnyH_ready (rs := [26]) (by kernel_rfl) (by simp) ?_
  refine AllReadyH.cons (o := { dst := some 55, op := Op.call { callee := Callee.value (Operand.func 14), args := #[Operand.tmp 53, Operand.tmp 54], argTypes := #[30, 30] }, type := 4, pos := "law.go:66", after := #[{ on := 24, ground := Ground.data }, { on := 25, ground := Ground.data }, { on := 23, ground := Ground.chain }, { on := 23, ground := Ground.guard }], guard := some (23, true) }) rfl (fun K hK => ?_) AllReadyH.nil
  go_simp
  (go_at_call 14; refine (cS _ (kk _ _ hG b)).mono ?_; clear cS; rintro e w20 ⟨rfl, hb20⟩)
  (try go_simp)
  refine hK.out _ _ hb20 (fun h => ?_)
  clear h hK K
  refine wpAnyH_narrow (S' := fun w' => Below w20.heap.size w20 w') (fun _ h => below_next hb20 h) _ _ _ _ ?_
  replace h1 := h1.still hb20
  replace h2 := h2.still hb20
  replace h5 := h5.still hb20
  replace h8 := h8.still hb20
  replace t12 := t12.still hb20
  replace t15 := t15.still hb20
  replace t17 := t17.still hb20
  replace t19 := t19.still hb20
  replace b := below_next b hb20
  clear hb20
  (try simp only [Act.put, List.setIfInBounds_toArray, List.set_cons_zero, List.set_cons_succ])
  refine wpAnyH_ready (rs := [29]) (by kernel_rfl) (by simp) ?_
  refine AllReadyH.cons (o := { dst := some 58, op := Op.call { callee := Callee.value (Operand.func 29), args := #[Operand.tmp 56, Operand.tmp 57], argTypes := #[38, 38] }, type := 4, pos := "law.go:66", after := #[{ on := 27, ground := Ground.data }, { on := 28, ground := Ground.data }, { on := 26, ground := Ground.chain }, { on := 23, ground := Ground.guard }], guard := some (23, true) }) rfl (fun K hK => ?_) AllReadyH.nil
  go_simp
  (go_at_call 29; refine (cT _).mono ?_; clear cT; rintro e w21 ⟨rfl, hb21⟩)
  (try go_simp)
  refine hK.out _ _ hb21 (fun h => ?_)
  clear h hK K
  refine wpAnyH_narrow (S' := fun w' => Below w21.heap.size w21 w') (fun _ h => below_next hb21 h) _ _ _ _ ?_
  replace h1 := h1.still hb21
  replace h2 := h2.still hb21
  replace h5 := h5.still hb21
  replace h8 := h8.still hb21
  replace t12 := t12.still hb21
  replace t15 := t15.still hb21
  replace t17 := t17.still hb21
  replace t19 := t19.still hb21
  replace b := below_next b hb21
  clear hb21
  (try simp only [Act.put, List.setIfInBounds_toArray, List.set_cons_zero, List.set_cons_succ])
  refine wpAnyH_take (i := 30) (oi := { dst := some 59, op := Op.binOp BinOp.eql 4 (Operand.tmp 55) (Operand.tmp 58) 4, type := 4, pos := "law.go:66", after := #[{ on := 26, ground := Ground.data }, { on := 29, ground := Ground.data }, { on := 23, ground := Ground.guard }], guard := some (23, true) }) (v := ?va30) rfl (by kernel_rfl) (by kernel_rfl) (by kernel_rfl) (fun _ _ _ h => h) (Or.inl ⟨by rfl, ?ha30⟩) (Below.refl _ _) ?ra30
  case ha30 =>
    intro w hSw
    go_simp
    try with_reducible rfl
  (try simp only [Act.put, List.setIfInBounds_toArray, List.set_cons_zero, List.set_cons_succ])
  refine wpAnyH_take (i := 31) (oi := { dst := some 60, op := Op.pick (Operand.tmp 52) (Operand.tmp 59) (Operand.const (Value.bool false)), type := 4, pos := "law.go:66", after := #[{ on := 23, ground := Ground.data }, { on := 30, ground := Ground.data }], guard := none }) (v := ?va31) rfl (by kernel_rfl) (by kernel_rfl) (by kernel_rfl) (fun _ _ _ h => h) (Or.inl ⟨by rfl, ?ha31⟩) (Below.refl _ _) ?ra31
  case ha31 =>
    intro w hSw
    go_simp
    try with_reducible rfl
  (try simp only [Act.put, List.setIfInBounds_toArray, List.set_cons_zero, List.set_cons_succ])
  refine wpAnyH_take (i := 32) (oi := { dst := some 61, op := Op.move (Operand.tmp 60), type := 4, pos := "law.go:66", after := #[{ on := 31, ground := Ground.data }, { on := 29, ground := Ground.chain }], guard := none }) (v := ?va32) rfl (by kernel_rfl) (by kernel_rfl) (by kernel_rfl) (fun _ _ _ h => h) (Or.inl ⟨by rfl, ?ha32⟩) (Below.refl _ _) ?ra32
  case ha32 =>
    intro w hSw
    go_simp
    try with_reducible rfl
  (try simp only [Act.put, List.setIfInBounds_toArray, List.set_cons_zero, List.set_cons_succ])
  refine wpAnyH_take (i := 33) (oi := { dst := some 62, op := Op.load 30 (Operand.tmp 5), type := 30, pos := "law.go:66", after := #[{ on := 32, ground := Ground.guard }], guard := some (32, true) }) (v := .agg c1.toArray) rfl (by kernel_rfl) (by kernel_rfl) (by kernel_rfl) (fun _ _ _ h => h) (yieldsIf_load_mid (by rfl) 30 _ rfl w1.heap.size 0 rfl (c1) _ (fun _ h => (h1.still h).range) Tryd.underlying30 rfl (infoP l1)) (Below.refl _ _) ?_
  (try simp only [Act.put, List.setIfInBounds_toArray, List.set_cons_zero, List.set_cons_succ])
  refine wpAnyH_take (i := 34) (oi := { dst := some 63, op := Op.load 30 (Operand.tmp 5), type := 30, pos := "law.go:66", after := #[{ on := 32, ground := Ground.guard }], guard := some (32, true) }) (v := .agg c1.toArray) rfl (by kernel_rfl) (by kernel_rfl) (by kernel_rfl) (fun _ _ _ h => h) (yieldsIf_load_mid (by rfl) 30 _ rfl w1.heap.size 0 rfl (c1) _ (fun _ h => (h1.still h).range) Tryd.underlying30 rfl (infoP l1)) (Below.refl _ _) ?_
  (try simp only [Act.put, List.setIfInBounds_toArray, List.set_cons_zero, List.set_cons_succ])
  refine wpAnyH_ready (rs := [35]) (by kernel_rfl) (by simp) ?_
  refine AllReadyH.cons (o := { dst := some 64, op := Op.call { callee := Callee.value (Operand.func 14), args := #[Operand.tmp 62, Operand.tmp 63], argTypes := #[30, 30] }, type := 4, pos := "law.go:66", after := #[{ on := 33, ground := Ground.data }, { on := 34, ground := Ground.data }, { on := 32, ground := Ground.chain }, { on := 32, ground := Ground.guard }], guard := some (32, true) }) rfl (fun K hK => ?_) AllReadyH.nil
  go_simp
  (go_at_call 14; refine (cU _ (kk _ _ hG b)).mono ?_; clear cU; rintro e w22 ⟨rfl, hb22⟩)
  (try go_simp)
  refine hK.out _ _ hb22 (fun h => ?_)
  clear h hK K
  refine wpAnyH_narrow (S' := fun w' => Below w22.heap.size w22 w') (fun _ h => below_next hb22 h) _ _ _ _ ?_
  replace h1 := h1.still hb22
  replace h2 := h2.still hb22
  replace h5 := h5.still hb22
  replace h8 := h8.still hb22
  replace t12 := t12.still hb22
  replace t15 := t15.still hb22
  replace t17 := t17.still hb22
  replace t19 := t19.still hb22
  replace b := below_next b hb22
  clear hb22
  (try simp only [Act.put, List.setIfInBounds_toArray, List.set_cons_zero, List.set_cons_succ])
  refine wpAnyH_take (i := 36) (oi := { dst := some 65, op := Op.pick (Operand.tmp 61) (Operand.tmp 64) (Operand.const (Value.bool false)), type := 4, pos := "law.go:66", after := #[{ on := 32, ground := Ground.data }, { on := 35, ground := Ground.data }], guard := none }) (v := ?va36) rfl (by kernel_rfl) (by kernel_rfl) (by kernel_rfl) (fun _ _ _ h => h) (Or.inl ⟨by rfl, ?ha36⟩) (Below.refl _ _) ?ra36
  case ha36 =>
    intro w hSw
    go_simp
    try with_reducible rfl
  (try simp only [Act.put, List.setIfInBounds_toArray, List.set_cons_zero, List.set_cons_succ])
  refine wpAnyH_take (i := 37) (oi := { dst := some 66, op := Op.move (Operand.tmp 65), type := 4, pos := "law.go:66", after := #[{ on := 36, ground := Ground.data }, { on := 35, ground := Ground.chain }], guard := none }) (v := ?va37) rfl (by kernel_rfl) (by kernel_rfl) (by kernel_rfl) (fun _ _ _ h => h) (Or.inl ⟨by rfl, ?ha37⟩) (Below.refl _ _) ?ra37
  case ha37 =>
    intro w hSw
    go_simp
    try with_reducible rfl
  (try simp only [Act.put, List.setIfInBounds_toArray, List.set_cons_zero, List.set_cons_succ])
  refine wpAnyH_ready (rs := [38]) (by kernel_rfl) (by simp) ?_
  refine AllReadyH.cons (o := { dst := some 67, op := Op.call { callee := Callee.value (Operand.func 13), args := #[], argTypes := #[] }, type := 4, pos := "law.go:66", after := #[{ on := 37, ground := Ground.chain }, { on := 37, ground := Ground.guard }], guard := some (37, true) }) rfl (fun K hK => ?_) AllReadyH.nil
  go_simp
  (go_at_call 13; refine (ck _ (kk _ _ hG b)).mono ?_; clear ck; rintro e w23 ⟨rfl, hb23⟩)
  (try go_simp)
  refine hK.out _ _ hb23 (fun h => ?_)
  clear h hK K
  refine wpAnyH_narrow (S' := fun w' => Below w23.heap.size w23 w') (fun _ h => below_next hb23 h) _ _ _ _ ?_
  replace h1 := h1.still hb23
  replace h2 := h2.still hb23
  replace h5 := h5.still hb23
  replace h8 := h8.still hb23
  replace t12 := t12.still hb23
  replace t15 := t15.still hb23
  replace t17 := t17.still hb23
  replace t19 := t19.still hb23
  replace b := below_next b hb23
  clear hb23
  (try simp only [Act.put, List.setIfInBounds_toArray, List.set_cons_zero, List.set_cons_succ])
  refine wpAnyH_take (i := 39) (oi := { dst := some 68, op := Op.pick (Operand.tmp 66) (Operand.tmp 67) (Operand.const (Value.bool false)), type := 4, pos := "law.go:66", after := #[{ on := 37, ground := Ground.data }, { on := 38, ground := Ground.data }], guard := none }) (v := ?va39) rfl (by kernel_rfl) (by kernel_rfl) (by kernel_rfl) (fun _ _ _ h => h) (Or.inl ⟨by rfl, ?ha39⟩) (Below.refl _ _) ?ra39
  case ha39 =>
    intro w hSw
    go_simp
    try with_reducible rfl
  (try simp only [Act.put, List.setIfInBounds_toArray, List.set_cons_zero, List.set_cons_succ])
  refine wpAnyH_take (i := 40) (oi := { dst := some 4, op := Op.assign (Operand.tmp 68), type := 4, pos := "law.go:66", after := #[{ on := 39, ground := Ground.data }, { on := 38, ground := Ground.chain }, { on := 0, ground := Ground.phase }, { on := 1, ground := Ground.phase }, { on := 2, ground := Ground.phase }, { on := 3, ground := Ground.phase }, { on := 4, ground := Ground.phase }, { on := 5, ground := Ground.phase }, { on := 6, ground := Ground.phase }, { on := 7, ground := Ground.phase }, { on := 8, ground := Ground.phase }, { on := 9, ground := Ground.phase }, { on := 10, ground := Ground.phase }, { on := 11, ground := Ground.phase }, { on := 12, ground := Ground.phase }, { on := 13, ground := Ground.phase }, { on := 14, ground := Ground.phase }, { on := 15, ground := Ground.phase }, { on := 16, ground := Ground.phase }, { on := 17, ground := Ground.phase }, { on := 18, ground := Ground.phase }, { on := 19, ground := Ground.phase }, { on := 20, ground := Ground.phase }, { on := 21, ground := Ground.phase }, { on := 22, ground := Ground.phase }, { on := 23, ground := Ground.phase }, { on := 24, ground := Ground.phase }, { on := 25, ground := Ground.phase }, { on := 26, ground := Ground.phase }, { on := 27, ground := Ground.phase }, { on := 28, ground := Ground.phase }, { on := 29, ground := Ground.phase }, { on := 30, ground := Ground.phase }, { on := 31, ground := Ground.phase }, { on := 32, ground := Ground.phase }, { on := 33, ground := Ground.phase }, { on := 34, ground := Ground.phase }, { on := 35, ground := Ground.phase }, { on := 36, ground := Ground.phase }, { on := 37, ground := Ground.phase }, { on := 38, ground := Ground.phase }, { on := 39, ground := Ground.phase }], guard := none }) (v := ?va40) rfl (by kernel_rfl) (by kernel_rfl) (by kernel_rfl) (fun _ _ _ h => h) (Or.inl ⟨by rfl, ?ha40⟩) (Below.refl _ _) ?ra40
  case ha40 =>
    intro w hSw
    go_simp
    try with_reducible rfl
  (try simp only [Act.put, List.setIfInBounds_toArray, List.set_cons_zero, List.set_cons_succ])
  refine wpAnyH_done (by kernel_rfl) ?_ _
  refine NoPanic.normal ?_
  go_wp2
  go_ret
  exact ⟨rfl, b⟩
end Go.Proofs.YteekjcfbnoakgaaDoor
