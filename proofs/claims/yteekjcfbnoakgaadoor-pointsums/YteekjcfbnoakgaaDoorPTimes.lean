/- The law PointTimes over any way to hold a point. -/
import Derived.Test.YteekjcfbnoakgaaDoorRBase6M
namespace Go.Proofs.YteekjcfbnoakgaaDoor
open Go.RowKit
def timE (m : Nat) : Int := if m = 32 then 0 else 1
noncomputable def timP (m : Nat) (ks : Nat → Nat) (P : Fp × Fp) : Fp × Fp := if m = 32 then emul dE (ofB ks 32) P else ezero
theorem api_times {G : World → Prop} {R : List Value → Fp × Fp → Prop} (api : PointApi G R) (c : List Value) (P : Fp × Fp) (hc : R c P) (v : Value) (m : Nat) (ks : Nat → Nat) (hks : ∀ j, ks j < 256) (w : World) (hv : BytesIn w v m ks) (hG : G w) :
    Calls Tryd.prog 20 #[.agg c.toArray, v] w fun e w' => ∃ c' : List Value, e = .returned (.tuple #[.agg c'.toArray, .int .i64 (timE m)]) ∧ R c' (timP m ks P) ∧ Below w.heap.size w w' := by
  unfold timE timP
  by_cases hm : m = 32
  · subst hm
    rw [if_pos rfl, if_pos rfl]
    exact api.times c P v ks w hc hks hv hG
  · rw [if_neg hm, if_neg hm]
    exact api.timesBad c P v m ks w hc hm hv hG
theorem ref_times {r : P4} {P : Fp × Fp} (hr : r.Pt P) (v : Value) (m : Nat) (ks : Nat → Nat) (hks : ∀ j, ks j < 256) (w : World) (hv : BytesIn w v m ks) :
    Calls Tryd.prog 21 #[.agg (q64 r.X r.Y r.Z r.T).toArray, v] w fun e w' => ∃ t : P4, e = .returned (.tuple #[.agg (q64 t.X t.Y t.Z t.T).toArray, .int .i64 (timE m)]) ∧ t.Pt (timP m ks P) ∧ Below w.heap.size w w' := by
  unfold timE timP
  by_cases hm : m = 32
  · subst hm
    rw [if_pos rfl, if_pos rfl]
    exact rtimes_pt hr v ks hks w hv
  · rw [if_neg hm, if_neg hm]
    exact (rtimes6_bad r v m ks w hv hm).mono fun _ _ ⟨t, he, ht, hb⟩ => ⟨t, he, ⟨ezero_on dE, _, ht, zeroN_ok, zeroN_ext⟩, hb⟩
set_option maxRecDepth 20000 in
set_option maxHeartbeats 8000000 in
theorem ptimes_bad {G : World → Prop} {R : List Value → Fp × Fp → Prop} (api : PointApi G R) (v u : Value) (n m : Nat) (bs ks : Nat → Nat) (hbs : ∀ j, bs j < 256) (hks : ∀ j, ks j < 256) (hm : m < 140737488355000) (w : World) (hv : BytesIn w v n bs) (hu : BytesIn w u m ks) (hG : G w) (hE : decE n bs ≠ 0) :
    Calls Tryd.prog 4 #[v, u] w fun e w' => e = .returned (.bool true) ∧ Below w.heap.size w w' := by
  have hz := zeroP
  have hzq := zeroQ
  have kl := api.len
  have ko := api.one
  have kk := api.keep
  have kon := api.on
  have cd := api_dec api v n bs hbs w hv hG
  have cr := fun w hv => ref_dec v n bs hbs w hv
  have ck := fun w hG => knows6 api w hG
  have cl := fun w hu => lent_any u m ks w hu hm
  have cs := fun g cap w (hc : m + 2 ≤ cap) (hr : RowAt .u8 w g 0 (m + 2) (cat m ks room)) hu => stays_any g cap m u ks hks w hm hc hr hu
  have hdec : ∀ c, DecR R c n bs → R c ezero := fun c h => h.2 hE
  have hdecq : ∀ c, DecR P4.Pt c n bs → c.Pt ezero := fun c h => h.2 hE
  have cb := api.base
  have cbr : ∀ W, Calls Tryd.prog 19 #[] W fun e w' => ∃ t : P4, e = .returned (.agg (q64 t.X t.Y t.Z t.T).toArray) ∧ t.Pt baseP ∧ Below W.heap.size W w' := fun W => rbase_pt W
  have ct := fun c (hc : R c baseP) v w hv hG => api_times api c baseP hc v m ks hks w hv hG
  have cq := fun (t : P4) (ht : t.Pt baseP) w hu => ref_times ht u m ks hks w hu
  have cE := api.enc
  generalize timE m = em at *
  generalize timP m ks baseP = PR at *
  generalize baseP = pb at *
  generalize decE n bs = er at *
  clear api
  go_enter Tryd.func4, Tryd.ntmps4
  go_upto_region 11 with (first
    | (go_at_call 9; refine cd.mono ?_; clear cd; rintro e w2 ⟨c2, rfl, hd2, b⟩; (have hc2 := hdec _ hd2); (have l2 := kl _ _ hc2); (have o2 := ko _ _ hc2); (obtain ⟨V2, hV2, h2, b2, t2⟩ := boxP w2 c2 l2); (have s2 := b.size); (have H2 := Hid.mk' hV2); clear hV2; (replace b := below_next b b2); clear b2; (have cr2 := cr V2 (hv.still b)); clear cr)
    | (with_reducible (refine id (?_ : wpList _ _ _ _ _ _)); refine wpList_store_mid rfl 30 _ _ rfl w2.heap.size 0 c2.toArray rfl rfl t2 (infoPA l2) o2 ?_; rw [List.toList_toArray, ← H2.out]; clear t2 H2)
    | (go_at_call 10; refine cr2.mono ?_; clear cr2; rintro e w3 ⟨t3, rfl, hd3, hb3⟩; (have n23 : w2.heap.size ≠ w3.heap.size := Nat.ne_of_lt (Nat.lt_of_lt_of_le h2.lt hb3.size)); (replace h2 := h2.still hb3); (replace b := below_next b hb3); clear hb3; (have hq3 := hdecq _ hd3); (obtain ⟨V3, hV3, h3, b3, u3⟩ := boxQ w3 t3); (have s3 := b.size); (have H3 := Hid.mk' hV3); clear hV3; (replace h2 := h2.still b3); (replace b := below_next b b3); clear b3; (have ck3 := ck V3 (kk _ _ hG b)); clear ck)
    | (with_reducible (refine id (?_ : wpList _ _ _ _ _ _)); refine wpList_store_mid rfl 38 _ _ rfl w3.heap.size 0 (q64 t3.X t3.Y t3.Z t3.T).toArray rfl rfl u3 (infoQA _ _ _ _) (oneQ _ _ _ _) ?_; rw [List.toList_toArray, ← H3.out]; clear u3 H3)
    | (go_at_call 11; refine (num6_any _ _).mono ?_; rintro e wn ⟨rfl, hwn⟩; subst hwn)
    | (go_at_call 13; refine ck3.mono ?_; clear ck3; rintro e w5 ⟨rfl, hb5⟩; (replace h2 := h2.still hb5); (replace h3 := h3.still hb5); (replace b := below_next b hb5); clear hb5; (have cb5 := cb w5 (kk _ _ hG b)); clear cb)
    | (go_at_call 18; refine cb5.mono ?_; clear cb5; rintro e w6 ⟨c6, rfl, hc6, hb6⟩; (replace h2 := h2.still hb6); (replace h3 := h3.still hb6); (replace b := below_next b hb6); clear hb6; (have l6 := kl _ _ hc6); (have o6 := ko _ _ hc6); (have t6 := thereP h2 l2 l6); (obtain ⟨V6, hV6⟩ : ∃ V, V = w6.setCells w2.heap.size 0 c6 := ⟨_, rfl⟩); (have h2b := h2.stored c6 (by rw [l6, l2])); (replace h3 := h3.far w2.heap.size 0 c6 (.inl (Ne.symm n23))); (replace b := below_setCells s2 c6 0 _ b); rw [← hV6] at h2b h3 b; (have H6 := Hid.mk' hV6); clear hV6 h2; (have cbr6 := cbr V6); clear cbr)
    | (with_reducible (refine id (?_ : wpList _ _ _ _ _ _)); refine wpList_store_mid rfl 30 _ _ rfl w2.heap.size 0 c6.toArray rfl rfl t6 (infoPA l6) o6 ?_; rw [List.toList_toArray, ← H6.out]; clear t6 H6)
    | (go_at_call 19; refine cbr6.mono ?_; clear cbr6; rintro e w7 ⟨t7, rfl, ht7, hb7⟩; (replace h2b := h2b.still hb7); (replace h3 := h3.still hb7); (replace b := below_next b hb7); clear hb7; (have u7 : w7.there w3.heap.size 0 (q64 t7.X t7.Y t7.Z t7.T).toArray.size := there64 h3); (obtain ⟨V7, hV7⟩ : ∃ V, V = w7.setCells w3.heap.size 0 (q64 t7.X t7.Y t7.Z t7.T) := ⟨_, rfl⟩); (have h3b := h3.stored (q64 t7.X t7.Y t7.Z t7.T) (q64_same _ _ _ _ _ _ _ _)); (replace h2b := h2b.far w3.heap.size 0 (q64 t7.X t7.Y t7.Z t7.T) (.inl n23)); (replace b := below_setCells s3 (q64 t7.X t7.Y t7.Z t7.T) 0 _ b); rw [← hV7] at h2b h3b b; (have H7 := Hid.mk' hV7); clear hV7 h3; (have cl5 := cl V7 (hu.still b)); clear cl)
    | (with_reducible (refine id (?_ : wpList _ _ _ _ _ _)); refine wpList_store_mid rfl 38 _ _ rfl w3.heap.size 0 (q64 t7.X t7.Y t7.Z t7.T).toArray rfl rfl u7 (infoQA _ _ _ _) (oneQ _ _ _ _) ?_; rw [List.toList_toArray, ← H7.out]; clear u7 H7)
    | (go_at_call 8; refine cl5.mono ?_; clear cl5; rintro e w8 ⟨g8, cap8, rfl, hcap8, hg8, hr8, hb8⟩; (have le := LentAt.mk hr8); (replace h2b := h2b.still hb8); (replace h3b := h3b.still hb8); (replace b := below_next b hb8); clear hb8; (have ct8 := ct c6 hc6 _ w8 (lentB hr8 hcap8) (kk _ _ hG b)); clear ct hr8 hg8)
    | (refine wpList_load_mid rfl 30 _ rfl w2.heap.size 0 rfl c6 _ h2b.range Tryd.underlying30 rfl (infoP l6) ?_)
    | (go_at_call 20; refine ct8.mono ?_; clear ct8; rintro e w9 ⟨c9, rfl, hc9, hb9⟩; (replace le := le.still hb9); (replace h3b := h3b.still hb9); (replace b := below_next b hb9); clear hb9; clear h2b; (have l9 := kl _ _ hc9); (have o9 := ko _ _ hc9); (obtain ⟨V9, hV9, h9, b9, t9⟩ := boxP w9 c9 l9); (have H9 := Hid.mk' hV9); clear hV9; (replace le := le.still b9); (replace h3b := h3b.still b9); (replace b := below_next b b9); clear b9; (have cq9 := cq t7 ht7 V9 (hu.still b)); clear cq)
    | (with_reducible (refine id (?_ : wpList _ _ _ _ _ _)); refine wpList_store_mid rfl 30 _ _ rfl w9.heap.size 0 c9.toArray rfl rfl t9 (infoPA l9) o9 ?_; rw [List.toList_toArray, ← H9.out]; clear t9 H9)
    | (refine wpList_load_mid rfl 38 _ rfl w3.heap.size 0 rfl (q64 t7.X t7.Y t7.Z t7.T) _ h3b.range Tryd.underlying38 rfl (infoQ _ _ _ _) ?_)
    | (go_at_call 21; refine cq9.mono ?_; clear cq9; rintro e w10 ⟨t10, rfl, hq10, hb10⟩; (replace le := le.still hb10); (replace h9 := h9.still hb10); (replace b := below_next b hb10); clear hb10; clear h3b; (obtain ⟨V10, hV10, h10, b10, u10⟩ := boxQ w10 t10); (have H10 := Hid.mk' hV10); clear hV10; (replace le := le.still b10); (replace h9 := h9.still b10); (replace b := below_next b b10); clear b10)
    | (with_reducible (refine id (?_ : wpList _ _ _ _ _ _)); refine wpList_store_mid rfl 38 _ _ rfl w10.heap.size 0 (q64 t10.X t10.Y t10.Z t10.T).toArray rfl rfl u10 (infoQA _ _ _ _) (oneQ _ _ _ _) ?_; rw [List.toList_toArray, ← H10.out]; clear u10 H10))
  (try simp only [Act.put, List.setIfInBounds_toArray, List.set_cons_zero, List.set_cons_succ])
  have ce := fun w hG => cE c9 _ w hc9 hG
  have cf : ∀ W, Calls Tryd.prog 17 #[.agg (q64 t10.X t10.Y t10.Z t10.T).toArray] W fun e w' => ∃ v, e = .returned v ∧ NewC W w' v 32 _ ∧ Below W.heap.size W w' := fun W => renc_pt hq10 W
  clear cE hc9 hq10
  have hse : ((strB 32 (encB PR)).toList == (strB 32 (encB PR)).toList) = true := beq_self_eq_true _
  have hdrew : Below V10.heap.size V10 V10.drew := (Below.refl _ _).drew
  replace h9 := h9.still hdrew
  replace h10 := h10.still hdrew
  replace le := le.still hdrew
  replace b := below_next b hdrew
  clear hdrew
  refine wp_region_noPanic ?_
  refine wp_region_held_drew (S := fun w' => Below V10.drew.heap.size V10.drew w') (by kernel_rfl) (Below.refl _ _) (fun hHeld => ?_)
  clear hHeld
  refine wpAnyH_take (i := 0) (oi := { dst := some 50, op := Op.move (Operand.tmp 11), type := 31, pos := "law.go:57", after := #[], guard := none }) (v := ?va0) rfl (by kernel_rfl) (by kernel_rfl) (by kernel_rfl) (fun _ _ _ h => h) (Or.inl ⟨by rfl, ?ha0⟩) (Below.refl _ _) ?ra0
  case ha0 =>
    intro w hSw
    go_simp
    try with_reducible rfl
  (try simp only [Act.put, List.setIfInBounds_toArray, List.set_cons_zero, List.set_cons_succ])
  refine wpAnyH_take (i := 2) (oi := { dst := some 52, op := Op.move (Operand.tmp 13), type := 3, pos := "law.go:57", after := #[], guard := none }) (v := ?va2) rfl (by kernel_rfl) (by kernel_rfl) (by kernel_rfl) (fun _ _ _ h => h) (Or.inl ⟨by rfl, ?ha2⟩) (Below.refl _ _) ?ra2
  case ha2 =>
    intro w hSw
    go_simp
    try with_reducible rfl
  (try simp only [Act.put, List.setIfInBounds_toArray, List.set_cons_zero, List.set_cons_succ])
  refine wpAnyH_ready (rs := [1]) (by kernel_rfl) (by simp) ?_
  refine AllReadyH.cons (o := { dst := some 51, op := Op.call { callee := Callee.value (Operand.func 11), args := #[Operand.tmp 50], argTypes := #[31] }, type := 3, pos := "law.go:57", after := #[{ on := 0, ground := Ground.data }], guard := none }) rfl (fun K hK => ?_) AllReadyH.nil
  go_simp
  (go_at_call 11; refine (num6_any _ _).mono ?_; rintro e wn ⟨rfl, hwn⟩; subst hwn)
  (try go_simp)
  refine hK.out _ _ (Below.refl _ _) (fun h => ?_)
  clear h hK K
  (try simp only [Act.put, List.setIfInBounds_toArray, List.set_cons_zero, List.set_cons_succ])
  refine wpAnyH_take (i := 3) (oi := { dst := some 53, op := Op.binOp BinOp.eql 3 (Operand.tmp 51) (Operand.tmp 52) 3, type := 4, pos := "law.go:57", after := #[{ on := 1, ground := Ground.data }, { on := 2, ground := Ground.data }], guard := none }) (v := ?va3) rfl (by kernel_rfl) (by kernel_rfl) (by kernel_rfl) (fun _ _ _ h => h) (Or.inl ⟨by rfl, ?ha3⟩) (Below.refl _ _) ?ra3
  case ha3 =>
    intro w hSw
    go_simp
    try with_reducible rfl
  (try simp only [Act.put, List.setIfInBounds_toArray, List.set_cons_zero, List.set_cons_succ])
  refine wpAnyH_take (i := 4) (oi := { dst := some 54, op := Op.move (Operand.tmp 53), type := 4, pos := "law.go:57", after := #[{ on := 3, ground := Ground.data }, { on := 1, ground := Ground.chain }], guard := none }) (v := ?va4) rfl (by kernel_rfl) (by kernel_rfl) (by kernel_rfl) (fun _ _ _ h => h) (Or.inl ⟨by rfl, ?ha4⟩) (Below.refl _ _) ?ra4
  case ha4 =>
    intro w hSw
    go_simp
    try with_reducible rfl
  (try simp only [Act.put, List.setIfInBounds_toArray, List.set_cons_zero, List.set_cons_succ])
  refine wpAnyH_take (i := 5) (oi := { dst := some 55, op := Op.load 30 (Operand.tmp 10), type := 30, pos := "law.go:57", after := #[{ on := 4, ground := Ground.guard }], guard := some (4, true) }) (v := .agg c9.toArray) rfl (by kernel_rfl) (by kernel_rfl) (by kernel_rfl) (fun _ _ _ h => h) (yieldsIf_load_mid (by rfl) 30 _ rfl w9.heap.size 0 rfl (c9) _ (fun _ h => (h9.still h).range) Tryd.underlying30 rfl (infoP l9)) (Below.refl _ _) ?_
  (try simp only [Act.put, List.setIfInBounds_toArray, List.set_cons_zero, List.set_cons_succ])
  refine wpAnyH_take (i := 8) (oi := { dst := some 58, op := Op.load 38 (Operand.tmp 12), type := 38, pos := "law.go:57", after := #[{ on := 4, ground := Ground.guard }], guard := some (4, true) }) (v := .agg (q64 t10.X t10.Y t10.Z t10.T).toArray) rfl (by kernel_rfl) (by kernel_rfl) (by kernel_rfl) (fun _ _ _ h => h) (yieldsIf_load_mid (by rfl) 38 _ rfl w10.heap.size 0 rfl (q64 t10.X t10.Y t10.Z t10.T) _ (fun _ h => (h10.still h).range) Tryd.underlying38 rfl (infoQ _ _ _ _)) (Below.refl _ _) ?_
  (try simp only [Act.put, List.setIfInBounds_toArray, List.set_cons_zero, List.set_cons_succ])
  refine wpAnyH_ready (rs := [6]) (by kernel_rfl) (by simp) ?_
  refine AllReadyH.cons (o := { dst := some 56, op := Op.call { callee := Callee.value (Operand.func 16), args := #[Operand.tmp 55], argTypes := #[30] }, type := 22, pos := "law.go:57", after := #[{ on := 5, ground := Ground.data }, { on := 4, ground := Ground.chain }, { on := 4, ground := Ground.guard }], guard := some (4, true) }) rfl (fun K hK => ?_) AllReadyH.nil
  go_simp
  (go_at_call 16; refine (ce _ (kk _ _ hG b)).mono ?_; clear ce; rintro e w11 ⟨v11, rfl, hn11, hb11⟩; (have t11 := Str.of (NewC.bytes hn11 (by decide)) (encB_lt _)); (obtain ⟨x11, n11, k11, rfl⟩ := t11.form); clear hn11)
  (try go_simp)
  refine hK.out _ _ hb11 (fun h => ?_)
  clear h hK K
  refine wpAnyH_narrow (S' := fun w' => Below w11.heap.size w11 w') (fun _ h => below_next hb11 h) _ _ _ _ ?_
  clear h9
  replace h10 := h10.still hb11
  replace le := le.still hb11
  replace b := below_next b hb11
  clear hb11
  (try simp only [Act.put, List.setIfInBounds_toArray, List.set_cons_zero, List.set_cons_succ])
  refine wpAnyH_take (i := 7) (oi := { dst := some 57, op := Op.convert 22 9 (Operand.tmp 56), type := 9, pos := "law.go:57", after := #[{ on := 6, ground := Ground.data }, { on := 4, ground := Ground.guard }], guard := some (4, true) }) (v := ?va7) rfl (by kernel_rfl) (by kernel_rfl) (by kernel_rfl) (fun _ _ _ h => h) (Or.inl ⟨by rfl, ?ha7⟩) (Below.refl _ _) ?ra7
  case ha7 =>
    intro w hSw
    have q := t11.conv w hSw
    go_simp
    try with_reducible rfl
  (try simp only [Act.put, List.setIfInBounds_toArray, List.set_cons_zero, List.set_cons_succ])
  refine wpAnyH_ready (rs := [9]) (by kernel_rfl) (by simp) ?_
  refine AllReadyH.cons (o := { dst := some 59, op := Op.call { callee := Callee.value (Operand.func 17), args := #[Operand.tmp 58], argTypes := #[38] }, type := 22, pos := "law.go:57", after := #[{ on := 8, ground := Ground.data }, { on := 6, ground := Ground.chain }, { on := 4, ground := Ground.guard }], guard := some (4, true) }) rfl (fun K hK => ?_) AllReadyH.nil
  go_simp
  (go_at_call 17; refine (cf _).mono ?_; clear cf; rintro e w12 ⟨v12, rfl, hn12, hb12⟩; (have t12 := Str.of (NewC.bytes hn12 (by decide)) (encB_lt _)); (obtain ⟨x12, n12, k12, rfl⟩ := t12.form); clear hn12)
  (try go_simp)
  refine hK.out _ _ hb12 (fun h => ?_)
  clear h hK K
  refine wpAnyH_narrow (S' := fun w' => Below w12.heap.size w12 w') (fun _ h => below_next hb12 h) _ _ _ _ ?_
  clear h10
  replace le := le.still hb12
  replace t11 := t11.still hb12
  replace b := below_next b hb12
  clear hb12
  (try simp only [Act.put, List.setIfInBounds_toArray, List.set_cons_zero, List.set_cons_succ])
  refine wpAnyH_take (i := 10) (oi := { dst := some 60, op := Op.convert 22 9 (Operand.tmp 59), type := 9, pos := "law.go:57", after := #[{ on := 9, ground := Ground.data }, { on := 4, ground := Ground.guard }], guard := some (4, true) }) (v := ?va10) rfl (by kernel_rfl) (by kernel_rfl) (by kernel_rfl) (fun _ _ _ h => h) (Or.inl ⟨by rfl, ?ha10⟩) (Below.refl _ _) ?ra10
  case ha10 =>
    intro w hSw
    have q := t12.conv w hSw
    go_simp
    try with_reducible rfl
  (try simp only [Act.put, List.setIfInBounds_toArray, List.set_cons_zero, List.set_cons_succ])
  refine wpAnyH_take (i := 11) (oi := { dst := some 61, op := Op.binOp BinOp.eql 9 (Operand.tmp 57) (Operand.tmp 60) 9, type := 4, pos := "law.go:57", after := #[{ on := 7, ground := Ground.data }, { on := 10, ground := Ground.data }, { on := 4, ground := Ground.guard }], guard := some (4, true) }) (v := ?va11) rfl (by kernel_rfl) (by kernel_rfl) (by kernel_rfl) (fun _ _ _ h => h) (Or.inl ⟨by rfl, ?ha11⟩) (Below.refl _ _) ?ra11
  case ha11 =>
    intro w hSw
    go_simp
    try with_reducible rfl
  (try simp only [Act.put, List.setIfInBounds_toArray, List.set_cons_zero, List.set_cons_succ])
  refine wpAnyH_take (i := 12) (oi := { dst := some 62, op := Op.pick (Operand.tmp 54) (Operand.tmp 61) (Operand.const (Value.bool false)), type := 4, pos := "law.go:57", after := #[{ on := 4, ground := Ground.data }, { on := 11, ground := Ground.data }], guard := none }) (v := ?va12) rfl (by kernel_rfl) (by kernel_rfl) (by kernel_rfl) (fun _ _ _ h => h) (Or.inl ⟨by rfl, ?ha12⟩) (Below.refl _ _) ?ra12
  case ha12 =>
    intro w hSw
    go_simp
    try with_reducible rfl
  (try simp only [Act.put, List.setIfInBounds_toArray, List.set_cons_zero, List.set_cons_succ])
  refine wpAnyH_take (i := 13) (oi := { dst := some 63, op := Op.move (Operand.tmp 62), type := 4, pos := "law.go:57", after := #[{ on := 12, ground := Ground.data }, { on := 9, ground := Ground.chain }], guard := none }) (v := ?va13) rfl (by kernel_rfl) (by kernel_rfl) (by kernel_rfl) (fun _ _ _ h => h) (Or.inl ⟨by rfl, ?ha13⟩) (Below.refl _ _) ?ra13
  case ha13 =>
    intro w hSw
    go_simp
    try with_reducible rfl
  (try simp only [Act.put, List.setIfInBounds_toArray, List.set_cons_zero, List.set_cons_succ])
  refine wpAnyH_take (i := 14) (oi := { dst := some 64, op := Op.move (Operand.tmp 9), type := 22, pos := "law.go:57", after := #[{ on := 13, ground := Ground.guard }], guard := some (13, true) }) (v := ?va14) rfl (by kernel_rfl) (by kernel_rfl) (by kernel_rfl) (fun _ _ _ h => h) (Or.inl ⟨by rfl, ?ha14⟩) (Below.refl _ _) ?ra14
  case ha14 =>
    intro w hSw
    go_simp
    try with_reducible rfl
  (try simp only [Act.put, List.setIfInBounds_toArray, List.set_cons_zero, List.set_cons_succ])
  refine wpAnyH_take (i := 15) (oi := { dst := some 65, op := Op.move (Operand.tmp 1), type := 22, pos := "law.go:57", after := #[{ on := 13, ground := Ground.guard }], guard := some (13, true) }) (v := ?va15) rfl (by kernel_rfl) (by kernel_rfl) (by kernel_rfl) (fun _ _ _ h => h) (Or.inl ⟨by rfl, ?ha15⟩) (Below.refl _ _) ?ra15
  case ha15 =>
    intro w hSw
    go_simp
    try with_reducible rfl
  (try simp only [Act.put, List.setIfInBounds_toArray, List.set_cons_zero, List.set_cons_succ])
  refine wpAnyH_ready (rs := [16]) (by kernel_rfl) (by simp) ?_
  refine AllReadyH.cons (o := { dst := some 66, op := Op.call { callee := Callee.value (Operand.func 12), args := #[Operand.tmp 64, Operand.tmp 65], argTypes := #[22, 22] }, type := 4, pos := "law.go:57", after := #[{ on := 14, ground := Ground.data }, { on := 15, ground := Ground.data }, { on := 13, ground := Ground.chain }, { on := 13, ground := Ground.guard }], guard := some (13, true) }) rfl (fun K hK => ?_) AllReadyH.nil
  go_simp
  (go_at_call 12; refine (cs g8 cap8 _ hcap8 le.row (hu.still b)).mono ?_; clear cs; rintro e w13 ⟨rfl, hb13⟩)
  (try go_simp)
  refine hK.out _ _ hb13 (fun h => ?_)
  clear h hK K
  refine wpAnyH_narrow (S' := fun w' => Below w13.heap.size w13 w') (fun _ h => below_next hb13 h) _ _ _ _ ?_
  clear le
  replace t11 := t11.still hb13
  replace t12 := t12.still hb13
  replace b := below_next b hb13
  clear hb13
  (try simp only [Act.put, List.setIfInBounds_toArray, List.set_cons_zero, List.set_cons_succ])
  refine wpAnyH_take (i := 17) (oi := { dst := some 67, op := Op.pick (Operand.tmp 63) (Operand.tmp 66) (Operand.const (Value.bool false)), type := 4, pos := "law.go:57", after := #[{ on := 13, ground := Ground.data }, { on := 16, ground := Ground.data }], guard := none }) (v := ?va17) rfl (by kernel_rfl) (by kernel_rfl) (by kernel_rfl) (fun _ _ _ h => h) (Or.inl ⟨by rfl, ?ha17⟩) (Below.refl _ _) ?ra17
  case ha17 =>
    intro w hSw
    go_simp
    try with_reducible rfl
  (try simp only [Act.put, List.setIfInBounds_toArray, List.set_cons_zero, List.set_cons_succ])
  refine wpAnyH_take (i := 18) (oi := { dst := some 4, op := Op.assign (Operand.tmp 67), type := 4, pos := "law.go:57", after := #[{ on := 17, ground := Ground.data }, { on := 16, ground := Ground.chain }, { on := 0, ground := Ground.phase }, { on := 1, ground := Ground.phase }, { on := 2, ground := Ground.phase }, { on := 3, ground := Ground.phase }, { on := 4, ground := Ground.phase }, { on := 5, ground := Ground.phase }, { on := 6, ground := Ground.phase }, { on := 7, ground := Ground.phase }, { on := 8, ground := Ground.phase }, { on := 9, ground := Ground.phase }, { on := 10, ground := Ground.phase }, { on := 11, ground := Ground.phase }, { on := 12, ground := Ground.phase }, { on := 13, ground := Ground.phase }, { on := 14, ground := Ground.phase }, { on := 15, ground := Ground.phase }, { on := 16, ground := Ground.phase }, { on := 17, ground := Ground.phase }], guard := none }) (v := ?va18) rfl (by kernel_rfl) (by kernel_rfl) (by kernel_rfl) (fun _ _ _ h => h) (Or.inl ⟨by rfl, ?ha18⟩) (Below.refl _ _) ?ra18
  case ha18 =>
    intro w hSw
    go_simp
    try with_reducible rfl
  (try simp only [Act.put, List.setIfInBounds_toArray, List.set_cons_zero, List.set_cons_succ])
  refine wpAnyH_done (by kernel_rfl) ?_ _
  refine NoPanic.normal ?_
  go_wp2
  go_ret
  exact ⟨rfl, b⟩
set_option maxRecDepth 20000 in
set_option maxHeartbeats 8000000 in
theorem ptimes_good {G : World → Prop} {R : List Value → Fp × Fp → Prop} (api : PointApi G R) (v u : Value) (n m : Nat) (bs ks : Nat → Nat) (hbs : ∀ j, bs j < 256) (hks : ∀ j, ks j < 256) (hm : m < 140737488355000) (w : World) (hv : BytesIn w v n bs) (hu : BytesIn w u m ks) (hG : G w) (hE : decE n bs = 0) :
    Calls Tryd.prog 4 #[v, u] w fun e w' => e = .returned (.bool true) ∧ Below w.heap.size w w' := by
  have hz := zeroP
  have hzq := zeroQ
  have kl := api.len
  have ko := api.one
  have kk := api.keep
  have kon := api.on
  have cd := api_dec api v n bs hbs w hv hG
  have cr := fun w hv => ref_dec v n bs hbs w hv
  have ck := fun w hG => knows6 api w hG
  have cl := fun w hu => lent_any u m ks w hu hm
  have cs := fun g cap w (hc : m + 2 ≤ cap) (hr : RowAt .u8 w g 0 (m + 2) (cat m ks room)) hu => stays_any g cap m u ks hks w hm hc hr hu
  have hdec : ∀ c, DecR R c n bs → ∃ P, R c P ∧ ∀ j, j < 32 → encB P j = bs j := fun c h => (h.1 hE).2
  have hdecq : ∀ c, DecR P4.Pt c n bs → ∃ P, c.Pt P ∧ ∀ j, j < 32 → encB P j = bs j := fun c h => (h.1 hE).2
  have ee : ∀ P Q, On dE P → On dE Q → (∀ j, j < 32 → encB P j = bs j) → (∀ j, j < 32 → encB Q j = bs j) → P = Q := fun P Q hP hQ h1 h2 => encB_inj hP hQ (fun j hj => (h1 j hj).trans (h2 j hj).symm)
  have ct := fun c P (hc : R c P) v w hv hG => api_times api c P hc v m ks hks w hv hG
  have cq := fun (t : P4) P (ht : t.Pt P) w hu => ref_times ht u m ks hks w hu
  have cE := api.enc
  rw [hE] at cd cr
  generalize timE m = em at *
  clear hE
  clear api
  go_enter Tryd.func4, Tryd.ntmps4
  go_upto_region 11 with (first
    | (go_at_call 9; refine cd.mono ?_; clear cd; rintro e w2 ⟨c2, rfl, hd2, b⟩; (obtain ⟨P2, hc2, e2⟩ := hdec _ hd2); (have l2 := kl _ _ hc2); (have o2 := ko _ _ hc2); (obtain ⟨V2, hV2, h2, b2, t2⟩ := boxP w2 c2 l2); (have s2 := b.size); (have H2 := Hid.mk' hV2); clear hV2; (replace b := below_next b b2); clear b2; (have cr2 := cr V2 (hv.still b)); clear cr)
    | (with_reducible (refine id (?_ : wpList _ _ _ _ _ _)); refine wpList_store_mid rfl 30 _ _ rfl w2.heap.size 0 c2.toArray rfl rfl t2 (infoPA l2) o2 ?_; rw [List.toList_toArray, ← H2.out]; clear t2 H2)
    | (go_at_call 10; refine cr2.mono ?_; clear cr2; rintro e w3 ⟨t3, rfl, hd3, hb3⟩; (have n23 : w2.heap.size ≠ w3.heap.size := Nat.ne_of_lt (Nat.lt_of_lt_of_le h2.lt hb3.size)); (replace h2 := h2.still hb3); (replace b := below_next b hb3); clear hb3; (obtain ⟨Q3, hq3, e3⟩ := hdecq _ hd3); (obtain rfl : P2 = Q3 := ee _ _ (kon _ _ hc2) hq3.1 e2 e3); clear e2 e3; (obtain ⟨V3, hV3, h3, b3, u3⟩ := boxQ w3 t3); (have s3 := b.size); (have H3 := Hid.mk' hV3); clear hV3; (replace h2 := h2.still b3); (replace b := below_next b b3); clear b3; (have ck3 := ck V3 (kk _ _ hG b)); clear ck)
    | (with_reducible (refine id (?_ : wpList _ _ _ _ _ _)); refine wpList_store_mid rfl 38 _ _ rfl w3.heap.size 0 (q64 t3.X t3.Y t3.Z t3.T).toArray rfl rfl u3 (infoQA _ _ _ _) (oneQ _ _ _ _) ?_; rw [List.toList_toArray, ← H3.out]; clear u3 H3)
    | (go_at_call 11; refine (num6_any _ _).mono ?_; rintro e wn ⟨rfl, hwn⟩; subst hwn)
    | (go_at_call 13; refine ck3.mono ?_; clear ck3; rintro e w5 ⟨rfl, hb5⟩; (replace h2 := h2.still hb5); (replace h3 := h3.still hb5); (replace b := below_next b hb5); clear hb5; (have cl5 := cl w5 (hu.still b)); clear cl)
    | (go_at_call 8; refine cl5.mono ?_; clear cl5; rintro e w8 ⟨g8, cap8, rfl, hcap8, hg8, hr8, hb8⟩; (have le := LentAt.mk hr8); (replace h2 := h2.still hb8); (replace h3 := h3.still hb8); (replace b := below_next b hb8); clear hb8; (have ct8 := ct c2 P2 hc2 _ w8 (lentB hr8 hcap8) (kk _ _ hG b)); clear ct hr8 hg8)
    | (refine wpList_load_mid rfl 30 _ rfl w2.heap.size 0 rfl c2 _ h2.range Tryd.underlying30 rfl (infoP l2) ?_)
    | (go_at_call 20; refine ct8.mono ?_; clear ct8; rintro e w9 ⟨c9, rfl, hc9, hb9⟩; (replace le := le.still hb9); (replace h3 := h3.still hb9); (replace b := below_next b hb9); clear hb9; clear h2; (have l9 := kl _ _ hc9); (have o9 := ko _ _ hc9); (obtain ⟨V9, hV9, h9, b9, t9⟩ := boxP w9 c9 l9); (have H9 := Hid.mk' hV9); clear hV9; (replace le := le.still b9); (replace h3 := h3.still b9); (replace b := below_next b b9); clear b9; (have cq9 := cq t3 P2 hq3 V9 (hu.still b)); clear cq)
    | (with_reducible (refine id (?_ : wpList _ _ _ _ _ _)); refine wpList_store_mid rfl 30 _ _ rfl w9.heap.size 0 c9.toArray rfl rfl t9 (infoPA l9) o9 ?_; rw [List.toList_toArray, ← H9.out]; clear t9 H9)
    | (refine wpList_load_mid rfl 38 _ rfl w3.heap.size 0 rfl (q64 t3.X t3.Y t3.Z t3.T) _ h3.range Tryd.underlying38 rfl (infoQ _ _ _ _) ?_)
    | (go_at_call 21; refine cq9.mono ?_; clear cq9; rintro e w10 ⟨t10, rfl, hq10, hb10⟩; (replace le := le.still hb10); (replace h9 := h9.still hb10); (replace b := below_next b hb10); clear hb10; clear h3; (obtain ⟨V10, hV10, h10, b10, u10⟩ := boxQ w10 t10); (have H10 := Hid.mk' hV10); clear hV10; (replace le := le.still b10); (replace h9 := h9.still b10); (replace b := below_next b b10); clear b10)
    | (with_reducible (refine id (?_ : wpList _ _ _ _ _ _)); refine wpList_store_mid rfl 38 _ _ rfl w10.heap.size 0 (q64 t10.X t10.Y t10.Z t10.T).toArray rfl rfl u10 (infoQA _ _ _ _) (oneQ _ _ _ _) ?_; rw [List.toList_toArray, ← H10.out]; clear u10 H10))
  (try simp only [Act.put, List.setIfInBounds_toArray, List.set_cons_zero, List.set_cons_succ])
  have ce := fun w hG => cE c9 _ w hc9 hG
  have cf : ∀ W, Calls Tryd.prog 17 #[.agg (q64 t10.X t10.Y t10.Z t10.T).toArray] W fun e w' => ∃ v, e = .returned v ∧ NewC W w' v 32 _ ∧ Below W.heap.size W w' := fun W => renc_pt hq10 W
  clear cE hc9 hq10
  generalize timP m ks P2 = PR at *
  have hse : ((strB 32 (encB PR)).toList == (strB 32 (encB PR)).toList) = true := beq_self_eq_true _
  have hdrew : Below V10.heap.size V10 V10.drew := (Below.refl _ _).drew
  replace h9 := h9.still hdrew
  replace h10 := h10.still hdrew
  replace le := le.still hdrew
  replace b := below_next b hdrew
  clear hdrew
  refine wp_region_noPanic ?_
  refine wp_region_held_drew (S := fun w' => Below V10.drew.heap.size V10.drew w') (by kernel_rfl) (Below.refl _ _) (fun hHeld => ?_)
  clear hHeld
  refine wpAnyH_take (i := 0) (oi := { dst := some 50, op := Op.move (Operand.tmp 11), type := 31, pos := "law.go:57", after := #[], guard := none }) (v := ?vb0) rfl (by kernel_rfl) (by kernel_rfl) (by kernel_rfl) (fun _ _ _ h => h) (Or.inl ⟨by rfl, ?hb0⟩) (Below.refl _ _) ?rb0
  case hb0 =>
    intro w hSw
    go_simp
    try with_reducible rfl
  (try simp only [Act.put, List.setIfInBounds_toArray, List.set_cons_zero, List.set_cons_succ])
  refine wpAnyH_take (i := 2) (oi := { dst := some 52, op := Op.move (Operand.tmp 13), type := 3, pos := "law.go:57", after := #[], guard := none }) (v := ?vb2) rfl (by kernel_rfl) (by kernel_rfl) (by kernel_rfl) (fun _ _ _ h => h) (Or.inl ⟨by rfl, ?hb2⟩) (Below.refl _ _) ?rb2
  case hb2 =>
    intro w hSw
    go_simp
    try with_reducible rfl
  (try simp only [Act.put, List.setIfInBounds_toArray, List.set_cons_zero, List.set_cons_succ])
  refine wpAnyH_ready (rs := [1]) (by kernel_rfl) (by simp) ?_
  refine AllReadyH.cons (o := { dst := some 51, op := Op.call { callee := Callee.value (Operand.func 11), args := #[Operand.tmp 50], argTypes := #[31] }, type := 3, pos := "law.go:57", after := #[{ on := 0, ground := Ground.data }], guard := none }) rfl (fun K hK => ?_) AllReadyH.nil
  go_simp
  (go_at_call 11; refine (num6_any _ _).mono ?_; rintro e wn ⟨rfl, hwn⟩; subst hwn)
  (try go_simp)
  refine hK.out _ _ (Below.refl _ _) (fun h => ?_)
  clear h hK K
  (try simp only [Act.put, List.setIfInBounds_toArray, List.set_cons_zero, List.set_cons_succ])
  refine wpAnyH_take (i := 3) (oi := { dst := some 53, op := Op.binOp BinOp.eql 3 (Operand.tmp 51) (Operand.tmp 52) 3, type := 4, pos := "law.go:57", after := #[{ on := 1, ground := Ground.data }, { on := 2, ground := Ground.data }], guard := none }) (v := ?vb3) rfl (by kernel_rfl) (by kernel_rfl) (by kernel_rfl) (fun _ _ _ h => h) (Or.inl ⟨by rfl, ?hb3⟩) (Below.refl _ _) ?rb3
  case hb3 =>
    intro w hSw
    go_simp
    try with_reducible rfl
  (try simp only [Act.put, List.setIfInBounds_toArray, List.set_cons_zero, List.set_cons_succ])
  refine wpAnyH_take (i := 4) (oi := { dst := some 54, op := Op.move (Operand.tmp 53), type := 4, pos := "law.go:57", after := #[{ on := 3, ground := Ground.data }, { on := 1, ground := Ground.chain }], guard := none }) (v := ?vb4) rfl (by kernel_rfl) (by kernel_rfl) (by kernel_rfl) (fun _ _ _ h => h) (Or.inl ⟨by rfl, ?hb4⟩) (Below.refl _ _) ?rb4
  case hb4 =>
    intro w hSw
    go_simp
    try with_reducible rfl
  (try simp only [Act.put, List.setIfInBounds_toArray, List.set_cons_zero, List.set_cons_succ])
  refine wpAnyH_take (i := 5) (oi := { dst := some 55, op := Op.load 30 (Operand.tmp 10), type := 30, pos := "law.go:57", after := #[{ on := 4, ground := Ground.guard }], guard := some (4, true) }) (v := .agg c9.toArray) rfl (by kernel_rfl) (by kernel_rfl) (by kernel_rfl) (fun _ _ _ h => h) (yieldsIf_load_mid (by rfl) 30 _ rfl w9.heap.size 0 rfl (c9) _ (fun _ h => (h9.still h).range) Tryd.underlying30 rfl (infoP l9)) (Below.refl _ _) ?_
  (try simp only [Act.put, List.setIfInBounds_toArray, List.set_cons_zero, List.set_cons_succ])
  refine wpAnyH_take (i := 8) (oi := { dst := some 58, op := Op.load 38 (Operand.tmp 12), type := 38, pos := "law.go:57", after := #[{ on := 4, ground := Ground.guard }], guard := some (4, true) }) (v := .agg (q64 t10.X t10.Y t10.Z t10.T).toArray) rfl (by kernel_rfl) (by kernel_rfl) (by kernel_rfl) (fun _ _ _ h => h) (yieldsIf_load_mid (by rfl) 38 _ rfl w10.heap.size 0 rfl (q64 t10.X t10.Y t10.Z t10.T) _ (fun _ h => (h10.still h).range) Tryd.underlying38 rfl (infoQ _ _ _ _)) (Below.refl _ _) ?_
  (try simp only [Act.put, List.setIfInBounds_toArray, List.set_cons_zero, List.set_cons_succ])
  refine wpAnyH_ready (rs := [6]) (by kernel_rfl) (by simp) ?_
  refine AllReadyH.cons (o := { dst := some 56, op := Op.call { callee := Callee.value (Operand.func 16), args := #[Operand.tmp 55], argTypes := #[30] }, type := 22, pos := "law.go:57", after := #[{ on := 5, ground := Ground.data }, { on := 4, ground := Ground.chain }, { on := 4, ground := Ground.guard }], guard := some (4, true) }) rfl (fun K hK => ?_) AllReadyH.nil
  go_simp
  (go_at_call 16; refine (ce _ (kk _ _ hG b)).mono ?_; clear ce; rintro e w11 ⟨v11, rfl, hn11, hb11⟩; (have t11 := Str.of (NewC.bytes hn11 (by decide)) (encB_lt _)); (obtain ⟨x11, n11, k11, rfl⟩ := t11.form); clear hn11)
  (try go_simp)
  refine hK.out _ _ hb11 (fun h => ?_)
  clear h hK K
  refine wpAnyH_narrow (S' := fun w' => Below w11.heap.size w11 w') (fun _ h => below_next hb11 h) _ _ _ _ ?_
  clear h9
  replace h10 := h10.still hb11
  replace le := le.still hb11
  replace b := below_next b hb11
  clear hb11
  (try simp only [Act.put, List.setIfInBounds_toArray, List.set_cons_zero, List.set_cons_succ])
  refine wpAnyH_take (i := 7) (oi := { dst := some 57, op := Op.convert 22 9 (Operand.tmp 56), type := 9, pos := "law.go:57", after := #[{ on := 6, ground := Ground.data }, { on := 4, ground := Ground.guard }], guard := some (4, true) }) (v := ?vb7) rfl (by kernel_rfl) (by kernel_rfl) (by kernel_rfl) (fun _ _ _ h => h) (Or.inl ⟨by rfl, ?hb7⟩) (Below.refl _ _) ?rb7
  case hb7 =>
    intro w hSw
    have q := t11.conv w hSw
    go_simp
    try with_reducible rfl
  (try simp only [Act.put, List.setIfInBounds_toArray, List.set_cons_zero, List.set_cons_succ])
  refine wpAnyH_ready (rs := [9]) (by kernel_rfl) (by simp) ?_
  refine AllReadyH.cons (o := { dst := some 59, op := Op.call { callee := Callee.value (Operand.func 17), args := #[Operand.tmp 58], argTypes := #[38] }, type := 22, pos := "law.go:57", after := #[{ on := 8, ground := Ground.data }, { on := 6, ground := Ground.chain }, { on := 4, ground := Ground.guard }], guard := some (4, true) }) rfl (fun K hK => ?_) AllReadyH.nil
  go_simp
  (go_at_call 17; refine (cf _).mono ?_; clear cf; rintro e w12 ⟨v12, rfl, hn12, hb12⟩; (have t12 := Str.of (NewC.bytes hn12 (by decide)) (encB_lt _)); (obtain ⟨x12, n12, k12, rfl⟩ := t12.form); clear hn12)
  (try go_simp)
  refine hK.out _ _ hb12 (fun h => ?_)
  clear h hK K
  refine wpAnyH_narrow (S' := fun w' => Below w12.heap.size w12 w') (fun _ h => below_next hb12 h) _ _ _ _ ?_
  clear h10
  replace le := le.still hb12
  replace t11 := t11.still hb12
  replace b := below_next b hb12
  clear hb12
  (try simp only [Act.put, List.setIfInBounds_toArray, List.set_cons_zero, List.set_cons_succ])
  refine wpAnyH_take (i := 10) (oi := { dst := some 60, op := Op.convert 22 9 (Operand.tmp 59), type := 9, pos := "law.go:57", after := #[{ on := 9, ground := Ground.data }, { on := 4, ground := Ground.guard }], guard := some (4, true) }) (v := ?vb10) rfl (by kernel_rfl) (by kernel_rfl) (by kernel_rfl) (fun _ _ _ h => h) (Or.inl ⟨by rfl, ?hb10⟩) (Below.refl _ _) ?rb10
  case hb10 =>
    intro w hSw
    have q := t12.conv w hSw
    go_simp
    try with_reducible rfl
  (try simp only [Act.put, List.setIfInBounds_toArray, List.set_cons_zero, List.set_cons_succ])
  refine wpAnyH_take (i := 11) (oi := { dst := some 61, op := Op.binOp BinOp.eql 9 (Operand.tmp 57) (Operand.tmp 60) 9, type := 4, pos := "law.go:57", after := #[{ on := 7, ground := Ground.data }, { on := 10, ground := Ground.data }, { on := 4, ground := Ground.guard }], guard := some (4, true) }) (v := ?vb11) rfl (by kernel_rfl) (by kernel_rfl) (by kernel_rfl) (fun _ _ _ h => h) (Or.inl ⟨by rfl, ?hb11⟩) (Below.refl _ _) ?rb11
  case hb11 =>
    intro w hSw
    go_simp
    try with_reducible rfl
  (try simp only [Act.put, List.setIfInBounds_toArray, List.set_cons_zero, List.set_cons_succ])
  refine wpAnyH_take (i := 12) (oi := { dst := some 62, op := Op.pick (Operand.tmp 54) (Operand.tmp 61) (Operand.const (Value.bool false)), type := 4, pos := "law.go:57", after := #[{ on := 4, ground := Ground.data }, { on := 11, ground := Ground.data }], guard := none }) (v := ?vb12) rfl (by kernel_rfl) (by kernel_rfl) (by kernel_rfl) (fun _ _ _ h => h) (Or.inl ⟨by rfl, ?hb12⟩) (Below.refl _ _) ?rb12
  case hb12 =>
    intro w hSw
    go_simp
    try with_reducible rfl
  (try simp only [Act.put, List.setIfInBounds_toArray, List.set_cons_zero, List.set_cons_succ])
  refine wpAnyH_take (i := 13) (oi := { dst := some 63, op := Op.move (Operand.tmp 62), type := 4, pos := "law.go:57", after := #[{ on := 12, ground := Ground.data }, { on := 9, ground := Ground.chain }], guard := none }) (v := ?vb13) rfl (by kernel_rfl) (by kernel_rfl) (by kernel_rfl) (fun _ _ _ h => h) (Or.inl ⟨by rfl, ?hb13⟩) (Below.refl _ _) ?rb13
  case hb13 =>
    intro w hSw
    go_simp
    try with_reducible rfl
  (try simp only [Act.put, List.setIfInBounds_toArray, List.set_cons_zero, List.set_cons_succ])
  refine wpAnyH_take (i := 14) (oi := { dst := some 64, op := Op.move (Operand.tmp 9), type := 22, pos := "law.go:57", after := #[{ on := 13, ground := Ground.guard }], guard := some (13, true) }) (v := ?vb14) rfl (by kernel_rfl) (by kernel_rfl) (by kernel_rfl) (fun _ _ _ h => h) (Or.inl ⟨by rfl, ?hb14⟩) (Below.refl _ _) ?rb14
  case hb14 =>
    intro w hSw
    go_simp
    try with_reducible rfl
  (try simp only [Act.put, List.setIfInBounds_toArray, List.set_cons_zero, List.set_cons_succ])
  refine wpAnyH_take (i := 15) (oi := { dst := some 65, op := Op.move (Operand.tmp 1), type := 22, pos := "law.go:57", after := #[{ on := 13, ground := Ground.guard }], guard := some (13, true) }) (v := ?vb15) rfl (by kernel_rfl) (by kernel_rfl) (by kernel_rfl) (fun _ _ _ h => h) (Or.inl ⟨by rfl, ?hb15⟩) (Below.refl _ _) ?rb15
  case hb15 =>
    intro w hSw
    go_simp
    try with_reducible rfl
  (try simp only [Act.put, List.setIfInBounds_toArray, List.set_cons_zero, List.set_cons_succ])
  refine wpAnyH_ready (rs := [16]) (by kernel_rfl) (by simp) ?_
  refine AllReadyH.cons (o := { dst := some 66, op := Op.call { callee := Callee.value (Operand.func 12), args := #[Operand.tmp 64, Operand.tmp 65], argTypes := #[22, 22] }, type := 4, pos := "law.go:57", after := #[{ on := 14, ground := Ground.data }, { on := 15, ground := Ground.data }, { on := 13, ground := Ground.chain }, { on := 13, ground := Ground.guard }], guard := some (13, true) }) rfl (fun K hK => ?_) AllReadyH.nil
  go_simp
  (go_at_call 12; refine (cs g8 cap8 _ hcap8 le.row (hu.still b)).mono ?_; clear cs; rintro e w13 ⟨rfl, hb13⟩)
  (try go_simp)
  refine hK.out _ _ hb13 (fun h => ?_)
  clear h hK K
  refine wpAnyH_narrow (S' := fun w' => Below w13.heap.size w13 w') (fun _ h => below_next hb13 h) _ _ _ _ ?_
  clear le
  replace t11 := t11.still hb13
  replace t12 := t12.still hb13
  replace b := below_next b hb13
  clear hb13
  (try simp only [Act.put, List.setIfInBounds_toArray, List.set_cons_zero, List.set_cons_succ])
  refine wpAnyH_take (i := 17) (oi := { dst := some 67, op := Op.pick (Operand.tmp 63) (Operand.tmp 66) (Operand.const (Value.bool false)), type := 4, pos := "law.go:57", after := #[{ on := 13, ground := Ground.data }, { on := 16, ground := Ground.data }], guard := none }) (v := ?vb17) rfl (by kernel_rfl) (by kernel_rfl) (by kernel_rfl) (fun _ _ _ h => h) (Or.inl ⟨by rfl, ?hb17⟩) (Below.refl _ _) ?rb17
  case hb17 =>
    intro w hSw
    go_simp
    try with_reducible rfl
  (try simp only [Act.put, List.setIfInBounds_toArray, List.set_cons_zero, List.set_cons_succ])
  refine wpAnyH_take (i := 18) (oi := { dst := some 4, op := Op.assign (Operand.tmp 67), type := 4, pos := "law.go:57", after := #[{ on := 17, ground := Ground.data }, { on := 16, ground := Ground.chain }, { on := 0, ground := Ground.phase }, { on := 1, ground := Ground.phase }, { on := 2, ground := Ground.phase }, { on := 3, ground := Ground.phase }, { on := 4, ground := Ground.phase }, { on := 5, ground := Ground.phase }, { on := 6, ground := Ground.phase }, { on := 7, ground := Ground.phase }, { on := 8, ground := Ground.phase }, { on := 9, ground := Ground.phase }, { on := 10, ground := Ground.phase }, { on := 11, ground := Ground.phase }, { on := 12, ground := Ground.phase }, { on := 13, ground := Ground.phase }, { on := 14, ground := Ground.phase }, { on := 15, ground := Ground.phase }, { on := 16, ground := Ground.phase }, { on := 17, ground := Ground.phase }], guard := none }) (v := ?vb18) rfl (by kernel_rfl) (by kernel_rfl) (by kernel_rfl) (fun _ _ _ h => h) (Or.inl ⟨by rfl, ?hb18⟩) (Below.refl _ _) ?rb18
  case hb18 =>
    intro w hSw
    go_simp
    try with_reducible rfl
  (try simp only [Act.put, List.setIfInBounds_toArray, List.set_cons_zero, List.set_cons_succ])
  refine wpAnyH_done (by kernel_rfl) ?_ _
  refine NoPanic.normal ?_
  go_wp2
  go_ret
  exact ⟨rfl, b⟩
theorem ptimes6 {G : World → Prop} {R : List Value → Fp × Fp → Prop} (api : PointApi G R) (v u : Value) (n m : Nat) (bs ks : Nat → Nat) (hbs : ∀ j, bs j < 256) (hks : ∀ j, ks j < 256) (hm : m < 140737488355000) (w : World) (hv : BytesIn w v n bs) (hu : BytesIn w u m ks) (hG : G w) :
    Calls Tryd.prog 4 #[v, u] w fun e w' => e = .returned (.bool true) ∧ Below w.heap.size w w' := by
  by_cases h : decE n bs = 0
  · exact ptimes_good api v u n m bs ks hbs hks hm w hv hu hG h
  · exact ptimes_bad api v u n m bs ks hbs hks hm w hv hu hG h
end Go.Proofs.YteekjcfbnoakgaaDoor
