/- What the proof stands on: PDec, PGroup, SLoad, SMath, STake, SGuess, SRestM, SRest. -/
import Derived.Test.YteekjcfbnoakgaaDoorBaseM
import Derived.Test.YteekjcfbnoakgaaDoorRQM
import Derived.Test.YteekjcfbnoakgaaDoorSqMathM
import Derived.WalkMore
namespace Go.Proofs.YteekjcfbnoakgaaDoor
open Go.RowKit
/-- Lent bytes. -/
structure LentAt (w : World) (g n : Nat) (bs : Nat → Nat) : Prop where
  row : RowAt .u8 w g 0 (n + 2) (cat n bs room)
theorem LentAt.still {w w' : World} {g n : Nat} {bs : Nat → Nat} (h : LentAt w g n bs) (hb : Below w.heap.size w w') : LentAt w' g n bs := ⟨h.row.below hb (block_lt_of_cell (h.row 0 (by omega)).1)⟩
end Go.Proofs.YteekjcfbnoakgaaDoor
namespace Go.Proofs.YteekjcfbnoakgaaDoor
open Go.RowKit
/-- What PointGroup needs of scalar. -/
structure ScalApi (G : World → Prop) : Prop where
  mul : ∀ va vb vc ds bs cs w, (∀ j, ds j < 256) → (∀ j, bs j < 256) → (∀ j, cs j < 256) → G w → BytesIn w va 32 ds → BytesIn w vb 32 bs → BytesIn w vc 32 cs → Calls Tryd.prog 30 #[va, vb, vc] w fun e w' => ∃ s, e = .returned (.tuple #[s, .int .i64 0]) ∧ NewB w w' s 32 (byt ((ofB cs 32 + ofB ds 32 * ofB bs 32) % ordN)) ∧ Below w.heap.size w w'
  neg : ∀ v bs w, (∀ j, bs j < 256) → G w → BytesIn w v 32 bs → Calls Tryd.prog 31 #[v] w fun e w' => ∃ s, e = .returned (.tuple #[s, .int .i64 0]) ∧ NewB w w' s 32 (byt ((ordN - ofB bs 32 % ordN) % ordN)) ∧ Below w.heap.size w w'
theorem fit_byt {x : Nat} (h : x < ordN) : ofB (fitB 32 (byt x)) 32 = x := by
  rw [ofB_congr (b := byt x) 32 (fun j hj => by unfold fitB; rw [if_pos hj]), ofB_byt, Nat.mod_eq_of_lt (Nat.lt_trans h (by decide))]
def oneB : Nat → Nat := upd (fun _ => 0) 0 1
theorem oneB_val : ofB oneB 32 = 1 := by decide
theorem oneB_lt (j : Nat) : oneB j < 256 := by unfold oneB upd; dsimp only; split <;> decide
theorem sum_base (a b : Nat) : emul dE ((b + a * 1) % ordN) baseP = eadd dE (emul dE a baseP) (emul dE b baseP) := by
  rw [Nat.mul_one, Nat.add_comm]
  exact (base_mod _).trans (emul_add ns_dE base_on a b)
theorem neg_one : (ordN - 1 % ordN) % ordN = 7237005577332262213973186563042994240857116359379907606001950938285454250988 := by decide
theorem neg_gen {l : Nat} (h : l + 1 = ordN) : eadd dE (emul dE l baseP) baseP = ezero := by
  have e := base_ord
  rw [← h] at e
  exact e
theorem neg_base : eadd dE (emul dE 7237005577332262213973186563042994240857116359379907606001950938285454250988 baseP) baseP = ezero := neg_gen (by decide)
set_option maxRecDepth 20000 in
set_option maxHeartbeats 16000000 in
theorem pgroup6 {G : World → Prop} {R : List Value → Fp × Fp → Prop} (api : PointApi G R) (sc : ScalApi G) (v u x : Value) (n m k : Nat) (bs ks xs : Nat → Nat) (hbs : ∀ j, bs j < 256) (hks : ∀ j, ks j < 256) (hxs : ∀ j, xs j < 256) (w : World) (hv : BytesIn w v n bs) (hu : BytesIn w u m ks) (hx : BytesIn w x k xs) (hG : G w) :
    Calls Tryd.prog 6 #[v, u, x] w fun e w' => e = .returned (.bool true) ∧ Below w.heap.size w w' := by
  have hz := zeroP
  have kl := api.len
  have ko := api.one
  have kk := api.keep
  have cs1 := some6 api v n bs hbs w hv hG
  have cs2 := fun w hu hG => some6 api u m ks hks w hu hG
  have cs3 := fun w hx hG => some6 api x k xs hxs w hx hG
  have cso := fun s w hs hG => some6 api s 32 (byt ((ofB (fitB m ks) 32 + ofB (fitB n bs) 32 * 1) % ordN)) (byt_all _) w hs hG
  have f1 := fun w hv => fit_any v n bs w hv
  have f2 := fun w hu => fit_any u m ks w hu
  have cMA := fun g s t w hG hs hg ht => sc.mul s (.slice (some ⟨g, 0, none⟩) 32 32) t (fitB n bs) oneB (fitB m ks) w (fitB_lt hbs) oneB_lt (fitB_lt hks) hG hs hg ht
  have cNe := fun g w hG hg => sc.neg (.slice (some ⟨g, 0, none⟩) 32 32) oneB w oneB_lt hG hg
  have cTi := fun c s w (hc : R c baseP) hG hs => api.times c baseP s (byt 7237005577332262213973186563042994240857116359379907606001950938285454250988) w hc (byt_all _) hs hG
  rw [oneB_val] at cMA cNe
  rw [neg_one] at cNe
  rw [ofB_byt32 _ (by decide)] at cTi
  rw [fit_byt (Nat.mod_lt _ (by decide)), sum_base] at cso
  have ck := fun w hG => knows6 api w hG
  have cP := api.plus
  have cN := api.neg
  have cZ := api.zero
  have cB := api.base
  have cS : ∀ c P d Q w, R c P → R d Q → G w → P = Q → Calls Tryd.prog 14 #[.agg c.toArray, .agg d.toArray] w fun e w' => e = .returned (.bool true) ∧ Below w.heap.size w w' := fun c P d Q w hc hd hG e => by
    have := api.same c P d Q w hc hd hG
    rwa [decide_eq_true e] at this
  have o1 : On dE (emul dE (ofB (fitB n bs) 32) baseP) := emul_on ns_dE base_on _
  have o2 : On dE (emul dE (ofB (fitB m ks) 32) baseP) := emul_on ns_dE base_on _
  have o3 : On dE (emul dE (ofB (fitB k xs) 32) baseP) := emul_on ns_dE base_on _
  have q6 := Hid.mk' neg_base
  generalize emul dE 7237005577332262213973186563042994240857116359379907606001950938285454250988 baseP = Pm at *
  generalize emul dE (ofB (fitB n bs) 32) baseP = P at *
  generalize emul dE (ofB (fitB m ks) 32) baseP = Q at *
  generalize emul dE (ofB (fitB k xs) 32) baseP = S at *
  have q1 := Hid.mk' (eadd_comm dE P Q)
  have q2 := Hid.mk' (eadd_assoc ns_dE o1 o2 o3)
  have q3 := Hid.mk' (eadd_zero dE P)
  have q4 := Hid.mk' ((eadd_comm dE P (eneg P)).trans (eneg_add ns_dE o1))
  generalize baseP = pb at *
  generalize byt 7237005577332262213973186563042994240857116359379907606001950938285454250988 = bm at *
  generalize byt ((ofB (fitB m ks) 32 + ofB (fitB n bs) 32 * 1) % ordN) = bq at *
  generalize fitB n bs = fb at *
  generalize fitB m ks = fk at *
  clear api sc o1 o2 o3
  go_enter Tryd.func6, Tryd.ntmps6
  go_upto_region 4 with (first
    | (go_at_call 22; refine cs1.mono ?_; clear cs1; rintro e w1 ⟨c1, rfl, hc1, b⟩; (have l1 := kl _ _ hc1); (have o1 := ko _ _ hc1); (obtain ⟨V1, hV1, h1, b1, t1⟩ := boxP w1 c1 l1); (have H1 := Hid.mk' hV1); clear hV1; (replace b := below_next b b1); clear b1; (have cu2 := cs2 V1 (hu.still b) (kk _ _ hG b)); clear cs2)
    | (with_reducible (refine id (?_ : wpList _ _ _ _ _ _)); refine wpList_store_mid rfl 30 _ _ rfl w1.heap.size 0 c1.toArray rfl rfl t1 (infoPA l1) o1 ?_; rw [List.toList_toArray, ← H1.out]; clear t1 H1)
    | (go_at_call 22; refine cu2.mono ?_; clear cu2; rintro e w2 ⟨c2, rfl, hc2, hb2⟩; (replace h1 := h1.still hb2); (replace b := below_next b hb2); clear hb2; (have l2 := kl _ _ hc2); (have o2 := ko _ _ hc2); (obtain ⟨V2, hV2, h2, b2, t2⟩ := boxP w2 c2 l2); (have H2 := Hid.mk' hV2); clear hV2; (replace h1 := h1.still b2); (replace b := below_next b b2); clear b2; (have cu3 := cs3 V2 (hx.still b) (kk _ _ hG b)); clear cs3)
    | (with_reducible (refine id (?_ : wpList _ _ _ _ _ _)); refine wpList_store_mid rfl 30 _ _ rfl w2.heap.size 0 c2.toArray rfl rfl t2 (infoPA l2) o2 ?_; rw [List.toList_toArray, ← H2.out]; clear t2 H2)
    | (go_at_call 22; refine cu3.mono ?_; clear cu3; rintro e w3 ⟨c3, rfl, hc3, hb3⟩; (replace h1 := h1.still hb3); (replace h2 := h2.still hb3); (replace b := below_next b hb3); clear hb3; (have l3 := kl _ _ hc3); (have o3 := ko _ _ hc3); (obtain ⟨V3, hV3, h3, b3, t3⟩ := boxP w3 c3 l3); (have H3 := Hid.mk' hV3); clear hV3; (replace h1 := h1.still b3); (replace h2 := h2.still b3); (replace b := below_next b b3); clear b3)
    | (with_reducible (refine id (?_ : wpList _ _ _ _ _ _)); refine wpList_store_mid rfl 30 _ _ rfl w3.heap.size 0 c3.toArray rfl rfl t3 (infoPA l3) o3 ?_; rw [List.toList_toArray, ← H3.out]; clear t3 H3))
  have hdrew : Below V3.heap.size V3 V3.drew := (Below.refl _ _).drew
  replace h1 := h1.still hdrew
  replace h2 := h2.still hdrew
  replace h3 := h3.still hdrew
  replace b := below_next b hdrew
  clear hdrew
  refine wp_region_noPanic ?_
  refine wp_region_held_drew (S := fun w' => Below V3.drew.heap.size V3.drew w') (by kernel_rfl) (Below.refl _ _) (fun hHeld => ?_)
  clear hHeld
  refine wpAnyH_take (i := 0) (oi := { dst := some 23, op := Op.load 30 (Operand.tmp 7), type := 30, pos := "law.go:74", after := #[], guard := none }) (v := .agg c1.toArray) rfl (by kernel_rfl) (by kernel_rfl) (by kernel_rfl) (fun _ _ _ h => h) (yieldsIf_load_mid (by rfl) 30 _ rfl w1.heap.size 0 rfl (c1) _ (fun _ h => (h1.still h).range) Tryd.underlying30 rfl (infoP l1)) (Below.refl _ _) ?_
  (try simp only [Act.put, List.setIfInBounds_toArray, List.set_cons_zero, List.set_cons_succ])
  refine wpAnyH_take (i := 1) (oi := { dst := some 24, op := Op.load 30 (Operand.tmp 8), type := 30, pos := "law.go:74", after := #[], guard := none }) (v := .agg c2.toArray) rfl (by kernel_rfl) (by kernel_rfl) (by kernel_rfl) (fun _ _ _ h => h) (yieldsIf_load_mid (by rfl) 30 _ rfl w2.heap.size 0 rfl (c2) _ (fun _ h => (h2.still h).range) Tryd.underlying30 rfl (infoP l2)) (Below.refl _ _) ?_
  (try simp only [Act.put, List.setIfInBounds_toArray, List.set_cons_zero, List.set_cons_succ])
  refine wpAnyH_take (i := 3) (oi := { dst := some 26, op := Op.load 30 (Operand.tmp 8), type := 30, pos := "law.go:74", after := #[], guard := none }) (v := .agg c2.toArray) rfl (by kernel_rfl) (by kernel_rfl) (by kernel_rfl) (fun _ _ _ h => h) (yieldsIf_load_mid (by rfl) 30 _ rfl w2.heap.size 0 rfl (c2) _ (fun _ h => (h2.still h).range) Tryd.underlying30 rfl (infoP l2)) (Below.refl _ _) ?_
  (try simp only [Act.put, List.setIfInBounds_toArray, List.set_cons_zero, List.set_cons_succ])
  refine wpAnyH_take (i := 4) (oi := { dst := some 27, op := Op.load 30 (Operand.tmp 7), type := 30, pos := "law.go:74", after := #[], guard := none }) (v := .agg c1.toArray) rfl (by kernel_rfl) (by kernel_rfl) (by kernel_rfl) (fun _ _ _ h => h) (yieldsIf_load_mid (by rfl) 30 _ rfl w1.heap.size 0 rfl (c1) _ (fun _ h => (h1.still h).range) Tryd.underlying30 rfl (infoP l1)) (Below.refl _ _) ?_
  (try simp only [Act.put, List.setIfInBounds_toArray, List.set_cons_zero, List.set_cons_succ])
  refine wpAnyH_ready (rs := [2]) (by kernel_rfl) (by simp) ?_
  refine AllReadyH.cons (o := { dst := some 25, op := Op.call { callee := Callee.value (Operand.func 24), args := #[Operand.tmp 23, Operand.tmp 24], argTypes := #[30, 30] }, type := 30, pos := "law.go:74", after := #[{ on := 0, ground := Ground.data }, { on := 1, ground := Ground.data }], guard := none }) rfl (fun K hK => ?_) AllReadyH.nil
  go_simp
  (go_at_call 24; refine (cP _ _ _ _ _ hc1 hc2 (kk _ _ hG b)).mono ?_; rintro e w25 ⟨c25, rfl, hc25, hb25⟩)
  (try go_simp)
  refine hK.out _ _ hb25 (fun h => ?_)
  clear h hK K
  refine wpAnyH_narrow (S' := fun w' => Below w25.heap.size w25 w') (fun _ h => below_next hb25 h) _ _ _ _ ?_
  replace h1 := h1.still hb25
  replace h2 := h2.still hb25
  replace h3 := h3.still hb25
  replace b := below_next b hb25
  clear hb25
  (try simp only [Act.put, List.setIfInBounds_toArray, List.set_cons_zero, List.set_cons_succ])
  refine wpAnyH_ready (rs := [5]) (by kernel_rfl) (by simp) ?_
  refine AllReadyH.cons (o := { dst := some 28, op := Op.call { callee := Callee.value (Operand.func 24), args := #[Operand.tmp 26, Operand.tmp 27], argTypes := #[30, 30] }, type := 30, pos := "law.go:74", after := #[{ on := 3, ground := Ground.data }, { on := 4, ground := Ground.data }, { on := 2, ground := Ground.chain }], guard := none }) rfl (fun K hK => ?_) AllReadyH.nil
  go_simp
  (go_at_call 24; refine (cP _ _ _ _ _ hc2 hc1 (kk _ _ hG b)).mono ?_; rintro e w28 ⟨c28, rfl, hc28, hb28⟩)
  (try go_simp)
  refine hK.out _ _ hb28 (fun h => ?_)
  clear h hK K
  refine wpAnyH_narrow (S' := fun w' => Below w28.heap.size w28 w') (fun _ h => below_next hb28 h) _ _ _ _ ?_
  replace h1 := h1.still hb28
  replace h2 := h2.still hb28
  replace h3 := h3.still hb28
  replace b := below_next b hb28
  clear hb28
  (try simp only [Act.put, List.setIfInBounds_toArray, List.set_cons_zero, List.set_cons_succ])
  refine wpAnyH_ready (rs := [6]) (by kernel_rfl) (by simp) ?_
  refine AllReadyH.cons (o := { dst := some 29, op := Op.call { callee := Callee.value (Operand.func 14), args := #[Operand.tmp 25, Operand.tmp 28], argTypes := #[30, 30] }, type := 4, pos := "law.go:74", after := #[{ on := 2, ground := Ground.data }, { on := 5, ground := Ground.data }, { on := 5, ground := Ground.chain }], guard := none }) rfl (fun K hK => ?_) AllReadyH.nil
  go_simp
  (go_at_call 14; refine (cS _ _ _ _ _ hc25 hc28 (kk _ _ hG b) q1.out).mono ?_; rintro e w29 ⟨rfl, hb29⟩)
  (try go_simp)
  refine hK.out _ _ hb29 (fun h => ?_)
  clear h hK K
  refine wpAnyH_narrow (S' := fun w' => Below w29.heap.size w29 w') (fun _ h => below_next hb29 h) _ _ _ _ ?_
  replace h1 := h1.still hb29
  replace h2 := h2.still hb29
  replace h3 := h3.still hb29
  replace b := below_next b hb29
  clear hb29
  (try simp only [Act.put, List.setIfInBounds_toArray, List.set_cons_zero, List.set_cons_succ])
  refine wpAnyH_take (i := 7) (oi := { dst := some 30, op := Op.unOp UnOp.not 4 (Operand.tmp 29), type := 4, pos := "law.go:74", after := #[{ on := 6, ground := Ground.data }], guard := none }) (v := ?va7) rfl (by kernel_rfl) (by kernel_rfl) (by kernel_rfl) (fun _ _ _ h => h) (Or.inl ⟨by rfl, ?ha7⟩) (Below.refl _ _) ?ra7
  case ha7 =>
    intro w hSw
    go_simp
    try with_reducible rfl
  (try simp only [Act.put, List.setIfInBounds_toArray, List.set_cons_zero, List.set_cons_succ])
  refine wpAnyH_take (i := 8) (oi := { dst := some 31, op := Op.move (Operand.tmp 30), type := 4, pos := "law.go:74", after := #[{ on := 7, ground := Ground.data }, { on := 6, ground := Ground.chain }], guard := none }) (v := ?va8) rfl (by kernel_rfl) (by kernel_rfl) (by kernel_rfl) (fun _ _ _ h => h) (Or.inl ⟨by rfl, ?ha8⟩) (Below.refl _ _) ?ra8
  case ha8 =>
    intro w hSw
    go_simp
    try with_reducible rfl
  (try simp only [Act.put, List.setIfInBounds_toArray, List.set_cons_zero, List.set_cons_succ])
  refine wpAnyH_take (i := 9) (oi := { dst := some 32, op := Op.load 30 (Operand.tmp 7), type := 30, pos := "law.go:74", after := #[{ on := 8, ground := Ground.guard }], guard := some (8, false) }) (v := .agg c1.toArray) rfl (by kernel_rfl) (by kernel_rfl) (by kernel_rfl) (fun _ _ _ h => h) (yieldsIf_load_mid (by rfl) 30 _ rfl w1.heap.size 0 rfl (c1) _ (fun _ h => (h1.still h).range) Tryd.underlying30 rfl (infoP l1)) (Below.refl _ _) ?_
  (try simp only [Act.put, List.setIfInBounds_toArray, List.set_cons_zero, List.set_cons_succ])
  refine wpAnyH_take (i := 10) (oi := { dst := some 33, op := Op.load 30 (Operand.tmp 8), type := 30, pos := "law.go:74", after := #[{ on := 8, ground := Ground.guard }], guard := some (8, false) }) (v := .agg c2.toArray) rfl (by kernel_rfl) (by kernel_rfl) (by kernel_rfl) (fun _ _ _ h => h) (yieldsIf_load_mid (by rfl) 30 _ rfl w2.heap.size 0 rfl (c2) _ (fun _ h => (h2.still h).range) Tryd.underlying30 rfl (infoP l2)) (Below.refl _ _) ?_
  (try simp only [Act.put, List.setIfInBounds_toArray, List.set_cons_zero, List.set_cons_succ])
  refine wpAnyH_take (i := 12) (oi := { dst := some 35, op := Op.load 30 (Operand.tmp 9), type := 30, pos := "law.go:74", after := #[{ on := 8, ground := Ground.guard }], guard := some (8, false) }) (v := .agg c3.toArray) rfl (by kernel_rfl) (by kernel_rfl) (by kernel_rfl) (fun _ _ _ h => h) (yieldsIf_load_mid (by rfl) 30 _ rfl w3.heap.size 0 rfl (c3) _ (fun _ h => (h3.still h).range) Tryd.underlying30 rfl (infoP l3)) (Below.refl _ _) ?_
  (try simp only [Act.put, List.setIfInBounds_toArray, List.set_cons_zero, List.set_cons_succ])
  refine wpAnyH_take (i := 14) (oi := { dst := some 37, op := Op.load 30 (Operand.tmp 7), type := 30, pos := "law.go:74", after := #[{ on := 8, ground := Ground.guard }], guard := some (8, false) }) (v := .agg c1.toArray) rfl (by kernel_rfl) (by kernel_rfl) (by kernel_rfl) (fun _ _ _ h => h) (yieldsIf_load_mid (by rfl) 30 _ rfl w1.heap.size 0 rfl (c1) _ (fun _ h => (h1.still h).range) Tryd.underlying30 rfl (infoP l1)) (Below.refl _ _) ?_
  (try simp only [Act.put, List.setIfInBounds_toArray, List.set_cons_zero, List.set_cons_succ])
  refine wpAnyH_take (i := 15) (oi := { dst := some 38, op := Op.load 30 (Operand.tmp 8), type := 30, pos := "law.go:74", after := #[{ on := 8, ground := Ground.guard }], guard := some (8, false) }) (v := .agg c2.toArray) rfl (by kernel_rfl) (by kernel_rfl) (by kernel_rfl) (fun _ _ _ h => h) (yieldsIf_load_mid (by rfl) 30 _ rfl w2.heap.size 0 rfl (c2) _ (fun _ h => (h2.still h).range) Tryd.underlying30 rfl (infoP l2)) (Below.refl _ _) ?_
  (try simp only [Act.put, List.setIfInBounds_toArray, List.set_cons_zero, List.set_cons_succ])
  refine wpAnyH_take (i := 16) (oi := { dst := some 39, op := Op.load 30 (Operand.tmp 9), type := 30, pos := "law.go:74", after := #[{ on := 8, ground := Ground.guard }], guard := some (8, false) }) (v := .agg c3.toArray) rfl (by kernel_rfl) (by kernel_rfl) (by kernel_rfl) (fun _ _ _ h => h) (yieldsIf_load_mid (by rfl) 30 _ rfl w3.heap.size 0 rfl (c3) _ (fun _ h => (h3.still h).range) Tryd.underlying30 rfl (infoP l3)) (Below.refl _ _) ?_
  (try simp only [Act.put, List.setIfInBounds_toArray, List.set_cons_zero, List.set_cons_succ])
  refine wpAnyH_ready (rs := [11]) (by kernel_rfl) (by simp) ?_
  refine AllReadyH.cons (o := { dst := some 34, op := Op.call { callee := Callee.value (Operand.func 24), args := #[Operand.tmp 32, Operand.tmp 33], argTypes := #[30, 30] }, type := 30, pos := "law.go:74", after := #[{ on := 9, ground := Ground.data }, { on := 10, ground := Ground.data }, { on := 8, ground := Ground.chain }, { on := 8, ground := Ground.guard }], guard := some (8, false) }) rfl (fun K hK => ?_) AllReadyH.nil
  go_simp
  (go_at_call 24; refine (cP _ _ _ _ _ hc1 hc2 (kk _ _ hG b)).mono ?_; rintro e w34 ⟨c34, rfl, hc34, hb34⟩)
  (try go_simp)
  refine hK.out _ _ hb34 (fun h => ?_)
  clear h hK K
  refine wpAnyH_narrow (S' := fun w' => Below w34.heap.size w34 w') (fun _ h => below_next hb34 h) _ _ _ _ ?_
  replace h1 := h1.still hb34
  replace h2 := h2.still hb34
  replace h3 := h3.still hb34
  replace b := below_next b hb34
  clear hb34
  (try simp only [Act.put, List.setIfInBounds_toArray, List.set_cons_zero, List.set_cons_succ])
  refine wpAnyH_ready (rs := [13]) (by kernel_rfl) (by simp) ?_
  refine AllReadyH.cons (o := { dst := some 36, op := Op.call { callee := Callee.value (Operand.func 24), args := #[Operand.tmp 34, Operand.tmp 35], argTypes := #[30, 30] }, type := 30, pos := "law.go:74", after := #[{ on := 11, ground := Ground.data }, { on := 12, ground := Ground.data }, { on := 11, ground := Ground.chain }, { on := 8, ground := Ground.guard }], guard := some (8, false) }) rfl (fun K hK => ?_) AllReadyH.nil
  go_simp
  (go_at_call 24; refine (cP _ _ _ _ _ hc34 hc3 (kk _ _ hG b)).mono ?_; rintro e w36 ⟨c36, rfl, hc36, hb36⟩)
  (try go_simp)
  refine hK.out _ _ hb36 (fun h => ?_)
  clear h hK K
  refine wpAnyH_narrow (S' := fun w' => Below w36.heap.size w36 w') (fun _ h => below_next hb36 h) _ _ _ _ ?_
  replace h1 := h1.still hb36
  replace h2 := h2.still hb36
  replace h3 := h3.still hb36
  replace b := below_next b hb36
  clear hb36
  (try simp only [Act.put, List.setIfInBounds_toArray, List.set_cons_zero, List.set_cons_succ])
  refine wpAnyH_ready (rs := [17]) (by kernel_rfl) (by simp) ?_
  refine AllReadyH.cons (o := { dst := some 40, op := Op.call { callee := Callee.value (Operand.func 24), args := #[Operand.tmp 38, Operand.tmp 39], argTypes := #[30, 30] }, type := 30, pos := "law.go:74", after := #[{ on := 15, ground := Ground.data }, { on := 16, ground := Ground.data }, { on := 13, ground := Ground.chain }, { on := 8, ground := Ground.guard }], guard := some (8, false) }) rfl (fun K hK => ?_) AllReadyH.nil
  go_simp
  (go_at_call 24; refine (cP _ _ _ _ _ hc2 hc3 (kk _ _ hG b)).mono ?_; rintro e w40 ⟨c40, rfl, hc40, hb40⟩)
  (try go_simp)
  refine hK.out _ _ hb40 (fun h => ?_)
  clear h hK K
  refine wpAnyH_narrow (S' := fun w' => Below w40.heap.size w40 w') (fun _ h => below_next hb40 h) _ _ _ _ ?_
  replace h1 := h1.still hb40
  replace h2 := h2.still hb40
  replace h3 := h3.still hb40
  replace b := below_next b hb40
  clear hb40
  (try simp only [Act.put, List.setIfInBounds_toArray, List.set_cons_zero, List.set_cons_succ])
  refine wpAnyH_ready (rs := [18]) (by kernel_rfl) (by simp) ?_
  refine AllReadyH.cons (o := { dst := some 41, op := Op.call { callee := Callee.value (Operand.func 24), args := #[Operand.tmp 37, Operand.tmp 40], argTypes := #[30, 30] }, type := 30, pos := "law.go:74", after := #[{ on := 14, ground := Ground.data }, { on := 17, ground := Ground.data }, { on := 17, ground := Ground.chain }, { on := 8, ground := Ground.guard }], guard := some (8, false) }) rfl (fun K hK => ?_) AllReadyH.nil
  go_simp
  (go_at_call 24; refine (cP _ _ _ _ _ hc1 hc40 (kk _ _ hG b)).mono ?_; rintro e w41 ⟨c41, rfl, hc41, hb41⟩)
  (try go_simp)
  refine hK.out _ _ hb41 (fun h => ?_)
  clear h hK K
  refine wpAnyH_narrow (S' := fun w' => Below w41.heap.size w41 w') (fun _ h => below_next hb41 h) _ _ _ _ ?_
  replace h1 := h1.still hb41
  replace h2 := h2.still hb41
  replace h3 := h3.still hb41
  replace b := below_next b hb41
  clear hb41
  (try simp only [Act.put, List.setIfInBounds_toArray, List.set_cons_zero, List.set_cons_succ])
  refine wpAnyH_ready (rs := [19]) (by kernel_rfl) (by simp) ?_
  refine AllReadyH.cons (o := { dst := some 42, op := Op.call { callee := Callee.value (Operand.func 14), args := #[Operand.tmp 36, Operand.tmp 41], argTypes := #[30, 30] }, type := 4, pos := "law.go:74", after := #[{ on := 13, ground := Ground.data }, { on := 18, ground := Ground.data }, { on := 18, ground := Ground.chain }, { on := 8, ground := Ground.guard }], guard := some (8, false) }) rfl (fun K hK => ?_) AllReadyH.nil
  go_simp
  (go_at_call 14; refine (cS _ _ _ _ _ hc36 hc41 (kk _ _ hG b) q2.out).mono ?_; rintro e w42 ⟨rfl, hb42⟩)
  (try go_simp)
  refine hK.out _ _ hb42 (fun h => ?_)
  clear h hK K
  refine wpAnyH_narrow (S' := fun w' => Below w42.heap.size w42 w') (fun _ h => below_next hb42 h) _ _ _ _ ?_
  replace h1 := h1.still hb42
  replace h2 := h2.still hb42
  replace h3 := h3.still hb42
  replace b := below_next b hb42
  clear hb42
  (try simp only [Act.put, List.setIfInBounds_toArray, List.set_cons_zero, List.set_cons_succ])
  refine wpAnyH_take (i := 20) (oi := { dst := some 43, op := Op.unOp UnOp.not 4 (Operand.tmp 42), type := 4, pos := "law.go:74", after := #[{ on := 19, ground := Ground.data }, { on := 8, ground := Ground.guard }], guard := some (8, false) }) (v := ?va20) rfl (by kernel_rfl) (by kernel_rfl) (by kernel_rfl) (fun _ _ _ h => h) (Or.inl ⟨by rfl, ?ha20⟩) (Below.refl _ _) ?ra20
  case ha20 =>
    intro w hSw
    go_simp
    try with_reducible rfl
  (try simp only [Act.put, List.setIfInBounds_toArray, List.set_cons_zero, List.set_cons_succ])
  refine wpAnyH_take (i := 21) (oi := { dst := some 44, op := Op.pick (Operand.tmp 31) (Operand.const (Value.bool true)) (Operand.tmp 43), type := 4, pos := "law.go:74", after := #[{ on := 8, ground := Ground.data }, { on := 20, ground := Ground.data }], guard := none }) (v := ?va21) rfl (by kernel_rfl) (by kernel_rfl) (by kernel_rfl) (fun _ _ _ h => h) (Or.inl ⟨by rfl, ?ha21⟩) (Below.refl _ _) ?ra21
  case ha21 =>
    intro w hSw
    go_simp
    try with_reducible rfl
  (try simp only [Act.put, List.setIfInBounds_toArray, List.set_cons_zero, List.set_cons_succ])
  refine wpAnyH_take (i := 22) (oi := { dst := some 45, op := Op.move (Operand.tmp 44), type := 4, pos := "law.go:74", after := #[{ on := 21, ground := Ground.data }, { on := 19, ground := Ground.chain }], guard := none }) (v := ?va22) rfl (by kernel_rfl) (by kernel_rfl) (by kernel_rfl) (fun _ _ _ h => h) (Or.inl ⟨by rfl, ?ha22⟩) (Below.refl _ _) ?ra22
  case ha22 =>
    intro w hSw
    go_simp
    try with_reducible rfl
  (try simp only [Act.put, List.setIfInBounds_toArray, List.set_cons_zero, List.set_cons_succ])
  refine wpAnyH_take (i := 23) (oi := { dst := some 46, op := Op.load 30 (Operand.tmp 7), type := 30, pos := "law.go:74", after := #[{ on := 22, ground := Ground.guard }], guard := some (22, false) }) (v := .agg c1.toArray) rfl (by kernel_rfl) (by kernel_rfl) (by kernel_rfl) (fun _ _ _ h => h) (yieldsIf_load_mid (by rfl) 30 _ rfl w1.heap.size 0 rfl (c1) _ (fun _ h => (h1.still h).range) Tryd.underlying30 rfl (infoP l1)) (Below.refl _ _) ?_
  (try simp only [Act.put, List.setIfInBounds_toArray, List.set_cons_zero, List.set_cons_succ])
  refine wpAnyH_take (i := 26) (oi := { dst := some 49, op := Op.load 30 (Operand.tmp 7), type := 30, pos := "law.go:74", after := #[{ on := 22, ground := Ground.guard }], guard := some (22, false) }) (v := .agg c1.toArray) rfl (by kernel_rfl) (by kernel_rfl) (by kernel_rfl) (fun _ _ _ h => h) (yieldsIf_load_mid (by rfl) 30 _ rfl w1.heap.size 0 rfl (c1) _ (fun _ h => (h1.still h).range) Tryd.underlying30 rfl (infoP l1)) (Below.refl _ _) ?_
  (try simp only [Act.put, List.setIfInBounds_toArray, List.set_cons_zero, List.set_cons_succ])
  refine wpAnyH_ready (rs := [24]) (by kernel_rfl) (by simp) ?_
  refine AllReadyH.cons (o := { dst := some 47, op := Op.call { callee := Callee.value (Operand.func 15), args := #[], argTypes := #[] }, type := 30, pos := "law.go:74", after := #[{ on := 22, ground := Ground.chain }, { on := 22, ground := Ground.guard }], guard := some (22, false) }) rfl (fun K hK => ?_) AllReadyH.nil
  go_simp
  (go_at_call 15; refine (cZ _ (kk _ _ hG b)).mono ?_; rintro e w47 ⟨c47, rfl, hc47, hb47⟩)
  (try go_simp)
  refine hK.out _ _ hb47 (fun h => ?_)
  clear h hK K
  refine wpAnyH_narrow (S' := fun w' => Below w47.heap.size w47 w') (fun _ h => below_next hb47 h) _ _ _ _ ?_
  replace h1 := h1.still hb47
  replace h2 := h2.still hb47
  replace h3 := h3.still hb47
  replace b := below_next b hb47
  clear hb47
  (try simp only [Act.put, List.setIfInBounds_toArray, List.set_cons_zero, List.set_cons_succ])
  refine wpAnyH_ready (rs := [25]) (by kernel_rfl) (by simp) ?_
  refine AllReadyH.cons (o := { dst := some 48, op := Op.call { callee := Callee.value (Operand.func 24), args := #[Operand.tmp 46, Operand.tmp 47], argTypes := #[30, 30] }, type := 30, pos := "law.go:74", after := #[{ on := 23, ground := Ground.data }, { on := 24, ground := Ground.data }, { on := 24, ground := Ground.chain }, { on := 22, ground := Ground.guard }], guard := some (22, false) }) rfl (fun K hK => ?_) AllReadyH.nil
  go_simp
  (go_at_call 24; refine (cP _ _ _ _ _ hc1 hc47 (kk _ _ hG b)).mono ?_; rintro e w48 ⟨c48, rfl, hc48, hb48⟩)
  (try go_simp)
  refine hK.out _ _ hb48 (fun h => ?_)
  clear h hK K
  refine wpAnyH_narrow (S' := fun w' => Below w48.heap.size w48 w') (fun _ h => below_next hb48 h) _ _ _ _ ?_
  replace h1 := h1.still hb48
  replace h2 := h2.still hb48
  replace h3 := h3.still hb48
  replace b := below_next b hb48
  clear hb48
  (try simp only [Act.put, List.setIfInBounds_toArray, List.set_cons_zero, List.set_cons_succ])
  refine wpAnyH_ready (rs := [27]) (by kernel_rfl) (by simp) ?_
  refine AllReadyH.cons (o := { dst := some 50, op := Op.call { callee := Callee.value (Operand.func 14), args := #[Operand.tmp 48, Operand.tmp 49], argTypes := #[30, 30] }, type := 4, pos := "law.go:74", after := #[{ on := 25, ground := Ground.data }, { on := 26, ground := Ground.data }, { on := 25, ground := Ground.chain }, { on := 22, ground := Ground.guard }], guard := some (22, false) }) rfl (fun K hK => ?_) AllReadyH.nil
  go_simp
  (go_at_call 14; refine (cS _ _ _ _ _ hc48 hc1 (kk _ _ hG b) q3.out).mono ?_; rintro e w50 ⟨rfl, hb50⟩)
  (try go_simp)
  refine hK.out _ _ hb50 (fun h => ?_)
  clear h hK K
  refine wpAnyH_narrow (S' := fun w' => Below w50.heap.size w50 w') (fun _ h => below_next hb50 h) _ _ _ _ ?_
  replace h1 := h1.still hb50
  replace h2 := h2.still hb50
  replace h3 := h3.still hb50
  replace b := below_next b hb50
  clear hb50
  (try simp only [Act.put, List.setIfInBounds_toArray, List.set_cons_zero, List.set_cons_succ])
  refine wpAnyH_take (i := 28) (oi := { dst := some 51, op := Op.unOp UnOp.not 4 (Operand.tmp 50), type := 4, pos := "law.go:74", after := #[{ on := 27, ground := Ground.data }, { on := 22, ground := Ground.guard }], guard := some (22, false) }) (v := ?va28) rfl (by kernel_rfl) (by kernel_rfl) (by kernel_rfl) (fun _ _ _ h => h) (Or.inl ⟨by rfl, ?ha28⟩) (Below.refl _ _) ?ra28
  case ha28 =>
    intro w hSw
    go_simp
    try with_reducible rfl
  (try simp only [Act.put, List.setIfInBounds_toArray, List.set_cons_zero, List.set_cons_succ])
  refine wpAnyH_take (i := 29) (oi := { dst := some 52, op := Op.pick (Operand.tmp 45) (Operand.const (Value.bool true)) (Operand.tmp 51), type := 4, pos := "law.go:74", after := #[{ on := 22, ground := Ground.data }, { on := 28, ground := Ground.data }], guard := none }) (v := ?va29) rfl (by kernel_rfl) (by kernel_rfl) (by kernel_rfl) (fun _ _ _ h => h) (Or.inl ⟨by rfl, ?ha29⟩) (Below.refl _ _) ?ra29
  case ha29 =>
    intro w hSw
    go_simp
    try with_reducible rfl
  (try simp only [Act.put, List.setIfInBounds_toArray, List.set_cons_zero, List.set_cons_succ])
  refine wpAnyH_take (i := 30) (oi := { dst := some 53, op := Op.move (Operand.tmp 52), type := 4, pos := "law.go:74", after := #[{ on := 29, ground := Ground.data }, { on := 27, ground := Ground.chain }], guard := none }) (v := ?va30) rfl (by kernel_rfl) (by kernel_rfl) (by kernel_rfl) (fun _ _ _ h => h) (Or.inl ⟨by rfl, ?ha30⟩) (Below.refl _ _) ?ra30
  case ha30 =>
    intro w hSw
    go_simp
    try with_reducible rfl
  (try simp only [Act.put, List.setIfInBounds_toArray, List.set_cons_zero, List.set_cons_succ])
  refine wpAnyH_take (i := 31) (oi := { dst := some 54, op := Op.load 30 (Operand.tmp 7), type := 30, pos := "law.go:74", after := #[{ on := 30, ground := Ground.guard }], guard := some (30, false) }) (v := .agg c1.toArray) rfl (by kernel_rfl) (by kernel_rfl) (by kernel_rfl) (fun _ _ _ h => h) (yieldsIf_load_mid (by rfl) 30 _ rfl w1.heap.size 0 rfl (c1) _ (fun _ h => (h1.still h).range) Tryd.underlying30 rfl (infoP l1)) (Below.refl _ _) ?_
  (try simp only [Act.put, List.setIfInBounds_toArray, List.set_cons_zero, List.set_cons_succ])
  refine wpAnyH_take (i := 32) (oi := { dst := some 55, op := Op.load 30 (Operand.tmp 7), type := 30, pos := "law.go:74", after := #[{ on := 30, ground := Ground.guard }], guard := some (30, false) }) (v := .agg c1.toArray) rfl (by kernel_rfl) (by kernel_rfl) (by kernel_rfl) (fun _ _ _ h => h) (yieldsIf_load_mid (by rfl) 30 _ rfl w1.heap.size 0 rfl (c1) _ (fun _ h => (h1.still h).range) Tryd.underlying30 rfl (infoP l1)) (Below.refl _ _) ?_
  (try simp only [Act.put, List.setIfInBounds_toArray, List.set_cons_zero, List.set_cons_succ])
  refine wpAnyH_ready (rs := [33]) (by kernel_rfl) (by simp) ?_
  refine AllReadyH.cons (o := { dst := some 56, op := Op.call { callee := Callee.value (Operand.func 27), args := #[Operand.tmp 55], argTypes := #[30] }, type := 30, pos := "law.go:74", after := #[{ on := 32, ground := Ground.data }, { on := 30, ground := Ground.chain }, { on := 30, ground := Ground.guard }], guard := some (30, false) }) rfl (fun K hK => ?_) AllReadyH.nil
  go_simp
  (go_at_call 27; refine (cN _ _ _ hc1 (kk _ _ hG b)).mono ?_; rintro e w56 ⟨c56, rfl, hc56, hb56⟩)
  (try go_simp)
  refine hK.out _ _ hb56 (fun h => ?_)
  clear h hK K
  refine wpAnyH_narrow (S' := fun w' => Below w56.heap.size w56 w') (fun _ h => below_next hb56 h) _ _ _ _ ?_
  replace h1 := h1.still hb56
  replace h2 := h2.still hb56
  replace h3 := h3.still hb56
  replace b := below_next b hb56
  clear hb56
  (try simp only [Act.put, List.setIfInBounds_toArray, List.set_cons_zero, List.set_cons_succ])
  refine wpAnyH_ready (rs := [34]) (by kernel_rfl) (by simp) ?_
  refine AllReadyH.cons (o := { dst := some 57, op := Op.call { callee := Callee.value (Operand.func 24), args := #[Operand.tmp 54, Operand.tmp 56], argTypes := #[30, 30] }, type := 30, pos := "law.go:74", after := #[{ on := 31, ground := Ground.data }, { on := 33, ground := Ground.data }, { on := 33, ground := Ground.chain }, { on := 30, ground := Ground.guard }], guard := some (30, false) }) rfl (fun K hK => ?_) AllReadyH.nil
  go_simp
  (go_at_call 24; refine (cP _ _ _ _ _ hc1 hc56 (kk _ _ hG b)).mono ?_; rintro e w57 ⟨c57, rfl, hc57, hb57⟩)
  (try go_simp)
  refine hK.out _ _ hb57 (fun h => ?_)
  clear h hK K
  refine wpAnyH_narrow (S' := fun w' => Below w57.heap.size w57 w') (fun _ h => below_next hb57 h) _ _ _ _ ?_
  replace h1 := h1.still hb57
  replace h2 := h2.still hb57
  replace h3 := h3.still hb57
  replace b := below_next b hb57
  clear hb57
  (try simp only [Act.put, List.setIfInBounds_toArray, List.set_cons_zero, List.set_cons_succ])
  refine wpAnyH_ready (rs := [35]) (by kernel_rfl) (by simp) ?_
  refine AllReadyH.cons (o := { dst := some 58, op := Op.call { callee := Callee.value (Operand.func 15), args := #[], argTypes := #[] }, type := 30, pos := "law.go:74", after := #[{ on := 34, ground := Ground.chain }, { on := 30, ground := Ground.guard }], guard := some (30, false) }) rfl (fun K hK => ?_) AllReadyH.nil
  go_simp
  (go_at_call 15; refine (cZ _ (kk _ _ hG b)).mono ?_; rintro e w58 ⟨c58, rfl, hc58, hb58⟩)
  (try go_simp)
  refine hK.out _ _ hb58 (fun h => ?_)
  clear h hK K
  refine wpAnyH_narrow (S' := fun w' => Below w58.heap.size w58 w') (fun _ h => below_next hb58 h) _ _ _ _ ?_
  replace h1 := h1.still hb58
  replace h2 := h2.still hb58
  replace h3 := h3.still hb58
  replace b := below_next b hb58
  clear hb58
  (try simp only [Act.put, List.setIfInBounds_toArray, List.set_cons_zero, List.set_cons_succ])
  refine wpAnyH_ready (rs := [36]) (by kernel_rfl) (by simp) ?_
  refine AllReadyH.cons (o := { dst := some 59, op := Op.call { callee := Callee.value (Operand.func 14), args := #[Operand.tmp 57, Operand.tmp 58], argTypes := #[30, 30] }, type := 4, pos := "law.go:74", after := #[{ on := 34, ground := Ground.data }, { on := 35, ground := Ground.data }, { on := 35, ground := Ground.chain }, { on := 30, ground := Ground.guard }], guard := some (30, false) }) rfl (fun K hK => ?_) AllReadyH.nil
  go_simp
  (go_at_call 14; refine (cS _ _ _ _ _ hc57 hc58 (kk _ _ hG b) q4.out).mono ?_; rintro e w59 ⟨rfl, hb59⟩)
  (try go_simp)
  refine hK.out _ _ hb59 (fun h => ?_)
  clear h hK K
  refine wpAnyH_narrow (S' := fun w' => Below w59.heap.size w59 w') (fun _ h => below_next hb59 h) _ _ _ _ ?_
  replace h1 := h1.still hb59
  replace h2 := h2.still hb59
  replace h3 := h3.still hb59
  replace b := below_next b hb59
  clear hb59
  (try simp only [Act.put, List.setIfInBounds_toArray, List.set_cons_zero, List.set_cons_succ])
  refine wpAnyH_take (i := 37) (oi := { dst := some 60, op := Op.unOp UnOp.not 4 (Operand.tmp 59), type := 4, pos := "law.go:74", after := #[{ on := 36, ground := Ground.data }, { on := 30, ground := Ground.guard }], guard := some (30, false) }) (v := ?va37) rfl (by kernel_rfl) (by kernel_rfl) (by kernel_rfl) (fun _ _ _ h => h) (Or.inl ⟨by rfl, ?ha37⟩) (Below.refl _ _) ?ra37
  case ha37 =>
    intro w hSw
    go_simp
    try with_reducible rfl
  (try simp only [Act.put, List.setIfInBounds_toArray, List.set_cons_zero, List.set_cons_succ])
  refine wpAnyH_take (i := 38) (oi := { dst := some 61, op := Op.pick (Operand.tmp 53) (Operand.const (Value.bool true)) (Operand.tmp 60), type := 4, pos := "law.go:74", after := #[{ on := 30, ground := Ground.data }, { on := 37, ground := Ground.data }], guard := none }) (v := ?va38) rfl (by kernel_rfl) (by kernel_rfl) (by kernel_rfl) (fun _ _ _ h => h) (Or.inl ⟨by rfl, ?ha38⟩) (Below.refl _ _) ?ra38
  case ha38 =>
    intro w hSw
    go_simp
    try with_reducible rfl
  (try simp only [Act.put, List.setIfInBounds_toArray, List.set_cons_zero, List.set_cons_succ])
  refine wpAnyH_take (i := 39) (oi := { dst := some 62, op := Op.move (Operand.tmp 61), type := 4, pos := "law.go:74", after := #[{ on := 38, ground := Ground.data }, { on := 36, ground := Ground.chain }], guard := none }) (v := ?va39) rfl (by kernel_rfl) (by kernel_rfl) (by kernel_rfl) (fun _ _ _ h => h) (Or.inl ⟨by rfl, ?ha39⟩) (Below.refl _ _) ?ra39
  case ha39 =>
    intro w hSw
    go_simp
    try with_reducible rfl
  (try simp only [Act.put, List.setIfInBounds_toArray, List.set_cons_zero, List.set_cons_succ])
  refine wpAnyH_ready (rs := [40]) (by kernel_rfl) (by simp) ?_
  refine AllReadyH.cons (o := { dst := some 63, op := Op.call { callee := Callee.value (Operand.func 13), args := #[], argTypes := #[] }, type := 4, pos := "law.go:74", after := #[{ on := 39, ground := Ground.chain }, { on := 39, ground := Ground.guard }], guard := some (39, false) }) rfl (fun K hK => ?_) AllReadyH.nil
  go_simp
  (go_at_call 13; refine (ck _ (kk _ _ hG b)).mono ?_; rintro e w63 ⟨rfl, hb63⟩)
  (try go_simp)
  refine hK.out _ _ hb63 (fun h => ?_)
  clear h hK K
  refine wpAnyH_narrow (S' := fun w' => Below w63.heap.size w63 w') (fun _ h => below_next hb63 h) _ _ _ _ ?_
  replace h1 := h1.still hb63
  replace h2 := h2.still hb63
  replace h3 := h3.still hb63
  replace b := below_next b hb63
  clear hb63
  (try simp only [Act.put, List.setIfInBounds_toArray, List.set_cons_zero, List.set_cons_succ])
  refine wpAnyH_take (i := 41) (oi := { dst := some 64, op := Op.unOp UnOp.not 4 (Operand.tmp 63), type := 4, pos := "law.go:74", after := #[{ on := 40, ground := Ground.data }, { on := 39, ground := Ground.guard }], guard := some (39, false) }) (v := ?va41) rfl (by kernel_rfl) (by kernel_rfl) (by kernel_rfl) (fun _ _ _ h => h) (Or.inl ⟨by rfl, ?ha41⟩) (Below.refl _ _) ?ra41
  case ha41 =>
    intro w hSw
    go_simp
    try with_reducible rfl
  (try simp only [Act.put, List.setIfInBounds_toArray, List.set_cons_zero, List.set_cons_succ])
  refine wpAnyH_take (i := 42) (oi := { dst := some 65, op := Op.pick (Operand.tmp 62) (Operand.const (Value.bool true)) (Operand.tmp 64), type := 4, pos := "law.go:74", after := #[{ on := 39, ground := Ground.data }, { on := 41, ground := Ground.data }], guard := none }) (v := ?va42) rfl (by kernel_rfl) (by kernel_rfl) (by kernel_rfl) (fun _ _ _ h => h) (Or.inl ⟨by rfl, ?ha42⟩) (Below.refl _ _) ?ra42
  case ha42 =>
    intro w hSw
    go_simp
    try with_reducible rfl
  (try simp only [Act.put, List.setIfInBounds_toArray, List.set_cons_zero, List.set_cons_succ])
  refine wpAnyH_done (by kernel_rfl) ?_ _
  refine NoPanic.normal ?_
  have hmk := make_bytes w63 32 32 rfl (by decide)
  obtain ⟨W, hW⟩ : ∃ W, W = w63.alloc (.cells (zb 32) 5) := ⟨_, rfl⟩
  have hrow : RowAt .u8 W w63.heap.size 0 32 (fun _ => 0) := by rw [hW]; exact RowAt.fresh (fun j hj => zb_at 32 j hj)
  have hbW : Below w63.heap.size w63 W := by rw [hW]; exact (Below.refl _ _).alloc (Nat.le_refl _) _
  rw [← hW] at hmk
  have s8 := b.size
  have n18 := Nat.ne_of_lt h1.lt
  have n28 := Nat.ne_of_lt h2.lt
  replace h1 := h1.still hbW
  replace h2 := h2.still hbW
  replace b := below_next b hbW
  clear hW hbW h3
  generalize w63.heap.size = g8 at *
  have cc := (hrow 0 (by decide)).1
  have ff := (hrow 0 (by decide)).2
  rw [Nat.zero_add] at cc ff
  have hset := hrow.set (i := 0) (by decide) (v := 1) (u := 1) rfl
  rw [Nat.zero_add] at hset
  obtain ⟨V8, hV8⟩ : ∃ V, V = W.setCell ⟨g8, 0, none⟩ (.int .u8 1) := ⟨_, rfl⟩
  replace h1 := h1.far g8 0 [.int .u8 1] (.inl n18)
  replace h2 := h2.far g8 0 [.int .u8 1] (.inl n28)
  replace b : Below w.heap.size w V8 := by rw [hV8]; exact below_setCells s8 [_] 0 _ b
  replace h1 : RW V8 w1.heap.size 0 c1 := by rw [hV8]; exact h1
  replace h2 : RW V8 w2.heap.size 0 c2 := by rw [hV8]; exact h2
  rw [← hV8] at hset
  have H8 := Hid.mk' hV8
  have yo : BytesIn V8 (.slice (some ⟨g8, 0, none⟩) 32 32) 32 oneB := .inr ⟨g8, 0, 32, rfl, block_lt_of_cell (hset 0 (by decide)).1, Nat.le_refl _, fun i hi => (hset i hi).1⟩
  replace cMA := cMA g8
  replace cNe := cNe g8
  clear hrow hset hV8
  generalize oneB = ob at *
  go_upto_region 11 with (first
    | rw [hmk]
    | (go_at_call 23; rw [← H8.out]; refine (f1 _ (hv.still b)).mono ?_; clear f1 H8 hmk cc ff; rintro e w71 ⟨s71, rfl, hn71, hb71⟩; (have y71 := NewB.bytes hn71 (by decide)); (replace h1 := h1.still hb71); (replace h2 := h2.still hb71); (replace yo := yo.still hb71); (replace b := below_next b hb71); clear hb71; clear hn71)
    | (go_at_call 23; refine (f2 _ (hu.still b)).mono ?_; clear f2; rintro e w74 ⟨s74, rfl, hn74, hb74⟩; (have y74 := NewB.bytes hn74 (by decide)); (replace h1 := h1.still hb74); (replace h2 := h2.still hb74); (replace yo := yo.still hb74); (replace y71 := y71.still hb74); (replace b := below_next b hb74); clear hb74; clear hn74; (have m75 := cMA s71 s74 w74 (kk _ _ hG b) y71 yo y74); clear cMA y71 y74)
    | (go_at_call 30; refine m75.mono ?_; clear m75; rintro e w75 ⟨s75, rfl, hn75, hb75⟩; (have y75 := NewB.bytes hn75 (by decide)); (obtain ⟨g75, rfl, -, -⟩ := hn75); (replace h1 := h1.still hb75); (replace h2 := h2.still hb75); (replace yo := yo.still hb75); (replace b := below_next b hb75); clear hb75; (have m80 := cNe w75 (kk _ _ hG b) yo); clear cNe yo)
    | (go_at_call 31; refine m80.mono ?_; clear m80; rintro e w80 ⟨s80, rfl, hn80, hb80⟩; (have y80 := NewB.bytes hn80 (by decide)); (obtain ⟨g80, rfl, -, -⟩ := hn80); (replace h1 := h1.still hb80); (replace h2 := h2.still hb80); (replace y75 := y75.still hb80); (replace b := below_next b hb80); clear hb80; (have m84 := cB w80 (kk _ _ hG b)))
    | (go_at_call 18; refine m84.mono ?_; clear m84; rintro e w84 ⟨c84, rfl, hc84, hb84⟩; (replace h1 := h1.still hb84); (replace h2 := h2.still hb84); (replace y75 := y75.still hb84); (replace y80 := y80.still hb84); (replace b := below_next b hb84); clear hb84; (have m86 := cTi c84 _ w84 hc84 (kk _ _ hG b) y80); clear cTi y80)
    | (go_at_call 20; refine m86.mono ?_; clear m86; rintro e w86 ⟨c86, rfl, hc86, hb86⟩; (replace h1 := h1.still hb86); (replace h2 := h2.still hb86); (replace y75 := y75.still hb86); (replace b := below_next b hb86); clear hb86; (have l86 := kl _ _ hc86); (have o86 := ko _ _ hc86); (obtain ⟨V86, hV86, h86, b86, t86⟩ := boxP w86 c86 l86); (have H86 := Hid.mk' hV86); clear hV86; (replace h1 := h1.still b86); (replace h2 := h2.still b86); (replace y75 := y75.still b86); (replace b := below_next b b86); clear b86)
    | (with_reducible (refine id (?_ : wpList _ _ _ _ _ _)); refine wpList_store_mid rfl 30 _ _ rfl w86.heap.size 0 c86.toArray rfl rfl t86 (infoPA l86) o86 ?_; rw [List.toList_toArray, ← H86.out]; clear t86 H86))
  (try simp only [Act.put, List.setIfInBounds_toArray, List.set_cons_zero, List.set_cons_succ])
  have hw0 : IntKind.i64.wrap 0 = 0 := by decide
  have hdrew : Below V86.heap.size V86 V86.drew := (Below.refl _ _).drew
  replace h1 := h1.still hdrew
  replace h2 := h2.still hdrew
  replace h86 := h86.still hdrew
  replace y75 := y75.still hdrew
  replace b := below_next b hdrew
  clear hdrew
  refine wp_region_noPanic ?_
  refine wp_region_held_drew (S := fun w' => Below V86.drew.heap.size V86.drew w') (by kernel_rfl) (Below.refl _ _) (fun hHeld => ?_)
  clear hHeld
  refine wpAnyH_take (i := 0) (oi := { dst := some 89, op := Op.move (Operand.tmp 12), type := 31, pos := "law.go:82", after := #[], guard := none }) (v := ?vb0) rfl (by kernel_rfl) (by kernel_rfl) (by kernel_rfl) (fun _ _ _ h => h) (Or.inl ⟨by rfl, ?hb0⟩) (Below.refl _ _) ?rb0
  case hb0 =>
    intro w hSw
    go_simp
    try with_reducible rfl
  (try simp only [Act.put, List.setIfInBounds_toArray, List.set_cons_zero, List.set_cons_succ])
  refine wpAnyH_take (i := 2) (oi := { dst := some 91, op := Op.move (Operand.tmp 14), type := 31, pos := "law.go:82", after := #[], guard := none }) (v := ?vb2) rfl (by kernel_rfl) (by kernel_rfl) (by kernel_rfl) (fun _ _ _ h => h) (Or.inl ⟨by rfl, ?hb2⟩) (Below.refl _ _) ?rb2
  case hb2 =>
    intro w hSw
    go_simp
    try with_reducible rfl
  (try simp only [Act.put, List.setIfInBounds_toArray, List.set_cons_zero, List.set_cons_succ])
  refine wpAnyH_take (i := 5) (oi := { dst := some 94, op := Op.move (Operand.tmp 16), type := 31, pos := "law.go:82", after := #[], guard := none }) (v := ?vb5) rfl (by kernel_rfl) (by kernel_rfl) (by kernel_rfl) (fun _ _ _ h => h) (Or.inl ⟨by rfl, ?hb5⟩) (Below.refl _ _) ?rb5
  case hb5 =>
    intro w hSw
    go_simp
    try with_reducible rfl
  (try simp only [Act.put, List.setIfInBounds_toArray, List.set_cons_zero, List.set_cons_succ])
  refine wpAnyH_ready (rs := [1]) (by kernel_rfl) (by simp) ?_
  refine AllReadyH.cons (o := { dst := some 90, op := Op.call { callee := Callee.value (Operand.func 11), args := #[Operand.tmp 89], argTypes := #[31] }, type := 3, pos := "law.go:82", after := #[{ on := 0, ground := Ground.data }], guard := none }) rfl (fun K hK => ?_) AllReadyH.nil
  go_simp
  (go_at_call 11; refine (num6_any _ _).mono ?_; rintro e wn ⟨rfl, hwn⟩; subst hwn)
  (try go_simp)
  refine hK.out _ _ (Below.refl _ _) (fun h => ?_)
  clear h hK K
  (try simp only [Act.put, List.setIfInBounds_toArray, List.set_cons_zero, List.set_cons_succ])
  refine wpAnyH_ready (rs := [3]) (by kernel_rfl) (by simp) ?_
  refine AllReadyH.cons (o := { dst := some 92, op := Op.call { callee := Callee.value (Operand.func 11), args := #[Operand.tmp 91], argTypes := #[31] }, type := 3, pos := "law.go:82", after := #[{ on := 2, ground := Ground.data }, { on := 1, ground := Ground.chain }], guard := none }) rfl (fun K hK => ?_) AllReadyH.nil
  go_simp
  (go_at_call 11; refine (num6_any _ _).mono ?_; rintro e wn ⟨rfl, hwn⟩; subst hwn)
  (try go_simp)
  refine hK.out _ _ (Below.refl _ _) (fun h => ?_)
  clear h hK K
  (try simp only [Act.put, List.setIfInBounds_toArray, List.set_cons_zero, List.set_cons_succ])
  refine wpAnyH_take (i := 4) (oi := { dst := some 93, op := Op.binOp BinOp.add 3 (Operand.tmp 90) (Operand.tmp 92) 3, type := 3, pos := "law.go:82", after := #[{ on := 1, ground := Ground.data }, { on := 3, ground := Ground.data }], guard := none }) (v := ?vb4) rfl (by kernel_rfl) (by kernel_rfl) (by kernel_rfl) (fun _ _ _ h => h) (Or.inl ⟨by rfl, ?hb4⟩) (Below.refl _ _) ?rb4
  case hb4 =>
    intro w hSw
    go_simp
    try with_reducible rfl
  (try simp only [Act.put, List.setIfInBounds_toArray, List.set_cons_zero, List.set_cons_succ])
  refine wpAnyH_ready (rs := [6]) (by kernel_rfl) (by simp) ?_
  refine AllReadyH.cons (o := { dst := some 95, op := Op.call { callee := Callee.value (Operand.func 11), args := #[Operand.tmp 94], argTypes := #[31] }, type := 3, pos := "law.go:82", after := #[{ on := 5, ground := Ground.data }, { on := 3, ground := Ground.chain }], guard := none }) rfl (fun K hK => ?_) AllReadyH.nil
  go_simp
  (go_at_call 11; refine (num6_any _ _).mono ?_; rintro e wn ⟨rfl, hwn⟩; subst hwn)
  (try go_simp)
  refine hK.out _ _ (Below.refl _ _) (fun h => ?_)
  clear h hK K
  (try simp only [Act.put, List.setIfInBounds_toArray, List.set_cons_zero, List.set_cons_succ])
  refine wpAnyH_take (i := 7) (oi := { dst := some 96, op := Op.binOp BinOp.add 3 (Operand.tmp 93) (Operand.tmp 95) 3, type := 3, pos := "law.go:82", after := #[{ on := 4, ground := Ground.data }, { on := 6, ground := Ground.data }], guard := none }) (v := ?vb7) rfl (by kernel_rfl) (by kernel_rfl) (by kernel_rfl) (fun _ _ _ h => h) (Or.inl ⟨by rfl, ?hb7⟩) (Below.refl _ _) ?rb7
  case hb7 =>
    intro w hSw
    go_simp
    try with_reducible rfl
  (try simp only [Act.put, List.setIfInBounds_toArray, List.set_cons_zero, List.set_cons_succ])
  refine wpAnyH_take (i := 8) (oi := { dst := some 97, op := Op.binOp BinOp.eql 3 (Operand.tmp 96) (Operand.const (Value.int IntKind.i64 0)) 3, type := 4, pos := "law.go:82", after := #[{ on := 7, ground := Ground.data }], guard := none }) (v := ?vb8) rfl (by kernel_rfl) (by kernel_rfl) (by kernel_rfl) (fun _ _ _ h => h) (Or.inl ⟨by rfl, ?hb8⟩) (Below.refl _ _) ?rb8
  case hb8 =>
    intro w hSw
    go_simp
    try with_reducible rfl
  (try simp only [Act.put, List.setIfInBounds_toArray, List.set_cons_zero, List.set_cons_succ])
  refine wpAnyH_take (i := 9) (oi := { dst := some 98, op := Op.move (Operand.tmp 97), type := 4, pos := "law.go:82", after := #[{ on := 8, ground := Ground.data }, { on := 6, ground := Ground.chain }], guard := none }) (v := ?vb9) rfl (by kernel_rfl) (by kernel_rfl) (by kernel_rfl) (fun _ _ _ h => h) (Or.inl ⟨by rfl, ?hb9⟩) (Below.refl _ _) ?rb9
  case hb9 =>
    intro w hSw
    go_simp
    try with_reducible rfl
  (try simp only [Act.put, List.setIfInBounds_toArray, List.set_cons_zero, List.set_cons_succ])
  refine wpAnyH_take (i := 10) (oi := { dst := some 99, op := Op.move (Operand.tmp 11), type := 22, pos := "law.go:82", after := #[{ on := 9, ground := Ground.guard }], guard := some (9, true) }) (v := ?vb10) rfl (by kernel_rfl) (by kernel_rfl) (by kernel_rfl) (fun _ _ _ h => h) (Or.inl ⟨by rfl, ?hb10⟩) (Below.refl _ _) ?rb10
  case hb10 =>
    intro w hSw
    go_simp
    try with_reducible rfl
  (try simp only [Act.put, List.setIfInBounds_toArray, List.set_cons_zero, List.set_cons_succ])
  refine wpAnyH_take (i := 12) (oi := { dst := some 101, op := Op.load 30 (Operand.tmp 7), type := 30, pos := "law.go:82", after := #[{ on := 9, ground := Ground.guard }], guard := some (9, true) }) (v := .agg c1.toArray) rfl (by kernel_rfl) (by kernel_rfl) (by kernel_rfl) (fun _ _ _ h => h) (yieldsIf_load_mid (by rfl) 30 _ rfl w1.heap.size 0 rfl (c1) _ (fun _ h => (h1.still h).range) Tryd.underlying30 rfl (infoP l1)) (Below.refl _ _) ?_
  (try simp only [Act.put, List.setIfInBounds_toArray, List.set_cons_zero, List.set_cons_succ])
  refine wpAnyH_take (i := 13) (oi := { dst := some 102, op := Op.load 30 (Operand.tmp 8), type := 30, pos := "law.go:82", after := #[{ on := 9, ground := Ground.guard }], guard := some (9, true) }) (v := .agg c2.toArray) rfl (by kernel_rfl) (by kernel_rfl) (by kernel_rfl) (fun _ _ _ h => h) (yieldsIf_load_mid (by rfl) 30 _ rfl w2.heap.size 0 rfl (c2) _ (fun _ h => (h2.still h).range) Tryd.underlying30 rfl (infoP l2)) (Below.refl _ _) ?_
  (try simp only [Act.put, List.setIfInBounds_toArray, List.set_cons_zero, List.set_cons_succ])
  refine wpAnyH_ready (rs := [11]) (by kernel_rfl) (by simp) ?_
  refine AllReadyH.cons (o := { dst := some 100, op := Op.call { callee := Callee.value (Operand.func 22), args := #[Operand.tmp 99], argTypes := #[22] }, type := 30, pos := "law.go:82", after := #[{ on := 10, ground := Ground.data }, { on := 9, ground := Ground.chain }, { on := 9, ground := Ground.guard }], guard := some (9, true) }) rfl (fun K hK => ?_) AllReadyH.nil
  go_simp
  (go_at_call 22; refine (cso _ _ y75 (kk _ _ hG b)).mono ?_; clear cso; rintro e w100 ⟨c100, rfl, hc100, hb100⟩)
  (try go_simp)
  refine hK.out _ _ hb100 (fun h => ?_)
  clear h hK K
  refine wpAnyH_narrow (S' := fun w' => Below w100.heap.size w100 w') (fun _ h => below_next hb100 h) _ _ _ _ ?_
  clear y75
  replace h1 := h1.still hb100
  replace h2 := h2.still hb100
  replace h86 := h86.still hb100
  replace b := below_next b hb100
  clear hb100
  (try simp only [Act.put, List.setIfInBounds_toArray, List.set_cons_zero, List.set_cons_succ])
  refine wpAnyH_ready (rs := [14]) (by kernel_rfl) (by simp) ?_
  refine AllReadyH.cons (o := { dst := some 103, op := Op.call { callee := Callee.value (Operand.func 24), args := #[Operand.tmp 101, Operand.tmp 102], argTypes := #[30, 30] }, type := 30, pos := "law.go:82", after := #[{ on := 12, ground := Ground.data }, { on := 13, ground := Ground.data }, { on := 11, ground := Ground.chain }, { on := 9, ground := Ground.guard }], guard := some (9, true) }) rfl (fun K hK => ?_) AllReadyH.nil
  go_simp
  (go_at_call 24; refine (cP _ _ _ _ _ hc1 hc2 (kk _ _ hG b)).mono ?_; rintro e w103 ⟨c103, rfl, hc103, hb103⟩)
  (try go_simp)
  refine hK.out _ _ hb103 (fun h => ?_)
  clear h hK K
  refine wpAnyH_narrow (S' := fun w' => Below w103.heap.size w103 w') (fun _ h => below_next hb103 h) _ _ _ _ ?_
  replace h1 := h1.still hb103
  replace h2 := h2.still hb103
  replace h86 := h86.still hb103
  replace b := below_next b hb103
  clear hb103
  (try simp only [Act.put, List.setIfInBounds_toArray, List.set_cons_zero, List.set_cons_succ])
  refine wpAnyH_ready (rs := [15]) (by kernel_rfl) (by simp) ?_
  refine AllReadyH.cons (o := { dst := some 104, op := Op.call { callee := Callee.value (Operand.func 14), args := #[Operand.tmp 100, Operand.tmp 103], argTypes := #[30, 30] }, type := 4, pos := "law.go:82", after := #[{ on := 11, ground := Ground.data }, { on := 14, ground := Ground.data }, { on := 14, ground := Ground.chain }, { on := 9, ground := Ground.guard }], guard := some (9, true) }) rfl (fun K hK => ?_) AllReadyH.nil
  go_simp
  (go_at_call 14; refine (cS _ _ _ _ _ hc100 hc103 (kk _ _ hG b) rfl).mono ?_; rintro e w104 ⟨rfl, hb104⟩)
  (try go_simp)
  refine hK.out _ _ hb104 (fun h => ?_)
  clear h hK K
  refine wpAnyH_narrow (S' := fun w' => Below w104.heap.size w104 w') (fun _ h => below_next hb104 h) _ _ _ _ ?_
  replace h1 := h1.still hb104
  replace h2 := h2.still hb104
  replace h86 := h86.still hb104
  replace b := below_next b hb104
  clear hb104
  (try simp only [Act.put, List.setIfInBounds_toArray, List.set_cons_zero, List.set_cons_succ])
  refine wpAnyH_take (i := 16) (oi := { dst := some 105, op := Op.pick (Operand.tmp 98) (Operand.tmp 104) (Operand.const (Value.bool false)), type := 4, pos := "law.go:82", after := #[{ on := 9, ground := Ground.data }, { on := 15, ground := Ground.data }], guard := none }) (v := ?vb16) rfl (by kernel_rfl) (by kernel_rfl) (by kernel_rfl) (fun _ _ _ h => h) (Or.inl ⟨by rfl, ?hb16⟩) (Below.refl _ _) ?rb16
  case hb16 =>
    intro w hSw
    go_simp
    try with_reducible rfl
  (try simp only [Act.put, List.setIfInBounds_toArray, List.set_cons_zero, List.set_cons_succ])
  refine wpAnyH_take (i := 17) (oi := { dst := some 106, op := Op.move (Operand.tmp 105), type := 4, pos := "law.go:82", after := #[{ on := 16, ground := Ground.data }, { on := 15, ground := Ground.chain }], guard := none }) (v := ?vb17) rfl (by kernel_rfl) (by kernel_rfl) (by kernel_rfl) (fun _ _ _ h => h) (Or.inl ⟨by rfl, ?hb17⟩) (Below.refl _ _) ?rb17
  case hb17 =>
    intro w hSw
    go_simp
    try with_reducible rfl
  (try simp only [Act.put, List.setIfInBounds_toArray, List.set_cons_zero, List.set_cons_succ])
  refine wpAnyH_take (i := 18) (oi := { dst := some 107, op := Op.load 30 (Operand.tmp 15), type := 30, pos := "law.go:82", after := #[{ on := 17, ground := Ground.guard }], guard := some (17, true) }) (v := .agg c86.toArray) rfl (by kernel_rfl) (by kernel_rfl) (by kernel_rfl) (fun _ _ _ h => h) (yieldsIf_load_mid (by rfl) 30 _ rfl w86.heap.size 0 rfl (c86) _ (fun _ h => (h86.still h).range) Tryd.underlying30 rfl (infoP l86)) (Below.refl _ _) ?_
  (try simp only [Act.put, List.setIfInBounds_toArray, List.set_cons_zero, List.set_cons_succ])
  refine wpAnyH_ready (rs := [19]) (by kernel_rfl) (by simp) ?_
  refine AllReadyH.cons (o := { dst := some 108, op := Op.call { callee := Callee.value (Operand.func 18), args := #[], argTypes := #[] }, type := 30, pos := "law.go:82", after := #[{ on := 17, ground := Ground.chain }, { on := 17, ground := Ground.guard }], guard := some (17, true) }) rfl (fun K hK => ?_) AllReadyH.nil
  go_simp
  (go_at_call 18; refine (cB _ (kk _ _ hG b)).mono ?_; rintro e w108 ⟨c108, rfl, hc108, hb108⟩)
  (try go_simp)
  refine hK.out _ _ hb108 (fun h => ?_)
  clear h hK K
  refine wpAnyH_narrow (S' := fun w' => Below w108.heap.size w108 w') (fun _ h => below_next hb108 h) _ _ _ _ ?_
  replace h1 := h1.still hb108
  replace h2 := h2.still hb108
  replace h86 := h86.still hb108
  replace b := below_next b hb108
  clear hb108
  (try simp only [Act.put, List.setIfInBounds_toArray, List.set_cons_zero, List.set_cons_succ])
  refine wpAnyH_ready (rs := [20]) (by kernel_rfl) (by simp) ?_
  refine AllReadyH.cons (o := { dst := some 109, op := Op.call { callee := Callee.value (Operand.func 24), args := #[Operand.tmp 107, Operand.tmp 108], argTypes := #[30, 30] }, type := 30, pos := "law.go:82", after := #[{ on := 18, ground := Ground.data }, { on := 19, ground := Ground.data }, { on := 19, ground := Ground.chain }, { on := 17, ground := Ground.guard }], guard := some (17, true) }) rfl (fun K hK => ?_) AllReadyH.nil
  go_simp
  (go_at_call 24; refine (cP _ _ _ _ _ hc86 hc108 (kk _ _ hG b)).mono ?_; rintro e w109 ⟨c109, rfl, hc109, hb109⟩)
  (try go_simp)
  refine hK.out _ _ hb109 (fun h => ?_)
  clear h hK K
  refine wpAnyH_narrow (S' := fun w' => Below w109.heap.size w109 w') (fun _ h => below_next hb109 h) _ _ _ _ ?_
  replace h1 := h1.still hb109
  replace h2 := h2.still hb109
  replace h86 := h86.still hb109
  replace b := below_next b hb109
  clear hb109
  (try simp only [Act.put, List.setIfInBounds_toArray, List.set_cons_zero, List.set_cons_succ])
  refine wpAnyH_ready (rs := [21]) (by kernel_rfl) (by simp) ?_
  refine AllReadyH.cons (o := { dst := some 110, op := Op.call { callee := Callee.value (Operand.func 15), args := #[], argTypes := #[] }, type := 30, pos := "law.go:82", after := #[{ on := 20, ground := Ground.chain }, { on := 17, ground := Ground.guard }], guard := some (17, true) }) rfl (fun K hK => ?_) AllReadyH.nil
  go_simp
  (go_at_call 15; refine (cZ _ (kk _ _ hG b)).mono ?_; rintro e w110 ⟨c110, rfl, hc110, hb110⟩)
  (try go_simp)
  refine hK.out _ _ hb110 (fun h => ?_)
  clear h hK K
  refine wpAnyH_narrow (S' := fun w' => Below w110.heap.size w110 w') (fun _ h => below_next hb110 h) _ _ _ _ ?_
  replace h1 := h1.still hb110
  replace h2 := h2.still hb110
  replace h86 := h86.still hb110
  replace b := below_next b hb110
  clear hb110
  (try simp only [Act.put, List.setIfInBounds_toArray, List.set_cons_zero, List.set_cons_succ])
  refine wpAnyH_ready (rs := [22]) (by kernel_rfl) (by simp) ?_
  refine AllReadyH.cons (o := { dst := some 111, op := Op.call { callee := Callee.value (Operand.func 14), args := #[Operand.tmp 109, Operand.tmp 110], argTypes := #[30, 30] }, type := 4, pos := "law.go:82", after := #[{ on := 20, ground := Ground.data }, { on := 21, ground := Ground.data }, { on := 21, ground := Ground.chain }, { on := 17, ground := Ground.guard }], guard := some (17, true) }) rfl (fun K hK => ?_) AllReadyH.nil
  go_simp
  (go_at_call 14; refine (cS _ _ _ _ _ hc109 hc110 (kk _ _ hG b) q6.out).mono ?_; rintro e w111 ⟨rfl, hb111⟩)
  (try go_simp)
  refine hK.out _ _ hb111 (fun h => ?_)
  clear h hK K
  refine wpAnyH_narrow (S' := fun w' => Below w111.heap.size w111 w') (fun _ h => below_next hb111 h) _ _ _ _ ?_
  replace h1 := h1.still hb111
  replace h2 := h2.still hb111
  replace h86 := h86.still hb111
  replace b := below_next b hb111
  clear hb111
  (try simp only [Act.put, List.setIfInBounds_toArray, List.set_cons_zero, List.set_cons_succ])
  refine wpAnyH_take (i := 23) (oi := { dst := some 112, op := Op.pick (Operand.tmp 106) (Operand.tmp 111) (Operand.const (Value.bool false)), type := 4, pos := "law.go:82", after := #[{ on := 17, ground := Ground.data }, { on := 22, ground := Ground.data }], guard := none }) (v := ?vb23) rfl (by kernel_rfl) (by kernel_rfl) (by kernel_rfl) (fun _ _ _ h => h) (Or.inl ⟨by rfl, ?hb23⟩) (Below.refl _ _) ?rb23
  case hb23 =>
    intro w hSw
    go_simp
    try with_reducible rfl
  (try simp only [Act.put, List.setIfInBounds_toArray, List.set_cons_zero, List.set_cons_succ])
  refine wpAnyH_take (i := 24) (oi := { dst := some 6, op := Op.assign (Operand.tmp 112), type := 4, pos := "law.go:82", after := #[{ on := 23, ground := Ground.data }, { on := 22, ground := Ground.chain }, { on := 0, ground := Ground.phase }, { on := 1, ground := Ground.phase }, { on := 2, ground := Ground.phase }, { on := 3, ground := Ground.phase }, { on := 4, ground := Ground.phase }, { on := 5, ground := Ground.phase }, { on := 6, ground := Ground.phase }, { on := 7, ground := Ground.phase }, { on := 8, ground := Ground.phase }, { on := 9, ground := Ground.phase }, { on := 10, ground := Ground.phase }, { on := 11, ground := Ground.phase }, { on := 12, ground := Ground.phase }, { on := 13, ground := Ground.phase }, { on := 14, ground := Ground.phase }, { on := 15, ground := Ground.phase }, { on := 16, ground := Ground.phase }, { on := 17, ground := Ground.phase }, { on := 18, ground := Ground.phase }, { on := 19, ground := Ground.phase }, { on := 20, ground := Ground.phase }, { on := 21, ground := Ground.phase }, { on := 22, ground := Ground.phase }, { on := 23, ground := Ground.phase }], guard := none }) (v := ?vb24) rfl (by kernel_rfl) (by kernel_rfl) (by kernel_rfl) (fun _ _ _ h => h) (Or.inl ⟨by rfl, ?hb24⟩) (Below.refl _ _) ?rb24
  case hb24 =>
    intro w hSw
    go_simp
    try with_reducible rfl
  (try simp only [Act.put, List.setIfInBounds_toArray, List.set_cons_zero, List.set_cons_succ])
  refine wpAnyH_done (by kernel_rfl) ?_ _
  refine NoPanic.normal ?_
  go_wp2
  go_ret
  exact ⟨rfl, b⟩
end Go.Proofs.YteekjcfbnoakgaaDoor
namespace Go.Proofs.YteekjcfbnoakgaaDoor
open Go.RowKit
/-- Nine zeros. -/
def zW : Array Value := Array.replicate 9 (.int .u64 0)
theorem zW_at (j : Nat) (h : j < 9) : zW[j]? = some (.int .u64 0) := by simp [zW, h]
theorem zeroW (w : World) : Sem.run Tryd.prog (zeroValue 83) w = .ok (.agg zW) w := by kernel_rfl
theorem ints_size (K : IntKind) (n : Nat) (X : Nat → Nat) : (ints K n X).toArray.size = n := by simp [ints]
theorem infoW : (Tryd.prog.info? 83).map (·.size) = some 9 := by kernel_rfl
theorem infoWL (X : Nat → Nat) : (Tryd.prog.info? 83).map (·.size) = some (ints .u64 9 X).length := by rw [ints_len]; exact infoW
theorem infoWA (X : Nat → Nat) : (Tryd.prog.info? 83).map (·.size) = some (ints .u64 9 X).toArray.size := by rw [ints_size]; exact infoW
theorem oneW (X : Nat → Nat) : (ints .u64 9 X).toArray.all (·.oneCell') = true := all_oneCell_toArray (ints_one .u64 9 X)
/-- A wide number's value in the model. -/
def wideV (X : Nat → Nat) : Value := .agg (ints .u64 9 X).toArray
set_option maxRecDepth 20000 in
set_option maxHeartbeats 2000000 in
theorem load_at (xo : Option Addr) (n c : Nat) (bs : Nat → Nat) (hbs : ∀ j, bs j < 256) (hn : n ≤ 64) (w : World) (hc : ∀ W, Below w.heap.size w W → ∀ j, j < n → ∃ bb ob, xo = some ⟨bb, ob, none⟩ ∧ W.cell? ⟨bb, ob + j, none⟩ = some (.int .u8 (bs j))) :
    Calls Tryd.prog 59 #[.slice xo n c] w fun e w' => e = .returned (wideV (lw (ofB bs n))) ∧ Below w.heap.size w w' := by
  have hz := zeroW
  obtain ⟨W, hW⟩ : ∃ W, W = (w.alloc (.cells zW 83)).alloc (.cells zW 83) := ⟨_, rfl⟩
  have HW := Hid.mk' hW
  have hWs : W.heap.size = w.heap.size + 1 + 1 := by rw [hW]; simp
  have hbW : Below w.heap.size w W := by rw [hW]; exact ((Below.refl _ _).alloc (Nat.le_refl _) _).alloc (by simp) _
  have hz0 : ∀ a, lw (ofB bs 0) a = 0 := fun a => by unfold lw ofB; rw [Nat.zero_div, Nat.zero_mod]
  have hres : RowAt .u64 W w.heap.size 0 9 (fun _ => 0) := by rw [hW]; exact (RowAt.fresh (fun j hj => zW_at j hj)).below ((Below.refl _ _).alloc (Nat.le_refl _) _) (by simp)
  have hrow0 : RowAt .u64 W (w.heap.size + 1) 0 9 (lw (ofB bs 0)) := by
    have := RowAt.fresh (K := .u64) (w := w.alloc (.cells zW 83)) (cs := zW) (t := 83) (n := 9) (X := lw (ofB bs 0)) (fun j hj => by rw [hz0]; exact zW_at j hj)
    rw [World.size_alloc] at this
    rw [hW]; exact this
  unfold wideV
  clear hW hz0
  go_enter Tryd.func59, Tryd.ntmps59
  go_wp2
  rw [← HW.out]
  go_loopw [8] (fun i wr => ∃ k : Nat, k ≤ n ∧ i = .int .i64 k ∧ RowAt .u64 wr (w.heap.size + 1) 0 9 (lw (ofB bs k)) ∧ RowAt .u64 wr w.heap.size 0 9 (fun _ => 0) ∧ Below w.heap.size w wr) (fun i _ => n - (intOf i).toNat)
  case atStart => exact ⟨0, Nat.zero_le _, rfl, hrow0, hres, hbW⟩
  case round =>
    clear hrow0 hres hbW hz
    obtain ⟨k, hk, rfl, hrow, hre, hb⟩ := hrel
    by_cases hlt : k < n
    · obtain ⟨rk, rf⟩ := hrow (k / 8) (by omega)
      rw [Nat.zero_add] at rk rf
      obtain ⟨bb, ob, rfl, hck⟩ := hc wr hb k hlt
      have hor := or_byte (lw (ofB bs k) (k / 8)) (bs k) k (lw_lt _ _) (hbs k)
      have hbk := hbs k
      have hki : (k : Int) < n := by omega
      clear hc
      go_wp2
      go_roundw
      case rel =>
        have h1 := hrow.set (i := k / 8) (by omega) (v := ((lw (ofB bs k) (k / 8) ||| bs k * 2 ^ (k % 8 * 8) : Nat) : Int)) rfl
        rw [Nat.zero_add] at h1
        refine ⟨k + 1, by omega, by go_num, h1.congr (fun j hj => ?_), hre.far (by show w.heap.size + 1 ≠ w.heap.size; omega) _, hb.setCell (by show w.heap.size ≤ w.heap.size + 1; omega) _⟩
        rw [word_more bs hbs k j]
        unfold upd
        by_cases e : j = k / 8
        · rw [if_pos e, if_pos e, e]
        · rw [if_neg e, if_neg e]
      case measure => simp [intOf]; omega
    · have hke : k = n := by omega
      subst hke
      obtain ⟨X, hX⟩ : ∃ X, X = lw (ofB bs k) := ⟨_, rfl⟩
      rw [← hX] at hrow
      have HX := Hid.mk' hX
      have hki : ¬(k : Int) < k := by omega
      clear hX hc hbs
      have hi1 := infoWL X
      have hi2 := infoWA X
      have ho := oneW X
      have hth : wr.there w.heap.size 0 (ints .u64 9 X).toArray.size := by rw [ints_size]; exact hre.there
      go_wp2_with (first
        | (refine wpList_load_mid rfl 83 _ rfl (w.heap.size + 1) 0 rfl (ints .u64 9 X) _ hrow.range Tryd.underlying83 rfl hi1 ?_)
        | (refine wpList_store_mid rfl 83 _ _ rfl w.heap.size 0 (ints .u64 9 X).toArray rfl rfl hth hi2 ho ?_))
      (try simp only [Exit.inBlock, Exit.then])
      refine bodyPost_ret (results_cell_mid Tryd.results59 _ _ w.heap.size 0 (ints .u64 9 X) _ rfl (World.rangeAt_setCells_same _ _ _ _ (by rw [ints_len]; exact hre.there)) Tryd.underlying83 rfl hi1) rfl ⟨by rw [HX.out], ?_⟩
      exact below_setCells (Nat.le_refl _) _ _ _ hb
theorem load_any (v : Value) (n : Nat) (bs : Nat → Nat) (hbs : ∀ j, bs j < 256) (hn : n ≤ 64) (w : World) (hv : BytesIn w v n bs) :
    Calls Tryd.prog 59 #[v] w fun e w' => e = .returned (wideV (lw (ofB bs n))) ∧ Below w.heap.size w w' := by
  rcases hv with ⟨xo, rfl, rfl⟩ | ⟨bb, ob, cap, rfl, h1, h2, h3⟩
  · exact load_at xo 0 0 bs hbs hn w (fun _ _ j hj => absurd hj (Nat.not_lt_zero j))
  · exact load_at _ n cap bs hbs hn w (fun W hW j hj => ⟨bb, ob, rfl, (hW.cell (p := ⟨bb, ob + j, none⟩) h1).trans (h3 j hj)⟩)
set_option maxRecDepth 20000 in
set_option maxHeartbeats 2000000 in
/-- The bytes of the four lowest words. -/
theorem wbytes_any (g : Nat) (N : Nat) (w : World) (hg : g < w.heap.size) (hX : ∀ j, j < 4 → w.cell? ⟨g, j, none⟩ = some (.int .u64 (lw N j))) :
    Calls Tryd.prog 80 #[.pointer (some ⟨g, 0, none⟩)] w fun e w' => ∃ h, e = .returned (.slice (some ⟨h, 0, none⟩) 32 32) ∧ w.heap.size ≤ h ∧ h < w'.heap.size ∧ RowAt .u8 w' h 0 32 (byt N) ∧ Below w.heap.size w w' := by
  have hmk := make_bytes w 32 32 rfl (by decide)
  have hb0 : Below w.heap.size w (w.alloc (.cells (zb 32) 5)) := (Below.refl _ _).alloc (Nat.le_refl _) _
  have hrow0 : RowAt .u8 (w.alloc (.cells (zb 32) 5)) w.heap.size 0 32 (fun _ => 0) := RowAt.fresh (fun j hj => zb_at 32 j hj)
  go_enter Tryd.func80, Tryd.ntmps80
  go_wp2_with (rw [hmk])
  go_loopw [8] (fun i wr => ∃ k : Nat, k ≤ 32 ∧ i = .int .i64 k ∧ RowAt .u8 wr w.heap.size 0 32 (fun j => if j < k then byt N j else 0) ∧ Below w.heap.size w wr ∧ w.heap.size < wr.heap.size) (fun i _ => 32 - (intOf i).toNat)
  case atStart => exact ⟨0, Nat.zero_le _, rfl, hrow0.congr (fun j _ => by simp), hb0, by simp⟩
  case round =>
    clear hrow0 hb0 hmk
    obtain ⟨k, hk, rfl, hrow, hb, hsz⟩ := hrel
    by_cases hlt : k < 32
    · obtain ⟨rk, rf⟩ := hrow k hlt
      rw [Nat.zero_add] at rk rf
      have hc := (hb.cell (p := ⟨g, k / 8, none⟩) hg).trans (hX (k / 8) (by omega))
      have rk0 : wr.cell? ⟨w.heap.size, k, none⟩ = some (.int .u8 0) := by simpa using rk
      clear rk hX
      go_wp2
      go_roundw
      case rel =>
        have h1 := hrow.set (i := k) hlt (v := (lw N (k / 8) : Int) / 2 ^ (k % 8 * 8) % 256) (u := byt N k) (word_byte_int N k)
        rw [Nat.zero_add] at h1
        refine ⟨k + 1, by omega, by go_num, h1.congr (fun j hj => ?_), hb.setCell (Nat.le_refl _) _, by simpa using hsz⟩
        unfold upd
        by_cases e : j = k
        · rw [if_pos e, if_pos (by omega), e]
        · rw [if_neg e]
          show (if j < k then byt N j else 0) = _
          by_cases e2 : j < k
          · rw [if_pos e2, if_pos (by omega)]
          · rw [if_neg e2, if_neg (by omega)]
      case measure => simp [intOf]; omega
    · clear hX
      go_wp2
      go_ret
      exact ⟨w.heap.size, rfl, Nat.le_refl _, hsz, hrow.congr (fun j hj => by rw [if_pos (by omega)]), hb⟩
end Go.Proofs.YteekjcfbnoakgaaDoor
namespace Go.Proofs.YteekjcfbnoakgaaDoor
/-- The order of the curve's points. -/
def oL : Nat := 7237005577332262213973186563042994240857116359379907606001950938285454250989
/-- Its words. -/
def Lw (j : Nat) : Nat := if j = 0 then 6346243789798364141 else if j = 1 then 1503914060200516822 else if j = 3 then 1152921504606846976 else 0
theorem Lw_lt (j : Nat) : Lw j < 18446744073709551616 := by
  unfold Lw; split
  · decide
  · split
    · decide
    · split <;> decide
/-- The number of k words from a on. -/
def pt (X : Nat → Nat) (a : Nat) : Nat → Nat
  | 0 => 0
  | k + 1 => pt X a k + X (a + k) * 18446744073709551616 ^ k
theorem pt_succ0 (X : Nat → Nat) (m : Nat) : pt X 0 (m + 1) = pt X 0 m + X m * 18446744073709551616 ^ m := by rw [pt, Nat.zero_add]
theorem pt5 (X : Nat → Nat) (a : Nat) : pt X a 5 = pt X a 4 + X (a + 4) * 18446744073709551616 ^ 4 := rfl
theorem pt_L : pt Lw 0 4 = oL := by kernel_rfl
theorem pt_congr {X Y : Nat → Nat} {a : Nat} : ∀ k, (∀ j, j < k → X (a + j) = Y (a + j)) → pt X a k = pt Y a k
  | 0, _ => rfl
  | k + 1, h => by rw [pt, pt, pt_congr k (fun j hj => h j (by omega)), h k (by omega)]
theorem pt_lt {X : Nat → Nat} (h : ∀ j, X j < 18446744073709551616) (a : Nat) : ∀ k, pt X a k < 18446744073709551616 ^ k
  | 0 => Nat.one_pos
  | k + 1 => by
    have h1 := pt_lt h a k
    have h2 : X (a + k) * 18446744073709551616 ^ k ≤ 18446744073709551615 * 18446744073709551616 ^ k := Nat.mul_le_mul_right _ (by have := h (a + k); omega)
    rw [pt, Nat.pow_succ]
    omega
theorem pt_split (X : Nat → Nat) (a m : Nat) : ∀ k, pt X a (m + k) = pt X a m + 18446744073709551616 ^ m * pt X (a + m) k
  | 0 => by rw [pt, Nat.mul_zero, Nat.add_zero, Nat.add_zero]
  | k + 1 => by
    rw [← Nat.add_assoc, pt, pt_split X a m k, pt, Nat.mul_add, Nat.pow_add, ← Nat.add_assoc, ← Nat.add_assoc]
    congr 1
    rw [← Nat.mul_assoc, ← Nat.mul_assoc, Nat.mul_comm (X (a + m + k))]
theorem pt_head (X : Nat → Nat) (a k : Nat) : pt X a (k + 1) = X a + 18446744073709551616 * pt X (a + 1) k := by
  rw [Nat.add_comm k 1, pt_split X a 1 k, pt, pt]
  simp
theorem pt_zero {X : Nat → Nat} {a : Nat} : ∀ k, (∀ j, j < k → X (a + j) = 0) → pt X a k = 0
  | 0, _ => rfl
  | k + 1, h => by rw [pt, pt_zero k (fun j hj => h j (by omega)), h k (by omega), Nat.zero_mul]
/-- The words of a number. -/
theorem pt_lw (N : Nat) : ∀ k, pt (lw N) 0 k = N % 18446744073709551616 ^ k
  | 0 => by rw [pt, Nat.pow_zero, Nat.mod_one]
  | k + 1 => by
    rw [pt, pt_lw N k, Nat.pow_succ, Nat.mod_mul, Nat.zero_add]
    unfold lw
    rw [Nat.mul_comm]
theorem lw_pt {X : Nat → Nat} (h : ∀ j, X j < 18446744073709551616) : ∀ k j, j < k → lw (pt X 0 k) j = X j
  | 0, _, hj => absurd hj (Nat.not_lt_zero _)
  | k + 1, j, hj => by
    rw [pt, Nat.zero_add]
    unfold lw
    by_cases e : j = k
    · subst e
      rw [Nat.mul_comm, Nat.add_mul_div_left _ _ (Nat.pow_pos (by decide)), Nat.div_eq_of_lt (pt_lt h 0 j), Nat.zero_add, Nat.mod_eq_of_lt (h j)]
    · have hj2 : j < k := by omega
      have e2 : k = j + (1 + (k - j - 1)) := by omega
      have : 18446744073709551616 ^ k = 18446744073709551616 ^ j * (18446744073709551616 * 18446744073709551616 ^ (k - j - 1)) := by
        conv => lhs; rw [e2]
        rw [Nat.pow_add, Nat.pow_add, Nat.pow_one]
      rw [Nat.mul_comm (X k), this, Nat.mul_assoc, Nat.add_mul_div_left _ _ (Nat.pow_pos (by decide)), Nat.mul_assoc, Nat.add_mul_mod_self_left]
      exact lw_pt h k j hj2
/-- One word of a product less. -/
theorem take_step {P pz pl px q l0 h0 c b u s k1 b' x Lk : Nat} (inv : pz + q * pl = px + P * (c + b)) (e0 : l0 + 18446744073709551616 * h0 = q * Lk) (e1 : s + 18446744073709551616 * k1 = l0 + c) (e2 : u + s + b = x + 18446744073709551616 * b') :
    (pz + u * P) + q * (pl + Lk * P) = (px + x * P) + P * 18446744073709551616 * ((h0 + k1) + b') := by
  have key : (u + (l0 + 18446744073709551616 * h0) + (c + b)) * P = (x + 18446744073709551616 * ((h0 + k1) + b')) * P := by congr 1; omega
  rw [Nat.mul_add q, ← Nat.mul_assoc q Lk P, ← e0]
  rw [Nat.add_mul, Nat.add_mul, Nat.add_mul x] at key
  rw [Nat.mul_comm P (c + b)] at inv
  rw [Nat.mul_assoc P, Nat.mul_comm P (18446744073709551616 * (h0 + k1 + b'))]
  omega
/-- One word of a product more. -/
theorem add_step {P V px x y pb Pi Pj h0 l0 l1 k1 l2 k2 c xm : Nat} (hP : P = Pi * Pj) (inv : px + c * P = V + x * pb * Pi) (e0 : l0 + 18446744073709551616 * h0 = x * y) (e1 : l1 + 18446744073709551616 * k1 = l0 + xm) (e2 : l2 + 18446744073709551616 * k2 = l1 + c) {px' : Nat} (hpx : px' + xm * P = px + l2 * P) :
    px' + (h0 + k1 + k2) * (P * 18446744073709551616) = V + x * (pb + y * Pj) * Pi := by
  have key : (l2 + 18446744073709551616 * (h0 + k1 + k2)) * P = ((l0 + 18446744073709551616 * h0) + xm + c) * P := by congr 1; omega
  rw [e0, Nat.add_mul, Nat.add_mul, Nat.add_mul] at key
  have e3 : x * (pb + y * Pj) * Pi = x * pb * Pi + x * y * P := by
    rw [Nat.mul_add, Nat.add_mul, hP, ← Nat.mul_assoc x y Pj, Nat.mul_assoc (x * y), Nat.mul_comm Pj Pi]
  have e4 : (h0 + k1 + k2) * (P * 18446744073709551616) = 18446744073709551616 * (h0 + k1 + k2) * P := by
    rw [Nat.mul_comm P, ← Nat.mul_assoc, Nat.mul_comm (h0 + k1 + k2)]
  rw [e3, e4]
  omega
theorem pt_upd (X : Nat → Nat) (i v a : Nat) : ∀ k, i < k → pt (upd X (a + i) v) a k + X (a + i) * 18446744073709551616 ^ i = pt X a k + v * 18446744073709551616 ^ i
  | 0, h => absurd h (Nat.not_lt_zero _)
  | k + 1, h => by
    rw [pt, pt]
    by_cases e : i = k
    · subst e
      have h1 : pt (upd X (a + i) v) a i = pt X a i := pt_congr i (fun j hj => by unfold upd; rw [if_neg (by omega)])
      have h2 : upd X (a + i) v (a + i) = v := by unfold upd; rw [if_pos rfl]
      rw [h1, h2]
      omega
    · have h1 := pt_upd X i v a k (by omega)
      have h2 : upd X (a + i) v (a + k) = X (a + k) := by unfold upd; rw [if_neg (by omega)]
      rw [h2]
      omega
end Go.Proofs.YteekjcfbnoakgaaDoor
namespace Go.Proofs.YteekjcfbnoakgaaDoor
open Go.RowKit
/-- The package's order lies where the program's text lays it. -/
def Ord (w : World) : Prop := ∀ j, j < 4 → w.cell? ⟨0, j, none⟩ = some (.int .u64 (Lw j))
theorem Ord.lt {w : World} (h : Ord w) : 0 < w.heap.size := block_lt_of_cell (h 0 (by decide))
theorem Ord.below {B : Nat} {w w' : World} (h : Ord w) (hb : Below B w w') (hB : 0 < B) : Ord w' := fun j hj => (hb.cell (p := ⟨0, j, none⟩) hB).trans (h j hj)
theorem Ord.still {w w' : World} (h : Ord w) (hb : Below w.heap.size w w') : Ord w' := h.below hb h.lt
theorem Ord.out {g o n : Nat} {w w' : World} (h : Ord w) (hb : Out g o n w w') (hg : g ≠ 0) : Ord w' := fun j hj => (hb.cell' h.lt (Ne.symm hg)).trans (h j hj)
theorem Ord.range {w : World} (h : Ord w) : w.rangeAt 0 0 (ints .u64 4 Lw) := fun j v hv => by
  have hj : j < 4 := by have := (List.getElem?_eq_some_iff.1 hv).1; rwa [ints_len] at this
  rw [ints_at _ _ _ j hj] at hv
  rw [← hv, Nat.zero_add]; exact h j hj
set_option maxRecDepth 20000 in
theorem index4 (X : Nat → Nat) (k : Nat) (hk : k < 4) (W : World) : (Instr.index 25 (.agg (ints .u64 4 X).toArray) (.int .i64 k)).run Tryd.prog W = .ok (.int .u64 (X k)) W := by
  have h : k = 0 ∨ k = 1 ∨ k = 2 ∨ k = 3 := by omega
  rcases h with rfl | rfl | rfl | rfl <;> rfl
set_option maxRecDepth 20000 in
set_option maxHeartbeats 2000000 in
theorem take_any (g a q : Nat) (X : Nat → Nat) (ha : a ≤ 4) (hq : q < 18446744073709551616) (hX : ∀ j, X j < 18446744073709551616) (hV : q * oL ≤ pt X a 5) (w : World) (hrow0 : RowAt .u64 w g 0 9 X) (hO : Ord w) :
    Calls Tryd.prog 78 #[.pointer (some ⟨g, 0, none⟩), .int .i64 a, .int .u64 q] w fun e w' => e = .returned (.tuple #[]) ∧ ∃ Y, RowAt .u64 w' g 0 9 Y ∧ (∀ j, Y j < 18446744073709551616) ∧ (∀ j, (j < a ∨ a + 5 ≤ j) → Y j = X j) ∧ pt Y a 5 + q * oL = pt X a 5 ∧ Out g 0 9 w w' := by
  have hi4 : (Tryd.prog.info? 25).map (·.size) = some (ints .u64 4 Lw).length := by kernel_rfl
  have hOr := hO.range
  go_enter Tryd.func78, Tryd.ntmps78
  go_wp2_with (refine wpList_load_mid rfl 25 _ rfl 0 0 rfl (ints .u64 4 Lw) _ hOr Tryd.underlying25 rfl hi4 ?_)
  go_loopw [14, 6, 7] (fun i c b wr => ∃ (k C D : Nat) (Z : Nat → Nat), k ≤ 4 ∧ i = .int .i64 k ∧ c = .int .u64 C ∧ b = .int .u64 D ∧ C < 18446744073709551616 ∧ D ≤ 1 ∧ RowAt .u64 wr g 0 9 Z ∧ (∀ j, Z j < 18446744073709551616) ∧ (∀ j, (j < a ∨ a + k ≤ j) → Z j = X j) ∧ pt Z a k + q * pt Lw 0 k = pt X a k + 18446744073709551616 ^ k * (C + D) ∧ Out g 0 9 w wr) (fun i _ _ _ => 4 - (intOf i).toNat)
  case atStart => exact ⟨0, 0, 0, X, by decide, rfl, rfl, rfl, by decide, by decide, hrow0, hX, fun _ _ => rfl, by simp [pt], Out.refl _ _ _ _⟩
  case round =>
    clear hrow0 hOr
    obtain ⟨k, C, D, Z, hk, rfl, rfl, rfl, hC, hD, hrow, hZ, hZX, hinv, hout⟩ := hrel
    by_cases hlt : k < 4
    · obtain ⟨rk, rf⟩ := hrow (a + k) (by omega)
      rw [Nat.zero_add] at rk rf
      obtain ⟨h0, l0, hh0, hl0, e0, r0⟩ := mul64_ex q (Lw k) hq (Lw_lt k)
      obtain ⟨l1, k1, hl1, hk1, e1, r1⟩ := add64_ex0 l0 C hl0 hC
      obtain ⟨u, b', hu, hb', e2, r2⟩ := sub64_ex (Z (a + k)) l1 D (hZ _) hl1 hD
      have r0' := r0 wr
      have hstep := Hid.mk' (take_step hinv e0 e1 e2)
      have hix := index4 Lw k hlt
      have b1 : h0 + k1 < 18446744073709551616 := by omega
      have qw : IntKind.i64.wrap ((a : Int) + k) = (a : Int) + k := by simp only [IntKind.wrap_i64]; omega
      have q1 : ((a : Int) + k).toNat = a + k := by omega
      have q2 : (0 : Int) ≤ (a : Int) + k ∧ (a : Int) + k < 9 := by omega
      have HZX := Hid.mk' hZX
      clear e0 e1 e2 r0 hinv hV hZX
      go_wp2_with (first
        | (go_at_call 76; refine r0'.mono ?_; clear r0'; rintro e w' ⟨rfl, rfl⟩)
        | rw [r1]
        | rw [hix])
      go_region_with (rw [r2])
      go_wp2
      go_roundw
      case rel =>
        have h1 := (hrow.set (i := a + k) (by omega) (v := (u : Int)) (u := u) rfl).drew
        rw [Nat.zero_add] at h1
        have eZ : Z (a + k) = X (a + k) := HZX.out (a + k) (.inr (Nat.le_refl _))
        refine ⟨k + 1, h0 + k1, b', upd Z (a + k) u, by omega, by go_num, by go_num, rfl, b1, hb', h1, fun j => ?_, fun j hj => ?_, ?_, hout.trans ((Out.setCell w' _ (by omega) (by omega)).trans (Out.drew _))⟩
        · unfold upd; split
          · exact hu
          · exact hZ j
        · unfold upd; rw [if_neg (by omega)]; exact HZX.out j (by omega)
        · have hs := hstep.out
          have e3 : pt (upd Z (a + k) u) a k = pt Z a k := pt_congr k (fun j hj => by unfold upd; rw [if_neg (by omega)])
          have e4 : upd Z (a + k) u (a + k) = u := by unfold upd; rw [if_pos rfl]
          rw [pt, pt, pt, e3, e4, Nat.pow_succ, ← eZ, Nat.zero_add]
          exact hs
      case measure => simp [intOf]; omega
    · have hke : k = 4 := by omega
      subst hke
      obtain ⟨rk, rf⟩ := hrow (a + 4) (by omega)
      rw [Nat.zero_add] at rk rf
      have HZX := Hid.mk' hZX
      have hinv' := Hid.mk' hinv
      have hVH := Hid.mk' hV
      have qw : IntKind.i64.wrap ((a : Int) + 4) = (a : Int) + 4 := by simp only [IntKind.wrap_i64]; omega
      have q1 : ((a : Int) + 4).toNat = a + 4 := by omega
      have q2 : (0 : Int) ≤ (a : Int) + 4 ∧ (a : Int) + 4 < 9 := by omega
      clear hZX hinv hV
      have hCD : C + D ≤ Z (a + 4) := by
        have h1 := hinv'.out
        have h2 := hVH.out
        have h3 := pt_lt hZ a 4
        rw [pt, ← HZX.out (a + 4) (.inr (Nat.le_refl _))] at h2
        rw [pt_L] at h1
        simp only [Nat.reducePow] at h1 h2 h3
        generalize q * oL = T at h1 h2
        omega
      have hZa := hZ (a + 4)
      have hfin := (hrow.set (i := a + 4) (by omega) (v := (Z (a + 4) : Int) - ((C : Int) + D)) (u := Z (a + 4) - (C + D)) (by omega)).drew
      rw [Nat.zero_add] at hfin
      have hfin' := Hid.mk' hfin
      clear hfin
      go_wp2
      go_region
      go_wp2
      go_end0
      refine ⟨rfl, upd Z (a + 4) (Z (a + 4) - (C + D)), hfin'.out, fun j => ?_, fun j hj => ?_, ?_, hout.trans ((Out.setCell wr _ (by omega) (by omega)).trans (Out.drew _))⟩
      · unfold upd; split
        · omega
        · exact hZ j
      · unfold upd; rw [if_neg (by omega)]; exact HZX.out j (by omega)
      · have h1 := hinv'.out
        have e3 : pt (upd Z (a + 4) (Z (a + 4) - (C + D))) a 4 = pt Z a 4 := pt_congr 4 (fun j hj => by unfold upd; rw [if_neg (by omega)])
        have e4 : upd Z (a + 4) (Z (a + 4) - (C + D)) (a + 4) = Z (a + 4) - (C + D) := by unfold upd; rw [if_pos rfl]
        rw [pt5 X, pt5, e3, e4, ← HZX.out (a + 4) (.inr (Nat.le_refl _))]
        rw [pt_L] at h1
        simp only [Nat.reducePow] at h1 ⊢
        generalize q * oL = T at h1 ⊢
        omega
end Go.Proofs.YteekjcfbnoakgaaDoor
namespace Go.Proofs.YteekjcfbnoakgaaDoor
open Go.RowKit
/-- What is taken away first: the quotient by 2^252 less one, but not below 0. -/
def guessN (X : Nat → Nat) (a : Nat) : Nat := X (a + 4) * 16 + X (a + 3) / 1152921504606846976 - 1
theorem guess_bits (T U : Nat) (hT : T ≤ 1152921504606846976) (hU : U < 18446744073709551616) (h0 : ¬(T = 0 ∧ U / 1152921504606846976 = 0)) (h1 : T * 16 + U / 1152921504606846976 ≤ 18446744073709551616) :
    IntKind.u64.wrap (bits .or .u64 (IntKind.u64.wrap ((T : Int) * 16)) ((U : Int) / 1152921504606846976) - 1) = ((T * 16 + U / 1152921504606846976 - 1 : Nat) : Int) := by
  have e2 : (U : Int) / 1152921504606846976 = ((U / 1152921504606846976 : Nat) : Int) := by omega
  have hl : U / 1152921504606846976 < 16 := by omega
  rw [e2]
  generalize U / 1152921504606846976 = l at *
  by_cases hT2 : T = 1152921504606846976
  · have hl0 : l = 0 := by omega
    subst hT2 hl0
    decide
  · have e1 : IntKind.u64.wrap ((T : Int) * 16) = ((T * 16 : Nat) : Int) := by rw [IntKind.wrap_u64]; omega
    rw [e1, bits_or_u64_nat _ _ (by omega) (by omega)]
    have e3 : T * 16 ||| l = T * 16 + l := by
      have := Nat.two_pow_add_eq_or_of_lt (i := 4) (b := l) (by omega) T
      rw [Nat.mul_comm T 16]
      exact this.symm
    rw [e3, IntKind.wrap_u64]
    omega
set_option maxRecDepth 20000 in
set_option maxHeartbeats 2000000 in
theorem guess_any (g a : Nat) (X : Nat → Nat) (ha : a ≤ 4) (hX : ∀ j, X j < 18446744073709551616) (hT : X (a + 4) ≤ 1152921504606846976) (hg' : X (a + 4) * 16 + X (a + 3) / 1152921504606846976 ≤ 18446744073709551616) (w : World) (hrow : RowAt .u64 w g 0 9 X) :
    Calls Tryd.prog 79 #[.pointer (some ⟨g, 0, none⟩), .int .i64 a] w fun e w' => e = .returned (.int .u64 (guessN X a)) ∧ Below w.heap.size w w' := by
  obtain ⟨r4, -⟩ := hrow (a + 4) (by omega)
  obtain ⟨r3, -⟩ := hrow (a + 3) (by omega)
  rw [Nat.zero_add] at r4 r3
  have qw : IntKind.i64.wrap ((a : Int) + 4) = (a : Int) + 4 := by simp only [IntKind.wrap_i64]; omega
  have q1 : ((a : Int) + 4).toNat = a + 4 := by omega
  have q2 : (0 : Int) ≤ (a : Int) + 4 ∧ (a : Int) + 4 < 9 := by omega
  have pw : IntKind.i64.wrap ((a : Int) + 3) = (a : Int) + 3 := by simp only [IntKind.wrap_i64]; omega
  have p1 : ((a : Int) + 3).toNat = a + 3 := by omega
  have p2 : (0 : Int) ≤ (a : Int) + 3 ∧ (a : Int) + 3 < 9 := by omega
  have hU := hX (a + 3)
  have key := fun h0 => guess_bits (X (a + 4)) (X (a + 3)) hT hU h0 hg'
  unfold guessN
  generalize X (a + 4) = T at *
  generalize X (a + 3) = U at *
  clear hX hrow
  by_cases hc : T = 0
  · subst hc
    by_cases hd : U / 1152921504606846976 = 0
    · have hd' : (U : Int) / 1152921504606846976 = 0 := by omega
      clear key
      have hret : Ending.returned (.int .u64 0) = Ending.returned (.int .u64 ((0 * 16 + U / 1152921504606846976 - 1 : Nat) : Int)) := by rw [hd]; rfl
      have hret' := Hid.mk' hret
      clear hret hd
      go_enter Tryd.func79, Tryd.ntmps79
      go_wp2
      go_region
      go_wp2
      go_ret
      exact ⟨hret'.out, (Below.refl _ _).drew⟩
    · have hd' : ¬(U : Int) / 1152921504606846976 = 0 := by omega
      have key0 := key (fun h => hd h.2)
      rw [show IntKind.u64.wrap (((0 : Nat) : Int) * 16) = 0 by decide] at key0
      have key' := Hid.mk' key0
      clear key key0 hd
      go_enter Tryd.func79, Tryd.ntmps79
      go_wp2
      go_region
      go_wp2
      go_ret
      exact ⟨retInt key'.out, (Below.refl _ _).drew⟩
  · have hc' : ¬(T : Int) = 0 := by omega
    have key' := Hid.mk' (key (fun h => hc h.1))
    clear key hc
    go_enter Tryd.func79, Tryd.ntmps79
    go_wp2
    go_region
    go_wp2
    go_ret
    exact ⟨retInt key'.out, (Below.refl _ _).drew⟩
end Go.Proofs.YteekjcfbnoakgaaDoor
namespace Go.Proofs.YteekjcfbnoakgaaDoor
theorem pt5' (X : Nat → Nat) (a : Nat) : pt X a 5 = pt X a 3 + X (a + 3) * 6277101735386680763835789423207666416102355444464034512896 + X (a + 4) * 115792089237316195423570985008687907853269984665640564039457584007913129639936 := rfl
/-- The guess is the quotient, or one less. -/
theorem guess_good (X : Nat → Nat) (a : Nat) (hX : ∀ j, X j < 18446744073709551616) (hV : pt X a 5 < 18446744073709551616 * oL) :
    X (a + 4) ≤ 1152921504606846976 ∧ X (a + 4) * 16 + X (a + 3) / 1152921504606846976 ≤ 18446744073709551616 ∧ guessN X a < 18446744073709551616 ∧ guessN X a * oL ≤ pt X a 5 ∧ pt X a 5 < guessN X a * oL + 2 * oL := by
  have h3 := pt_lt hX a 3
  have hx3 := hX (a + 3)
  have hx4 := hX (a + 4)
  rw [pt5'] at hV ⊢
  unfold guessN oL at *
  simp only [Nat.reducePow] at h3
  generalize pt X a 3 = P at *
  generalize X (a + 3) = U at *
  generalize X (a + 4) = T at *
  clear hX
  refine ⟨?_, ?_, ?_, ?_, ?_⟩ <;> omega
theorem pt_take {X Y : Nat → Nat} {a q : Nat} (ha : a ≤ 4) (hout : ∀ j, (j < a ∨ a + 5 ≤ j) → Y j = X j) (h : pt Y a 5 + q * oL = pt X a 5) : pt Y 0 9 % oL = pt X 0 9 % oL := by
  have key : ∀ Z, pt Z 0 9 = pt Z 0 a + 18446744073709551616 ^ a * (pt Z a 5 + 18446744073709551616 ^ 5 * pt Z (a + 5) (4 - a)) := fun Z => by
    have h1 := pt_split Z 0 a (5 + (4 - a))
    rw [show a + (5 + (4 - a)) = 9 by omega, Nat.zero_add, pt_split Z a 5 (4 - a)] at h1
    exact h1
  have e1 : pt Y 0 a = pt X 0 a := pt_congr a (fun j hj => hout _ (by omega))
  have e2 : pt Y (a + 5) (4 - a) = pt X (a + 5) (4 - a) := pt_congr _ (fun j hj => hout _ (by omega))
  rw [key Y, key X, e1, e2, ← h]
  have e3 : pt X 0 a + 18446744073709551616 ^ a * (pt Y a 5 + q * oL + 18446744073709551616 ^ 5 * pt X (a + 5) (4 - a)) = (pt X 0 a + 18446744073709551616 ^ a * (pt Y a 5 + 18446744073709551616 ^ 5 * pt X (a + 5) (4 - a))) + oL * (18446744073709551616 ^ a * q) := by
    rw [Nat.mul_add, Nat.mul_add, Nat.mul_add, Nat.mul_comm q oL, ← Nat.mul_assoc, ← Nat.mul_assoc oL, Nat.mul_comm oL, Nat.mul_assoc (18446744073709551616 ^ a) oL q]
    omega
  rw [e3, Nat.add_mul_mod_self_left]
/-- Two numbers of four words: by their words from the highest on. -/
theorem pt_le {X : Nat → Nat} {a : Nat} (hX : ∀ j, X j < 18446744073709551616) {m : Nat} (hm : m < 4) (heq : ∀ k, m < k → k < 4 → X (a + k) = Lw k) : (X (a + m) < Lw m → pt X a 4 < oL) ∧ (Lw m < X (a + m) → oL ≤ pt X a 4) := by
  have e : ∀ Z : Nat → Nat, pt Z a 4 = pt Z a m + Z (a + m) * 18446744073709551616 ^ m + 18446744073709551616 ^ (m + 1) * pt Z (a + (m + 1)) (3 - m) := fun Z => by
    have h1 := pt_split Z a (m + 1) (3 - m)
    rw [show m + 1 + (3 - m) = 4 by omega, pt] at h1
    exact h1
  have e' : oL = pt Lw 0 m + Lw m * 18446744073709551616 ^ m + 18446744073709551616 ^ (m + 1) * pt Lw (m + 1) (3 - m) := by
    have h1 := pt_split Lw 0 (m + 1) (3 - m)
    rw [show m + 1 + (3 - m) = 4 by omega, pt_L, pt, Nat.zero_add, Nat.zero_add] at h1
    exact h1
  have e2 : ∀ n, n ≤ 3 - m → pt X (a + (m + 1)) n = pt Lw (m + 1) n := fun n => by
    induction n with
    | zero => intro _; rfl
    | succ n ih =>
      intro hn
      rw [pt, pt, ih (by omega)]
      have := heq (m + 1 + n) (by omega) (by omega)
      rw [show a + (m + 1) + n = a + (m + 1 + n) by omega, this]
  have l1 := pt_lt hX a m
  have l2 := pt_lt Lw_lt 0 m
  rw [e X, e', e2 _ (Nat.le_refl _)]
  generalize 18446744073709551616 ^ (m + 1) * pt Lw (m + 1) (3 - m) = H
  generalize 18446744073709551616 ^ m = P at *
  constructor
  · intro h
    have := Nat.mul_le_mul_right P (show X (a + m) + 1 ≤ Lw m by omega)
    rw [Nat.add_mul, Nat.one_mul] at this
    omega
  · intro h
    have := Nat.mul_le_mul_right P (show Lw m + 1 ≤ X (a + m) by omega)
    rw [Nat.add_mul, Nat.one_mul] at this
    omega
theorem pt_eq {X : Nat → Nat} {a : Nat} (heq : ∀ k, k < 4 → X (a + k) = Lw k) : pt X a 4 = oL := by
  rw [← pt_L]
  have : ∀ n, n ≤ 4 → pt X a n = pt Lw 0 n := fun n => by
    induction n with
    | zero => intro _; rfl
    | succ n ih => intro hn; rw [pt, pt, ih (by omega), heq n (by omega), Nat.zero_add]
  exact this 4 (Nat.le_refl _)
theorem top_zero {X : Nat → Nat} {a : Nat} (h : pt X a 5 < 2 * oL) : X (a + 4) = 0 ∧ pt X a 4 = pt X a 5 := by
  rw [pt5] at *
  unfold oL at h
  simp only [Nat.reducePow] at *
  omega
theorem low_lt {X : Nat → Nat} {a : Nat} (hX : ∀ j, X j < 18446744073709551616) (h : pt X (a + 1) 4 < oL) : pt X a 5 < 18446744073709551616 * oL := by
  rw [pt_head]
  have := hX a
  unfold oL at *
  omega
theorem pt_tail {X : Nat → Nat} (m : Nat) : ∀ k, (∀ j, m ≤ j → j < m + k → X j = 0) → pt X 0 (m + k) = pt X 0 m
  | 0, _ => rfl
  | k + 1, h => by rw [← Nat.add_assoc, pt, pt_tail m k (fun j h1 h2 => h j h1 (by omega)), Nat.zero_add, h (m + k) (by omega) (by omega), Nat.zero_mul, Nat.add_zero]
theorem pt_tail9 {X : Nat → Nat} (h : ∀ j, 4 ≤ j → j < 9 → X j = 0) : pt X 0 9 = pt X 0 4 := pt_tail 4 5 h
theorem pt_fin {X : Nat → Nat} {N : Nat} (h : ∀ j, 4 ≤ j → j < 9 → X j = 0) (hl : pt X 0 4 < oL) (hm : pt X 0 9 % oL = N) : N = pt X 0 9 := by
  have e := pt_tail9 h
  rw [e] at hm ⊢
  rw [← hm]
  exact Nat.mod_eq_of_lt hl
end Go.Proofs.YteekjcfbnoakgaaDoor
namespace Go.Proofs.YteekjcfbnoakgaaDoor
open Go.RowKit
/-- What a step keeps. -/
theorem st_take {X Y : Nat → Nat} {a q N : Nat} (ha : a ≤ 4) (hz : ∀ j, a + 1 + 4 ≤ j → j < 9 → X j = 0) (hm : pt X 0 9 % oL = N) (hout : ∀ j, (j < a ∨ a + 5 ≤ j) → Y j = X j) (h : pt Y a 5 + q * oL = pt X a 5) :
    (∀ j, a + 1 + 4 ≤ j → j < 9 → Y j = 0) ∧ pt Y 0 9 % oL = N :=
  ⟨fun j h1 h2 => (hout j (by omega)).trans (hz j h1 h2), (pt_take ha hout h).trans hm⟩
theorem st_next {Y : Nat → Nat} {a : Nat} (hz : ∀ j, a + 1 + 4 ≤ j → j < 9 → Y j = 0) (h : pt Y a 5 < oL) : (∀ j, a + 4 ≤ j → j < 9 → Y j = 0) ∧ pt Y a 4 < oL := by
  obtain ⟨h1, h2⟩ := top_zero (X := Y) (a := a) (by omega)
  refine ⟨fun j hj h9 => ?_, by omega⟩
  by_cases e : j = a + 4
  · rw [e]; exact h1
  · exact hz j (by omega) h9
set_option maxRecDepth 20000 in
set_option maxHeartbeats 4000000 in
theorem rest_any (g : Nat) (X0 : Nat → Nat) (hX0 : ∀ j, X0 j < 18446744073709551616) (h8 : X0 8 = 0) (w : World) (hrow0 : RowAt .u64 w g 0 9 X0) (hO0 : Ord w) (hg : g ≠ 0) :
    Calls Tryd.prog 61 #[.pointer (some ⟨g, 0, none⟩)] w fun e w' => ∃ h, e = .returned (.slice (some ⟨h, 0, none⟩) 32 32) ∧ w.heap.size ≤ h ∧ h < w'.heap.size ∧ RowAt .u8 w' h 0 32 (byt (pt X0 0 9 % oL)) ∧ Out g 0 9 w w' := by
  have hgl : g < w.heap.size := block_lt_of_cell (hrow0 0 (by decide)).1
  have hst : pt X0 5 4 < oL := by
    have h1 := pt_lt hX0 5 3
    have h2 : pt X0 5 4 = pt X0 5 3 + X0 8 * 18446744073709551616 ^ 3 := rfl
    rw [h8] at h2
    simp only [Nat.reducePow] at h1 h2
    unfold oL
    omega
  obtain ⟨N, hN⟩ : ∃ N, N = pt X0 0 9 % oL := ⟨_, rfl⟩
  rw [← hN]
  have hNl : N < oL := by rw [hN]; exact Nat.mod_lt _ (by decide)
  go_enter Tryd.func61, Tryd.ntmps61
  go_wp2
  go_step3
  go_wp2
  go_step3
  go_wp2
  go_loopw [3] (fun i wr => ∃ (n : Nat) (X : Nat → Nat), n ≤ 5 ∧ i = .int .i64 ((n : Int) - 1) ∧ RowAt .u64 wr g 0 9 X ∧ (∀ j, X j < 18446744073709551616) ∧ (∀ j, n + 4 ≤ j → j < 9 → X j = 0) ∧ pt X n 4 < oL ∧ pt X 0 9 % oL = N ∧ Ord wr ∧ Out g 0 9 w wr) (fun i _ => (intOf i + 1).toNat)
  case atStart => exact ⟨5, X0, by decide, rfl, hrow0, hX0, fun j h1 h2 => absurd h2 (by omega), hst, hN.symm, hO0, Out.refl _ _ _ _⟩
  case round =>
    clear hrow0 hX0 h8 hO0 hst hN
    obtain ⟨n, X, hn, rfl, hrow, hX, hz, hlt, hmod, hO, hout⟩ := hrel
    by_cases h0 : n = 0
    · subst h0
      have hgw : g < wr.heap.size := by have := hout.size; omega
      have eN : N = pt X 0 9 := pt_fin (fun j h1 h2 => hz j (by omega) h2) hlt hmod
      have cb := wbytes_any g N wr hgw (fun j hj => by
        have := (hrow j (by omega)).1
        rw [Nat.zero_add] at this
        rw [this, eN, lw_pt hX 9 j (by omega)])
      clear hz hmod eN hlt hX hrow hNl hO
      go_wp2_with (go_at_call 80; refine cb.mono ?_; clear cb; rintro e w1 ⟨h, rfl, hh1, hh2, hr1, hb1⟩)
      rw [Exit.noGoto_ret]
      go_ret
      exact ⟨h, rfl, by have := hout.size; omega, hh2, hr1, hout.trans (Out.of_below hb1 hgw)⟩
    · obtain ⟨a, rfl⟩ : ∃ a, n = a + 1 := ⟨n - 1, by omega⟩
      have ea : (((a + 1 : Nat) : Int) - 1) = (a : Int) := by omega
      rw [ea]
      have hV := low_lt hX hlt
      obtain ⟨g1, g2, g3, g4, g5⟩ := guess_good X a hX hV
      have cg := guess_any g a X (by omega) hX g1 g2 wr hrow
      have ct := fun W (hr : RowAt .u64 W g 0 9 X) hOW => take_any g a (guessN X a) X (by omega) g3 hX g4 W hr hOW
      generalize guessN X a = q at *
      have hai : (a : Int) ≥ 0 := by omega
      have HZ := Hid.mk' hz
      have HM := Hid.mk' hmod
      clear hz hmod
      go_wp2_with (first
        | (go_at_call 79; refine cg.mono ?_; clear cg; rintro e w1 ⟨rfl, hb1⟩; (have hr1 := hrow.below hb1 (by have := hout.size; omega)); (have hO1 := hO.still hb1); (have ho1 := hout.trans (Out.of_below hb1 (by have := hout.size; omega))); replace ct := ct w1 hr1 hO1)
        | (go_at_call 78; refine ct.mono ?_; clear ct; rintro e w2 ⟨rfl, Y, hr2, hY, hYX, hpt, ho2⟩; (have hO2 := hO1.out ho2 hg); (have ho := ho1.trans ho2)))
      have hP2 : pt Y a 5 < 2 * oL := by omega
      obtain ⟨hY4, hP4⟩ := top_zero hP2
      have SY := Hid.mk' (st_take (by omega) HZ.out HM.out hYX hpt)
      have ct2 := fun W (hr : RowAt .u64 W g 0 9 Y) hOW (h : oL ≤ pt Y a 4) => take_any g a 1 Y (by omega) (by decide) hY (by rw [Nat.one_mul, ← hP4]; exact h) W hr hOW
      have hP2' := Hid.mk' hP2
      have hP4' := Hid.mk' hP4
      clear hYX hpt hV hlt g1 g2 g3 g4 g5 hX hrow hO hout hr1 hO1 ho1 hb1 ho2 HZ HM hP2 hP4 hY4
      go_loopw [4] (fun i wt => ∃ m : Nat, m ≤ 4 ∧ i = .int .i64 ((m : Int) - 1) ∧ (∀ k, m ≤ k → k < 4 → Y (a + k) = Lw k) ∧ RowAt .u64 wt g 0 9 Y ∧ Ord wt ∧ Out g 0 9 w wt) (fun i _ => (intOf i + 1).toNat)
      case atStart => exact ⟨4, by decide, rfl, fun k h1 h2 => absurd h2 (by omega), hr2, hO2, ho⟩
      case round =>
        clear hr2 hO2 ho
        obtain ⟨m, hm, rfl, heq, hr, hO, ho⟩ := hrel
        have HE := Hid.mk' heq
        clear heq
        by_cases hm0 : m = 0
        · subst hm0
          have hge : oL ≤ pt Y a 4 := Nat.le_of_eq (pt_eq (fun k hk => HE.out k (Nat.zero_le _) hk)).symm
          replace ct2 := ct2 wr hr hO hge
          clear hge
          go_wp2_with (go_at_call 78; refine ct2.mono ?_; clear ct2; rintro e w3 ⟨rfl, Z, hr3, hZ, hZY, hptZ, ho3⟩; (have hO3 := hO.out ho3 hg); (have hoZ := ho.trans ho3); (have HZY := Hid.mk' hZY); (have HPZ := Hid.mk' hptZ); clear hZY hptZ ho3)
          go_roundw
          case rel =>
            obtain ⟨s1, s2⟩ := st_take (by omega) SY.out.1 SY.out.2 HZY.out HPZ.out
            have hl : pt Z a 5 < oL := by have := HPZ.out; have := hP2'.out; omega
            obtain ⟨z1, z2⟩ := st_next s1 hl
            exact ⟨a, Z, by omega, by go_num, hr3, hZ, z1, z2, s2, hO3, hoZ⟩
          case measure => simp [intOf]
        · obtain ⟨i, rfl⟩ : ∃ i, m = i + 1 := ⟨m - 1, by omega⟩
          have ei : (((i + 1 : Nat) : Int) - 1) = (i : Int) := by omega
          rw [ei]
          obtain ⟨rg, -⟩ := hr (a + i) (by omega)
          rw [Nat.zero_add] at rg
          have ro := hO i (by omega)
          have qw : IntKind.i64.wrap ((a : Int) + i) = (a : Int) + i := by simp only [IntKind.wrap_i64]; omega
          have q1 : ((a : Int) + i).toNat = a + i := by omega
          have q2 : (0 : Int) ≤ (a : Int) + i ∧ (a : Int) + i < 9 := by omega
          have q3 : (0 : Int) ≤ (i : Int) ∧ (i : Int) < 4 := by omega
          obtain ⟨c1, c2⟩ := pt_le (m := i) hY (by omega) (fun k h1 h2 => HE.out k (by omega) h2)
          rcases Nat.lt_trichotomy (Y (a + i)) (Lw i) with hc | hc | hc
          · have hl := Hid.mk' (c1 hc)
            have hci : (Y (a + i) : Int) < (Lw i : Int) := by omega
            clear c1 c2 hc ct2
            go_wp2
            go_region
            go_wp2
            obtain ⟨z1, z2⟩ := st_next SY.out.1 (by rw [← hP4'.out]; exact hl.out)
            exact ⟨⟨a, Y, by omega, rfl, hr.drew, hY, z1, z2, SY.out.2, fun j hj => hO j hj, ho.trans (Out.drew _)⟩, by simp [intOf]⟩
          · have hci : ¬(Y (a + i) : Int) < (Lw i : Int) := by omega
            have hci2 : ¬(Lw i : Int) < (Y (a + i) : Int) := by omega
            have hc' := Hid.mk' hc
            clear c1 c2 hc ct2
            go_wp2
            go_region
            go_wp2
            go_region
            go_wp2
            go_roundw
            case rel =>
              refine ⟨i, by omega, by go_num, fun k h1 h2 => ?_, hr.drew.drew, fun j hj => hO j hj, (ho.trans (Out.drew _)).trans (Out.drew _)⟩
              by_cases e : k = i
              · rw [e]; exact hc'.out
              · exact HE.out k (by omega) h2
            case measure => simp [intOf]
          · have hci : ¬(Y (a + i) : Int) < (Lw i : Int) := by omega
            have hci2 : (Lw i : Int) < (Y (a + i) : Int) := by omega
            replace ct2 := ct2 wr.drew.drew hr.drew.drew (fun j hj => hO j hj) (c2 hc)
            clear c1 c2 hc
            have hO' : Ord wr.drew.drew := fun j hj => hO j hj
            have ho' : Out g 0 9 w wr.drew.drew := (ho.trans (Out.drew _)).trans (Out.drew _)
            go_wp2
            go_region
            go_wp2
            go_region
            go_wp2_with (go_at_call 78; refine ct2.mono ?_; clear ct2; rintro e w3 ⟨rfl, Z, hr3, hZ, hZY, hptZ, ho3⟩; (have hO3 := hO'.out ho3 hg); (have hoZ := ho'.trans ho3); (have HZY := Hid.mk' hZY); (have HPZ := Hid.mk' hptZ); clear hZY hptZ ho3)
            go_roundw
            case rel =>
              obtain ⟨s1, s2⟩ := st_take (by omega) SY.out.1 SY.out.2 HZY.out HPZ.out
              have hl : pt Z a 5 < oL := by have := HPZ.out; have := hP2'.out; omega
              obtain ⟨z1, z2⟩ := st_next s1 hl
              exact ⟨a, Z, by omega, by go_num, hr3, hZ, z1, z2, s2, hO3, hoZ⟩
            case measure => simp [intOf]
end Go.Proofs.YteekjcfbnoakgaaDoor
