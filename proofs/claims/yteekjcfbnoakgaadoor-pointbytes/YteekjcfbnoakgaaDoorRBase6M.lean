/- What the proof stands on: RBase6, SqMath, PtE, RSame6, Fit, PApi, PSome, PKnow, PDec, PBytes, PCel, PNumb, PCon. -/
import Derived.Test.YteekjcfbnoakgaaDoorPrimeM
import Derived.Test.YteekjcfbnoakgaaDoorRDec6M
import Derived.Test.YteekjcfbnoakgaaDoorRefPow2M
import Derived.Test.YteekjcfbnoakgaaDoorRootQM
namespace Go.Proofs.YteekjcfbnoakgaaDoor
open Go.RowKit
def qB : Nat := 26187595835145689230469591415084376402084551887632582719101735842039498021991
def rB : Nat := 42783823269122696939284341094755422415180979639778424813682678720006717057747
def uB : Nat := 37053468555941182535542715202780130513046395093004980492626426882532201484767
def vB : Nat := 35320460721920060721965471946471712506633951349663716574434581141966314745466
theorem uB_is : decU yB = uB := by kernel_rfl
theorem vB_is : decV yB = vB := by kernel_rfl
theorem quo_is {u v q : Nat} (hq : q < pF) (hv0 : v ≠ 0) (hv : v < pF) (h : q * v % pF = u) : quoR u v = q := quot_of' hq hv0 hv h
theorem qB_quot : quoR uB vB = qB := quo_is (by decide) (by decide) (by decide) (by decide)
theorem pm_is {b k e r : Nat} (h : e < 2 ^ k) (hp : pm pF b k e = r) : b ^ e % pF = r := by rw [← pm_eq pF b k e h, hp]
theorem rB_pow : pm pF qB 252 7237005577332262213973186563042994240829374041602535252466099000494570602494 = rB := by kernel_rfl
theorem rootY_is {k u v q r : Nat} (hq : quoR u v = q) {e : Nat} (he : k + 1 = e) (hl : e < 2 ^ 252) (hp : pm pF q 252 e = r) : rootY k u v = r := by
  unfold rootY
  rw [hq, he]
  exact pm_is hl hp
theorem kP_next : kP + 1 = 7237005577332262213973186563042994240829374041602535252466099000494570602494 := by decide
theorem rootY_base : rootY kP uB vB = rB := rootY_is qB_quot kP_next (by decide) rB_pow
theorem rootZ_is {k u v q r : Nat} (hq : quoR u v = q) (hy : rootY k u v = r) (h : r * r % pF = q) : rootZ k u v = r := by
  unfold rootZ
  rw [hy, hq]
  exact if_pos h
theorem rootR_is {k u v q r x : Nat} (hq : quoR u v = q) (hz : rootZ k u v = r) (h : r * r % pF = q) (hv : v ≠ 0) (hx : evn r = x) : rootR k u v = some x := by
  unfold rootR
  rw [hz, hq, if_pos ⟨h, fun h => hv h.1⟩, hx]
theorem rB_sq : rB * rB % pF = qB := by decide
theorem root_base : rootR kP (decU yB) (decV yB) = some xB := by
  rw [uB_is, vB_is]
  exact rootR_is qB_quot (rootZ_is qB_quot rootY_base rB_sq) rB_sq (by decide) (by decide)
theorem lo6_byt {N : Nat} (h : N < pF) {j : Nat} (_hj : j < 32) : lo6 (byt N) j = byt N j := by
  unfold lo6
  by_cases h31 : j = 31
  · rw [if_pos h31, h31]
    exact Nat.mod_eq_of_lt (byt31_lt h)
  · rw [if_neg h31]
theorem dec_base : decN (byt yB) = some (ofXY xB yB) := by
  have e : ofB (lo6 (byt yB)) 32 = yB := by
    rw [ofB_congr 32 (fun j hj => lo6_byt yB_lt hj), ofB_byt]
    decide
  have e31 : ¬(byt yB 31 / 128 = 1) := by
    have := byt31_lt yB_lt
    omega
  unfold decN
  rw [e, if_pos yB_lt, root_base]
  show (if byt yB 31 / 128 = 1 ∧ xB = 0 then none else some (ofXY (if byt yB 31 / 128 = 1 then fsub 0 xB else xB) yB)) = _
  rw [if_neg (fun h => e31 h.1), if_neg e31]
theorem yB_quot : fmul 4 (finv 5) = yB := quot_of' yB_lt (by decide) (by decide) (by decide)
set_option maxRecDepth 20000 in
set_option maxHeartbeats 4000000 in
theorem rdec_bad (v : Value) (n : Nat) (bs : Nat → Nat) (w : World) (hv : BytesIn w v n bs) (hn : n ≠ 32) :
    Calls Tryd.prog 10 #[v] w fun e w' => ∃ t : P4, e = .returned (.tuple #[t.V, .int .i64 1]) ∧ t.Rep zeroN ∧ Below w.heap.size w w' := by
  have hzq := zeroQ
  have cz : ∀ W, Calls Tryd.prog 39 #[] W fun e w' => ∃ t : P4, e = .returned (.agg (q64 t.X t.Y t.Z t.T).toArray) ∧ t.Rep zeroN ∧ Below W.heap.size W w' := fun W => rzero_any W
  generalize zeroN = zn at *
  obtain ⟨xv, kv, rfl, -⟩ := hv.src
  have h1 : ¬((n : Int) = 32) := by omega
  obtain ⟨W, g2, eW, hg2, b, h2⟩ := freshQ w
  have HW : Hid (w.alloc (.cells zQ 38) = W) := Hid.mk' eW
  have Hg : Hid (w.heap.size = g2) := Hid.mk' hg2
  have w2 : w.heap.size ≤ g2 := Nat.le_of_eq hg2
  clear eW hg2 hv hn
  go_enter Tryd.func10, Tryd.ntmps10
  go_wp2_with (first
    | (go_at_call 39; rw [HW.out, Hg.out]; refine (cz _).mono ?_; clear cz HW Hg; rintro e w40 ⟨t, rfl, ht, hb40⟩; (replace h2 := h2.still hb40); (replace b := below_next b hb40); clear hb40; (have t40 : w40.there g2 0 (q64 t.X t.Y t.Z t.T).toArray.size := there64 h2))
    | (with_reducible (refine id (?_ : wpList _ _ _ _ _ _)); refine wpList_store_mid rfl 38 _ _ rfl g2 0 (q64 t.X t.Y t.Z t.T).toArray rfl rfl t40 (infoQA _ _ _ _) (oneQ _ _ _ _) ?_))
  (try simp only [Exit.inBlock, Exit.then])
  exact bodyPost_ret (results_cell_tmp Tryd.results10 _ _ g2 0 (q64 t.X t.Y t.Z t.T) _ rfl (h2.stored (q64 t.X t.Y t.Z t.T) (q64_same _ _ _ _ _ _ _ _)).range Tryd.underlying38 rfl (infoQ _ _ _ _)) rfl ⟨t, rfl, ht, below_setCells w2 _ _ _ b⟩
set_option maxRecDepth 20000 in
set_option maxHeartbeats 4000000 in
theorem rbase_any (w : World) : Calls Tryd.prog 19 #[] w fun e w' => ∃ t : P4, e = .returned t.V ∧ t.Rep (ofXY xB yB) ∧ Below w.heap.size w w' := by
  have hz := zeroR
  have hzq := zeroQ
  have c4' : ∀ W, Calls Tryd.prog 42 #[.int .i64 4] W fun e w' => ∃ R, e = .returned (.agg (i16 R).toArray) ∧ Rw R 4 ∧ Below W.heap.size W w' := small_w 4 (by decide)
  have c5' : ∀ W, Calls Tryd.prog 42 #[.int .i64 5] W fun e w' => ∃ R, e = .returned (.agg (i16 R).toArray) ∧ Rw R 5 ∧ Below W.heap.size W w' := small_w 5 (by decide)
  have ci : ∀ A, Rw A 5 → ∀ W, Calls Tryd.prog 53 #[.agg (i16 A).toArray] W fun e w' => ∃ R, e = .returned (.agg (i16 R).toArray) ∧ Rw R (finv 5) ∧ Below W.heap.size W w' := fun A hA W => rinverse_wide A _ hA W
  have ct : ∀ A B, Rw A 4 → Rw B (finv 5) → ∀ W, Calls Tryd.prog 43 #[.agg (i16 A).toArray, .agg (i16 B).toArray] W fun e w' => ∃ R, e = .returned (.agg (i16 R).toArray) ∧ Rw R yB ∧ Below W.heap.size W w' := fun A B hA hB W => (rtimes_w hA hB W).mono fun e w' ⟨he, hb⟩ => ⟨_, he, by rw [← yB_quot]; exact rw_t hA hB, hb⟩
  have cb : ∀ R, Rw R yB → ∀ W, Calls Tryd.prog 41 #[.agg (i16 R).toArray] W fun e w' => ∃ v, e = .returned v ∧ Own W.heap.size w' v 32 (byt yB) ∧ Below W.heap.size W w' := fun R hR W => rw_bytes R _ hR yB_lt W
  have cd : ∀ v W, BytesIn W v 32 (byt yB) → Calls Tryd.prog 10 #[v] W fun e w' => ∃ t : P4, e = .returned (.tuple #[.agg (q64 t.X t.Y t.Z t.T).toArray, .int .i64 0]) ∧ t.Rep (ofXY xB yB) ∧ Below W.heap.size W w' := fun v W h => (rdec_good v (byt yB) (byt_all _) W h).mono fun e w' ⟨t, er, he, hd, hb⟩ => by
    rcases hd with ⟨-, -, h1⟩ | ⟨h0, p, h1, h2⟩
    · rw [dec_base] at h1; cases h1
    · rw [dec_base] at h1
      obtain rfl := Option.some.inj h1
      subst h0
      exact ⟨t, he, h2, hb⟩
  generalize ofXY xB yB = pb at *
  generalize finv 5 = f5 at *
  generalize yB = yb at *
  obtain ⟨W, g0, eW, hg0, b, h0⟩ := freshQ w
  have HW : Hid (w.alloc (.cells zQ 38) = W) := Hid.mk' eW
  have Hg : Hid (w.heap.size = g0) := Hid.mk' hg0
  have w0 : w.heap.size ≤ g0 := Nat.le_of_eq hg0
  clear eW hg0
  go_enter Tryd.func19, Tryd.ntmps19
  go_wp2_with (first
    | (go_at_call 42; rw [HW.out, Hg.out]; refine (c4' _).mono ?_; clear c4' HW Hg; rintro e w1 ⟨R1, rfl, hR1, hb1⟩; (replace h0 := h0.still hb1); (replace b := below_next b hb1); clear hb1)
    | (go_at_call 42; refine (c5' _).mono ?_; clear c5'; rintro e w2 ⟨R2, rfl, hR2, hb2⟩; (replace h0 := h0.still hb2); (replace b := below_next b hb2); clear hb2)
    | (go_at_call 53; refine (ci R2 hR2 _).mono ?_; clear ci; rintro e w3 ⟨R3, rfl, hR3, hb3⟩; (replace h0 := h0.still hb3); (replace b := below_next b hb3); clear hb3)
    | (go_at_call 43; refine (ct R1 R3 hR1 hR3 _).mono ?_; clear ct; rintro e w4 ⟨R4, rfl, hR4, hb4⟩; (replace h0 := h0.still hb4); (replace b := below_next b hb4); clear hb4; (have z4 := freshR' w4); (have t4 := freshRt w4 R4); (obtain ⟨V4, hV4⟩ : ∃ V, V = (w4.alloc (.cells zI 36)).setCells w4.heap.size 0 (i16 R4) := ⟨_, rfl⟩); (have h1 : RW V4 w4.heap.size 0 (i16 R4) := by rw [hV4]; exact z4.stored _ (by rw [i16_len, i16_len])); (have b4 : Below w4.heap.size w4 V4 := by rw [hV4]; exact below_setCells (Nat.le_refl _) _ _ _ ((Below.refl _ _).alloc (Nat.le_refl _) _)); (have H4 := Hid.mk' hV4); clear hV4 z4; (replace h0 := h0.still b4); (replace b := below_next b b4); clear b4)
    | (with_reducible (refine id (?_ : wpList _ _ _ _ _ _)); refine wpList_store_mid rfl 36 _ _ rfl w4.heap.size 0 (i16 R4).toArray rfl rfl t4 (infoIA _) (oneI _) ?_; rw [List.toList_toArray, ← H4.out]; clear t4 H4)
    | (refine wpList_load_mid rfl 36 _ rfl w4.heap.size 0 rfl (i16 R4) _ h1.range Tryd.underlying36 rfl (infoI _) ?_)
    | (go_at_call 41; refine (cb R4 hR4 _).mono ?_; clear cb; rintro e w5 ⟨v5, rfl, own5, hb5⟩; (replace h0 := h0.still hb5); (replace b := below_next b hb5); clear hb5 h1; (have cd5 := cd v5 w5 (BytesIn.of_own own5)); clear cd)
    | (go_at_call 10; refine cd5.mono ?_; clear cd5 own5; rintro e w6 ⟨t, rfl, ht, hb6⟩; (replace h0 := h0.still hb6); (replace b := below_next b hb6); clear hb6; (have l0 := h0.lt); (have z6 := freshQ' w6); (have t6 : (w6.alloc (.cells zQ 38)).there w6.heap.size 0 (q64 t.X t.Y t.Z t.T).toArray.size := there64 z6); (obtain ⟨V6, hV6⟩ : ∃ V, V = (w6.alloc (.cells zQ 38)).setCells w6.heap.size 0 (q64 t.X t.Y t.Z t.T) := ⟨_, rfl⟩); (have h2 : RW V6 w6.heap.size 0 (q64 t.X t.Y t.Z t.T) := by rw [hV6]; exact z6.stored _ (q64_same _ _ _ _ _ _ _ _)); (have b6 : Below w6.heap.size w6 V6 := by rw [hV6]; exact below_setCells (Nat.le_refl _) _ _ _ ((Below.refl _ _).alloc (Nat.le_refl _) _)); (have H6 := Hid.mk' hV6); clear hV6 z6; (replace h0 := h0.still b6); (replace b := below_next b b6); clear b6; (have t0 : V6.there g0 0 (q64 t.X t.Y t.Z t.T).toArray.size := there64 h0))
    | (with_reducible (refine id (?_ : wpList _ _ _ _ _ _)); refine wpList_store_mid rfl 38 _ _ rfl w6.heap.size 0 (q64 t.X t.Y t.Z t.T).toArray rfl rfl t6 (infoQA _ _ _ _) (oneQ _ _ _ _) ?_; rw [List.toList_toArray, ← H6.out]; clear t6 H6)
    | (refine wpList_load_mid rfl 38 _ rfl w6.heap.size 0 rfl (q64 t.X t.Y t.Z t.T) _ h2.range Tryd.underlying38 rfl (infoQ _ _ _ _) ?_)
    | (with_reducible (refine id (?_ : wpList _ _ _ _ _ _)); refine wpList_store_mid rfl 38 _ _ rfl g0 0 (q64 t.X t.Y t.Z t.T).toArray rfl rfl t0 (infoQA _ _ _ _) (oneQ _ _ _ _) ?_))
  (try simp only [Exit.inBlock, Exit.then])
  exact bodyPost_ret (results_cell_mid Tryd.results19 _ _ g0 0 (q64 t.X t.Y t.Z t.T) _ rfl (h0.stored (q64 t.X t.Y t.Z t.T) (q64_same _ _ _ _ _ _ _ _)).range Tryd.underlying38 rfl (infoQ _ _ _ _)) rfl ⟨t, rfl, ht, below_setCells w0 _ _ _ b⟩
end Go.Proofs.YteekjcfbnoakgaaDoor
namespace Go.Proofs.YteekjcfbnoakgaaDoor
theorem sub_sq {p x : Nat} (hx : x ≤ p) : (p - x) * (p - x) % p = x * x % p := by
  obtain ⟨d, rfl⟩ : ∃ d, p = x + d := ⟨p - x, by omega⟩
  rw [Nat.add_sub_cancel_left]
  have e : d * d + (x + d) * x = x * x + (x + d) * d := by
    rw [Nat.add_mul, Nat.add_mul, Nat.mul_comm d x]; omega
  have h1 : (d * d + (x + d) * x) % (x + d) = d * d % (x + d) := Nat.add_mul_mod_self_left _ _ _
  have h2 : (x * x + (x + d) * d) % (x + d) = x * x % (x + d) := Nat.add_mul_mod_self_left _ _ _
  rw [← h1, e, h2]
theorem evn_sq {x : Nat} (hx : x < pF) : evn x * evn x % pF = x * x % pF := by
  unfold evn
  split
  · rw [Nat.zero_add, ← Nat.mul_mod]
    exact sub_sq (Nat.le_of_lt hx)
  · rfl
theorem evn_two {x : Nat} (hx : x < pF) : evn x % 2 = 0 := by
  have hp : pF % 2 = 1 := by decide
  unfold evn
  by_cases h : x % 2 = 1
  · rw [if_pos h, Nat.zero_add, Nat.mod_eq_of_lt (a := pF - x) (b := pF) (by omega)]
    generalize pF = p at *
    omega
  · rw [if_neg h]
    omega
theorem rootX_lt (k u v : Nat) : rootX k u v < pF := Nat.mod_lt _ pF_pos
/-- What is found is a root, and even. -/
theorem root_is {k u v r : Nat} (hu : u < pF) (h : rootP k u v = some r) : r * r % pF * v % pF = u ∧ r % 2 = 0 := by
  unfold rootP at h
  have hX := rootX_lt k u v
  generalize rootX k u v = X at *
  by_cases h1 : X * X % pF * v % pF = u
  · rw [if_pos h1] at h
    obtain rfl := Option.some.inj h
    exact ⟨by rw [evn_sq hX]; exact h1, evn_two hX⟩
  · rw [if_neg h1] at h
    by_cases h2 : X * X % pF * v % pF = (0 + pF - u) % pF
    · rw [if_pos h2] at h
      obtain rfl := Option.some.inj h
      have hl : X * iM % pF < pF := Nat.mod_lt _ pF_pos
      refine ⟨?_, evn_two hl⟩
      rw [evn_sq hl, times_sq iM_sq, neg_mul _ v (Nat.mod_lt _ pF_pos), h2]
      exact (neg_neg (neg_lt u) hu).2 rfl
    · rw [if_neg h2] at h
      cases h
end Go.Proofs.YteekjcfbnoakgaaDoor
namespace Go.Proofs.YteekjcfbnoakgaaDoor
open Go.RowKit
theorem encXY_encB {p : N4} {P : Fp × Fp} (hp : p.Ok) (h : Ext4 p P) : encXY (fmul p.X (finv p.Z)) (fmul p.Y (finv p.Z)) = encB P := by
  have e := enc_xy hp h
  rw [e.1, e.2]
  rfl
theorem encB_lt (P : Fp × Fp) (j : Nat) : encB P j < 256 := by
  have h := byt31_lt P.2.isLt
  have h2 := byt_lt P.2.val j
  unfold encB
  split <;> omega
theorem val_of_byt {a b : Nat} (ha : a < pF) (hb : b < pF) (h : ∀ j, j < 32 → byt a j = byt b j) : a = b := by
  have e := ofB_congr 32 h
  have hp : pF < 256 ^ 32 := by decide
  rw [ofB_byt, ofB_byt, Nat.mod_eq_of_lt (Nat.lt_trans ha hp), Nat.mod_eq_of_lt (Nat.lt_trans hb hp)] at e
  exact e
/-- Points with the same bytes are one. -/
theorem encB_inj {P Q : Fp × Fp} (hP : On dE P) (hQ : On dE Q) (h : ∀ j, j < 32 → encB P j = encB Q j) : P = Q := by
  have h31 := h 31 (by decide)
  have hl := byt31_lt P.2.isLt
  have hm := byt31_lt Q.2.isLt
  unfold encB at h31
  rw [if_pos rfl, if_pos rfl] at h31
  have hy : P.2.val = Q.2.val := val_of_byt P.2.isLt Q.2.isLt (fun j hj => by
    by_cases hj31 : j = 31
    · rw [hj31]; omega
    · have := h j hj
      unfold encB at this
      rwa [if_neg hj31, if_neg hj31] at this)
  exact enc_inj ns_dE hP hQ (Fin.ext hy) (by omega)
theorem encB_str {P Q : Fp × Fp} (hP : On dE P) (hQ : On dE Q) : strB 32 (encB P) = strB 32 (encB Q) ↔ P = Q :=
  ⟨fun h => encB_inj hP hQ ((strB_eq (encB_lt P) (encB_lt Q)).1 h).2, fun h => by rw [h]⟩
theorem sq_neg {n : Nat} [NeZero n] {x : Fin n} : (0 - x) * (0 - x) = x * x := by grind
theorem fsub_odd {x : Nat} (h0 : x ≠ 0) (hx : x < pF) (h2 : x % 2 = 0) : fsub 0 x % 2 = 1 := by
  have hp : pF % 2 = 1 := by decide
  unfold fsub
  rw [Nat.zero_add, Nat.mod_eq_of_lt (a := pF - x) (b := pF) (by omega)]
  generalize pF = p at *
  omega
/-- What is told by bytes is a point of the curve, and these are its bytes. -/
theorem dec_pt {bs : Nat → Nat} (hbs : ∀ j, bs j < 256) {p : N4} (h : decN bs = some p) : p.Ok ∧ ∃ P, Ext4 p P ∧ On dE P ∧ ∀ j, j < 32 → encB P j = bs j := by
  unfold decN at h
  have hb31 := hbs 31
  have hbyt : ∀ j, j < 32 → byt (ofB (lo6 bs) 32) j = lo6 bs j := fun j hj => byt_ofB _ (lo6_lt hbs) 32 j hj
  generalize ofB (lo6 bs) 32 = y at *
  by_cases hy : y < pF
  · rw [if_pos hy] at h
    have hlt := rootR_lt6 kP (decU y) (decV y)
    cases hr : rootR kP (decU y) (decV y) with
    | none => rw [hr] at h; cases h
    | some x =>
      rw [hr] at h hlt
      replace hlt : x < pF := hlt
      change (if bs 31 / 128 = 1 ∧ x = 0 then none else some (ofXY (if bs 31 / 128 = 1 then fsub 0 x else x) y)) = some p at h
      have hu : decU y < pF := fsub_lt _ _
      have hv : decV y < pF := fadd_lt _ _
      rw [← root_same kP_eq hu hv] at hr
      obtain ⟨hq, h2⟩ := root_is hu hr
      have e : cF x * cF x * (cF dN * (cF y * cF y) + 1) = cF y * cF y - 1 := by
        have e0 : fmul (fmul x x) (decV y) = decU y := hq
        have e1 := congrArg cF e0
        unfold decU decV at e1
        simpa only [cF_mul, cF_add, cF_sub _ 1 (by decide), cF_one] using e1
      by_cases hz : bs 31 / 128 = 1 ∧ x = 0
      · rw [if_pos hz] at h; cases h
      · rw [if_neg hz] at h
        obtain rfl := Option.some.inj h
        obtain ⟨x', hx'⟩ : ∃ x', x' = if bs 31 / 128 = 1 then fsub 0 x else x := ⟨_, rfl⟩
        rw [← hx']
        have hl' : x' < pF := by rw [hx']; split; exact fsub_lt _ _; exact hlt
        have hodd : x' % 2 = bs 31 / 128 := by
          rw [hx']
          by_cases ho : bs 31 / 128 = 1
          · rw [if_pos ho, ho]
            exact fsub_odd (fun h0 => hz ⟨ho, h0⟩) hlt h2
          · rw [if_neg ho]; omega
        have e' : cF x' * cF x' * (cF dN * (cF y * cF y) + 1) = cF y * cF y - 1 := by
          rw [← e]
          congr 1
          rw [hx']
          split
          · rw [cF_sub _ _ hlt, cF_zero, sq_neg]
          · rfl
        refine ⟨ofXY_ok hl' hy, ptXY x' y, ofXY_ext x' y, ptXY_on e', fun j hj => ?_⟩
        unfold encB
        rw [ptXY_x y hl', ptXY_y x' hy]
        have hj' := hbyt j hj
        unfold lo6 at hj'
        by_cases h31 : j = 31
        · rw [if_pos h31] at hj' ⊢
          rw [h31] at hj' ⊢
          rw [hj', hodd]
          omega
        · rw [if_neg h31] at hj' ⊢
          exact hj'
  · rw [if_neg hy] at h; cases h
/-- These limbs are this point. -/
def P4.Pt (r : P4) (P : Fp × Fp) : Prop := On dE P ∧ ∃ p : N4, r.Rep p ∧ p.Ok ∧ Ext4 p P
def baseP : Fp × Fp := ptXY xB yB
theorem rbase_pt (w : World) : Calls Tryd.prog 19 #[] w fun e w' => ∃ t : P4, e = .returned t.V ∧ t.Pt baseP ∧ Below w.heap.size w w' :=
  (rbase_any w).mono fun _ _ ⟨t, he, ht, hb⟩ => ⟨t, he, ⟨base_on, _, ht, ofXY_ok xB_lt yB_lt, ofXY_ext _ _⟩, hb⟩
theorem rplus_pt {r s : P4} {P Q : Fp × Fp} (hr : r.Pt P) (hs : s.Pt Q) {D : Nat → Int} (hD : Rw D dN) (w : World) :
    Calls Tryd.prog 25 #[r.V, s.V, rV D] w fun e w' => ∃ t : P4, e = .returned t.V ∧ t.Pt (eadd dE P Q) ∧ Below w.heap.size w w' := by
  obtain ⟨oP, p, hp, -, xp⟩ := hr
  obtain ⟨oQ, q, hq, -, xq⟩ := hs
  exact (rplus6_any hp hq hD w).mono fun _ _ ⟨t, he, ht, hb⟩ => ⟨t, he, ⟨eadd_on ns_dE oP oQ, _, ht, addN_ok _ _ _, addN_ext oP oQ xp xq⟩, hb⟩
theorem rneg_pt {r : P4} {P : Fp × Fp} (hr : r.Pt P) (w : World) :
    Calls Tryd.prog 28 #[r.V] w fun e w' => ∃ t : P4, e = .returned t.V ∧ t.Pt (eneg P) ∧ Below w.heap.size w w' := by
  obtain ⟨oP, p, hp, kp, xp⟩ := hr
  exact (rneg_any hp kp w).mono fun _ _ ⟨t, he, ht, hb⟩ => ⟨t, he, ⟨eneg_on oP, _, ht, negN_ok kp, negN_ext kp xp⟩, hb⟩
theorem rtimes_pt {r : P4} {P : Fp × Fp} (hr : r.Pt P) (v : Value) (ks : Nat → Nat) (hks : ∀ j, ks j < 256) (w : World) (hv : BytesIn w v 32 ks) :
    Calls Tryd.prog 21 #[r.V, v] w fun e w' => ∃ t : P4, e = .returned (.tuple #[t.V, .int .i64 0]) ∧ t.Pt (emul dE (ofB ks 32) P) ∧ Below w.heap.size w w' := by
  obtain ⟨oP, p, hp, kp, xp⟩ := hr
  refine (rtimes6_good hp v ks hks w hv).mono fun _ _ ⟨t, he, ht, hb⟩ => ⟨t, he, ⟨emul_on ns_dE oP _, _, ht, mulN_ok _ _ _ _, ?_⟩, hb⟩
  rw [← nB_all ks hks]
  exact mulN_ext oP xp ks 256
theorem renc_pt {r : P4} {P : Fp × Fp} (hr : r.Pt P) (w : World) :
    Calls Tryd.prog 17 #[r.V] w fun e w' => ∃ s, e = .returned s ∧ NewC w w' s 32 (encB P) ∧ Below w.heap.size w w' := by
  obtain ⟨oP, p, hp, kp, xp⟩ := hr
  rw [← encXY_encB kp xp]
  exact renc_any hp w
/-- What bytes tell. -/
theorem rdec_pt (v : Value) (bs : Nat → Nat) (hbs : ∀ j, bs j < 256) (w : World) (hv : BytesIn w v 32 bs) :
    Calls Tryd.prog 10 #[v] w fun e w' => ∃ (t : P4) (er : Int), e = .returned (.tuple #[t.V, .int .i64 er]) ∧ Below w.heap.size w w' ∧
      ((er = 30 ∧ t.Pt ezero ∧ decN bs = none) ∨ (er = 0 ∧ (decN bs).isSome = true ∧ ∃ P, t.Pt P ∧ ∀ j, j < 32 → encB P j = bs j)) :=
  (rdec_good v bs hbs w hv).mono fun _ _ ⟨t, er, he, hd, hb⟩ => ⟨t, er, he, hb, by
    rcases hd with ⟨h1, h2, h3⟩ | ⟨h1, p, h2, h3⟩
    · exact .inl ⟨h1, ⟨ezero_on dE, _, h2, zeroN_ok, zeroN_ext⟩, h3⟩
    · obtain ⟨kp, P, xp, oP, hP⟩ := dec_pt hbs h2
      exact .inr ⟨h1, by rw [h2]; rfl, P, ⟨oP, p, h3, kp, xp⟩, hP⟩⟩
end Go.Proofs.YteekjcfbnoakgaaDoor
namespace Go.Proofs.YteekjcfbnoakgaaDoor
open Go.RowKit
theorem strP_eq {P Q : Fp × Fp} (hP : On dE P) (hQ : On dE Q) : ((strB 32 (encB P)).toList == (strB 32 (encB Q)).toList) = decide (P = Q) := by
  by_cases h : P = Q
  · subst h; rw [decide_eq_true rfl]; exact beq_self_eq_true _
  · rw [decide_eq_false h, ByteArray.toList_eq, ByteArray.toList_eq]
    exact beq_false_of_ne (fun e => h ((encB_str hP hQ).1 (WideShapes.bytes_inj e)))
theorem two_rows (w : World) (A B : List Value) (t : TypeId) : RW ((w.alloc (.cells A.toArray t)).alloc (.cells B.toArray t)) w.heap.size 0 A ∧ RW ((w.alloc (.cells A.toArray t)).alloc (.cells B.toArray t)) (w.heap.size + 1) 0 B := by
  have h1 : RW (w.alloc (.cells A.toArray t)) w.heap.size 0 A := RW.fresh w _ _
  have h2 : RW ((w.alloc (.cells A.toArray t)).alloc (.cells B.toArray t)) (w.alloc (.cells A.toArray t)).heap.size 0 B := RW.fresh _ _ _
  rw [World.size_alloc] at h2
  exact ⟨h1.still ((Below.refl _ _).alloc (Nat.le_refl _) _), h2⟩
set_option maxRecDepth 20000 in
set_option maxHeartbeats 4000000 in
theorem rsame_pt {r s : P4} {P Q : Fp × Fp} (hr : r.Pt P) (hs : s.Pt Q) (w : World) :
    Calls Tryd.prog 29 #[r.V, s.V] w fun e w' => e = .returned (.bool (decide (P = Q))) ∧ Below w.heap.size w w' := by
  have hse := strP_eq hr.1 hs.1
  have cA : ∀ W, Calls Tryd.prog 17 #[.agg (q64 r.X r.Y r.Z r.T).toArray] W fun e w' => ∃ v, e = .returned v ∧ NewC W w' v 32 (encB P) ∧ Below W.heap.size W w' := fun W => renc_pt hr W
  have cB : ∀ W, Calls Tryd.prog 17 #[.agg (q64 s.X s.Y s.Z s.T).toArray] W fun e w' => ∃ v, e = .returned v ∧ NewC W w' v 32 (encB Q) ∧ Below W.heap.size W w' := fun W => renc_pt hs W
  obtain ⟨z, hz⟩ : ∃ z, z = decide (P = Q) := ⟨_, rfl⟩
  rw [← hz] at hse ⊢
  obtain ⟨bxA, bxB⟩ := two_rows w (q64 r.X r.Y r.Z r.T) (q64 s.X s.Y s.Z s.T) 38
  obtain ⟨W, hW⟩ : ∃ W, W = (w.alloc (.cells (q64 r.X r.Y r.Z r.T).toArray 38)).alloc (.cells (q64 s.X s.Y s.Z s.T).toArray 38) := ⟨_, rfl⟩
  have hw : Below w.heap.size w W := by rw [hW]; exact ((Below.refl _ _).alloc (Nat.le_refl _) _).alloc (by simp) _
  rw [← hW] at bxA bxB
  have HW := Hid.mk' hW
  rw [show r.V = .agg (q64 r.X r.Y r.Z r.T).toArray from rfl, show s.V = .agg (q64 s.X s.Y s.Z s.T).toArray from rfl]
  clear hW hz hr hs
  go_enter Tryd.func29, Tryd.ntmps29
  go_wp2
  rw [← HW.out]
  have hdrew : Below W.heap.size W W.drew := (Below.refl _ _).drew
  replace bxA := bxA.still hdrew
  replace bxB := bxB.still hdrew
  replace hw := below_next hw hdrew
  clear hdrew
  refine wp_region_noPanic ?_
  refine wp_region_held_drew (S := fun w' => Below W.drew.heap.size W.drew w') (by kernel_rfl) (Below.refl _ _) (fun hHeld => ?_)
  clear hHeld
  refine wpAnyH_take (i := 0) (oi := { dst := some 5, op := Op.load 38 (Operand.tmp 2), type := 38, pos := "ref.go:107", after := #[], guard := none }) (v := .agg (q64 r.X r.Y r.Z r.T).toArray) rfl (by kernel_rfl) (by kernel_rfl) (by kernel_rfl) (fun _ _ _ h => h) (yieldsIf_load_mid (by rfl) 38 _ rfl w.heap.size 0 rfl (q64 r.X r.Y r.Z r.T) _ (fun _ h => (bxA.still h).range) Tryd.underlying38 rfl (infoQ _ _ _ _)) (Below.refl _ _) ?_
  (try simp only [Act.put, List.setIfInBounds_toArray, List.set_cons_zero, List.set_cons_succ])
  refine wpAnyH_take (i := 3) (oi := { dst := some 8, op := Op.load 38 (Operand.tmp 3), type := 38, pos := "ref.go:107", after := #[], guard := none }) (v := .agg (q64 s.X s.Y s.Z s.T).toArray) rfl (by kernel_rfl) (by kernel_rfl) (by kernel_rfl) (fun _ _ _ h => h) (yieldsIf_load_mid (by rfl) 38 _ rfl (w.heap.size + 1) 0 rfl (q64 s.X s.Y s.Z s.T) _ (fun _ h => (bxB.still h).range) Tryd.underlying38 rfl (infoQ _ _ _ _)) (Below.refl _ _) ?_
  (try simp only [Act.put, List.setIfInBounds_toArray, List.set_cons_zero, List.set_cons_succ])
  refine wpAnyH_ready (rs := [1]) (by kernel_rfl) (by simp) ?_
  refine AllReadyH.cons (o := { dst := some 6, op := Op.call { callee := Callee.value (Operand.func 17), args := #[Operand.tmp 5], argTypes := #[38] }, type := 22, pos := "ref.go:107", after := #[{ on := 0, ground := Ground.data }], guard := none }) rfl (fun K hK => ?_) AllReadyH.nil
  go_simp
  (go_at_call 17; refine (cA _).mono ?_; clear cA; rintro e w1 ⟨v1, rfl, hn1, hb1⟩; (have t1 := Str.of (NewC.bytes hn1 (by decide)) (encB_lt _)); (obtain ⟨x1, n1, k1, rfl⟩ := t1.form); clear hn1)
  (try go_simp)
  refine hK.out _ _ hb1 (fun h => ?_)
  clear h hK K
  refine wpAnyH_narrow (S' := fun w' => Below w1.heap.size w1 w') (fun _ h => below_next hb1 h) _ _ _ _ ?_
  clear bxA
  replace bxB := bxB.still hb1
  replace hw := below_next hw hb1
  clear hb1
  (try simp only [Act.put, List.setIfInBounds_toArray, List.set_cons_zero, List.set_cons_succ])
  refine wpAnyH_take (i := 2) (oi := { dst := some 7, op := Op.convert 22 9 (Operand.tmp 6), type := 9, pos := "ref.go:107", after := #[{ on := 1, ground := Ground.data }], guard := none }) (v := ?va2) rfl (by kernel_rfl) (by kernel_rfl) (by kernel_rfl) (fun _ _ _ h => h) (Or.inl ⟨by rfl, ?ha2⟩) (Below.refl _ _) ?ra2
  case ha2 =>
    intro w hSw
    have q := t1.conv w hSw
    go_simp
    try with_reducible rfl
  (try simp only [Act.put, List.setIfInBounds_toArray, List.set_cons_zero, List.set_cons_succ])
  refine wpAnyH_ready (rs := [4]) (by kernel_rfl) (by simp) ?_
  refine AllReadyH.cons (o := { dst := some 9, op := Op.call { callee := Callee.value (Operand.func 17), args := #[Operand.tmp 8], argTypes := #[38] }, type := 22, pos := "ref.go:107", after := #[{ on := 3, ground := Ground.data }, { on := 1, ground := Ground.chain }], guard := none }) rfl (fun K hK => ?_) AllReadyH.nil
  go_simp
  (go_at_call 17; refine (cB _).mono ?_; clear cB; rintro e w2 ⟨v2, rfl, hn2, hb2⟩; (have t2 := Str.of (NewC.bytes hn2 (by decide)) (encB_lt _)); (obtain ⟨x2, n2, k2, rfl⟩ := t2.form); clear hn2)
  (try go_simp)
  refine hK.out _ _ hb2 (fun h => ?_)
  clear h hK K
  refine wpAnyH_narrow (S' := fun w' => Below w2.heap.size w2 w') (fun _ h => below_next hb2 h) _ _ _ _ ?_
  clear bxB
  replace t1 := t1.still hb2
  replace hw := below_next hw hb2
  clear hb2
  (try simp only [Act.put, List.setIfInBounds_toArray, List.set_cons_zero, List.set_cons_succ])
  refine wpAnyH_take (i := 5) (oi := { dst := some 10, op := Op.convert 22 9 (Operand.tmp 9), type := 9, pos := "ref.go:107", after := #[{ on := 4, ground := Ground.data }], guard := none }) (v := ?va5) rfl (by kernel_rfl) (by kernel_rfl) (by kernel_rfl) (fun _ _ _ h => h) (Or.inl ⟨by rfl, ?ha5⟩) (Below.refl _ _) ?ra5
  case ha5 =>
    intro w hSw
    have q := t2.conv w hSw
    go_simp
    try with_reducible rfl
  (try simp only [Act.put, List.setIfInBounds_toArray, List.set_cons_zero, List.set_cons_succ])
  refine wpAnyH_take (i := 6) (oi := { dst := some 11, op := Op.binOp BinOp.eql 9 (Operand.tmp 7) (Operand.tmp 10) 9, type := 4, pos := "ref.go:107", after := #[{ on := 2, ground := Ground.data }, { on := 5, ground := Ground.data }], guard := none }) (v := ?va6) rfl (by kernel_rfl) (by kernel_rfl) (by kernel_rfl) (fun _ _ _ h => h) (Or.inl ⟨by rfl, ?ha6⟩) (Below.refl _ _) ?ra6
  case ha6 =>
    intro w hSw
    go_simp
    try with_reducible rfl
  (try simp only [Act.put, List.setIfInBounds_toArray, List.set_cons_zero, List.set_cons_succ])
  refine wpAnyH_take (i := 7) (oi := { dst := some 4, op := Op.assign (Operand.tmp 11), type := 4, pos := "ref.go:107", after := #[{ on := 6, ground := Ground.data }, { on := 4, ground := Ground.chain }, { on := 0, ground := Ground.phase }, { on := 1, ground := Ground.phase }, { on := 2, ground := Ground.phase }, { on := 3, ground := Ground.phase }, { on := 4, ground := Ground.phase }, { on := 5, ground := Ground.phase }, { on := 6, ground := Ground.phase }], guard := none }) (v := ?va7) rfl (by kernel_rfl) (by kernel_rfl) (by kernel_rfl) (fun _ _ _ h => h) (Or.inl ⟨by rfl, ?ha7⟩) (Below.refl _ _) ?ra7
  case ha7 =>
    intro w hSw
    go_simp
    try with_reducible rfl
  (try simp only [Act.put, List.setIfInBounds_toArray, List.set_cons_zero, List.set_cons_succ])
  refine wpAnyH_done (by kernel_rfl) ?_ _
  refine NoPanic.normal ?_
  go_wp2
  go_ret
  exact ⟨rfl, hw⟩
end Go.Proofs.YteekjcfbnoakgaaDoor
namespace Go.Proofs.YteekjcfbnoakgaaDoor
open Go.RowKit
/-- The first bytes of any, zeros behind. -/
def fitB (n : Nat) (bs : Nat → Nat) (j : Nat) : Nat := if j < n then bs j else 0
theorem fitB_lt {n : Nat} {bs : Nat → Nat} (h : ∀ j, bs j < 256) (j : Nat) : fitB n bs j < 256 := by
  unfold fitB; split
  · exact h j
  · decide
theorem infoByte : (Tryd.prog.info? 5).map (·.size) = some 1 := by kernel_rfl
set_option maxRecDepth 20000 in
theorem fit_any (v : Value) (n : Nat) (bs : Nat → Nat) (w : World) (hv : BytesIn w v n bs) : Calls Tryd.prog 23 #[v] w fun e w' => ∃ s, e = .returned s ∧ NewB w w' s 32 (fitB n bs) ∧ Below w.heap.size w w' := by
  have hmk := make_bytes w 32 32 rfl (by decide)
  obtain ⟨W, hW⟩ : ∃ W, W = w.alloc (.cells (zb 32) 5) := ⟨_, rfl⟩
  have hrow : RowAt .u8 W w.heap.size 0 32 (fun _ => 0) := by rw [hW]; exact RowAt.fresh (fun j hj => zb_at 32 j hj)
  have hb : Below w.heap.size w W := by rw [hW]; exact (Below.refl _ _).alloc (Nat.le_refl _) _
  obtain ⟨xo, c, rfl, hxn, hnc, hsrc⟩ := hv.src
  have src := hsrc W hb
  have hth := hrow.there
  obtain ⟨m, hm⟩ : ∃ m, m = Nat.min n 32 := ⟨_, rfl⟩
  have hsp := hrow.splice 0 m bs (by rw [hm, Nat.zero_add]; exact Nat.min_le_right _ _)
  rw [← hW] at hmk
  have Hm := Hid.mk' hm
  clear hW hv hsrc hm
  go_enter Tryd.func23, Tryd.ntmps23
  go_wp2_with (first
    | rw [hmk]
    | (refine wpList_copy_bytes rfl _ _ 22 22 rfl 5 Tryd.underlying22 infoByte w.heap.size 0 32 32 xo n c rfl rfl m bs src Hm.out hth ?_))
  go_ret
  refine ⟨_, rfl, ⟨w.heap.size, rfl, Nat.le_refl _, ?_⟩, below_setCells (Nat.le_refl _) _ _ _ hb⟩
  refine hsp.congr (fun j hj => ?_)
  have := Hm.out
  unfold over fitB
  by_cases e : j < n
  · rw [if_pos ⟨Nat.zero_le _, by rw [Nat.zero_add, this]; exact Nat.lt_min.2 ⟨e, hj⟩⟩, if_pos e, Nat.sub_zero]
  · rw [if_neg (fun h => by have h2 := h.2; rw [Nat.zero_add, this] at h2; exact e (Nat.lt_min.1 h2).1), if_neg e]
end Go.Proofs.YteekjcfbnoakgaaDoor
namespace Go.Proofs.YteekjcfbnoakgaaDoor
open Go.RowKit
def zP : Array Value := ((List.range 16).map fun _ => Value.int .u64 0).toArray
theorem zeroP (w : World) : Sem.run Tryd.prog (zeroValue 30) w = .ok (.agg zP) w := by kernel_rfl
theorem infoPs : (Tryd.prog.info? 30).map (·.size) = some 16 := by kernel_rfl
/-- The calls, with any way to hold a point: R: these cells hold this point; G: what stays true of the world. -/
structure PointApi (G : World → Prop) (R : List Value → Fp × Fp → Prop) : Prop where
  keep : ∀ w w', G w → Below w.heap.size w w' → G w'
  len : ∀ c P, R c P → c.length = 16
  one : ∀ c P, R c P → c.toArray.all (·.oneCell') = true
  on : ∀ c P, R c P → On dE P
  base : ∀ w, G w → Calls Tryd.prog 18 #[] w fun e w' => ∃ c, e = .returned (.agg c.toArray) ∧ R c baseP ∧ Below w.heap.size w w'
  zero : ∀ w, G w → Calls Tryd.prog 15 #[] w fun e w' => ∃ c, e = .returned (.agg c.toArray) ∧ R c ezero ∧ Below w.heap.size w w'
  enc : ∀ c P w, R c P → G w → Calls Tryd.prog 16 #[.agg c.toArray] w fun e w' => ∃ s, e = .returned s ∧ NewC w w' s 32 (encB P) ∧ Below w.heap.size w w'
  plus : ∀ c P d Q w, R c P → R d Q → G w → Calls Tryd.prog 24 #[.agg c.toArray, .agg d.toArray] w fun e w' => ∃ c', e = .returned (.agg c'.toArray) ∧ R c' (eadd dE P Q) ∧ Below w.heap.size w w'
  neg : ∀ c P w, R c P → G w → Calls Tryd.prog 27 #[.agg c.toArray] w fun e w' => ∃ c', e = .returned (.agg c'.toArray) ∧ R c' (eneg P) ∧ Below w.heap.size w w'
  same : ∀ c P d Q w, R c P → R d Q → G w → Calls Tryd.prog 14 #[.agg c.toArray, .agg d.toArray] w fun e w' => e = .returned (.bool (decide (P = Q))) ∧ Below w.heap.size w w'
  times : ∀ c P v ks w, R c P → (∀ j, ks j < 256) → BytesIn w v 32 ks → G w → Calls Tryd.prog 20 #[.agg c.toArray, v] w fun e w' => ∃ c', e = .returned (.tuple #[.agg c'.toArray, .int .i64 0]) ∧ R c' (emul dE (ofB ks 32) P) ∧ Below w.heap.size w w'
  timesBad : ∀ c P v n ks w, R c P → n ≠ 32 → BytesIn w v n ks → G w → Calls Tryd.prog 20 #[.agg c.toArray, v] w fun e w' => ∃ c', e = .returned (.tuple #[.agg c'.toArray, .int .i64 1]) ∧ R c' ezero ∧ Below w.heap.size w w'
  dec : ∀ v bs w, (∀ j, bs j < 256) → BytesIn w v 32 bs → G w → Calls Tryd.prog 9 #[v] w fun e w' => ∃ (c : List Value) (er : Int), e = .returned (.tuple #[.agg c.toArray, .int .i64 er]) ∧ Below w.heap.size w w' ∧
      ((er = 30 ∧ R c ezero ∧ decN bs = none) ∨ (er = 0 ∧ (decN bs).isSome = true ∧ ∃ P, R c P ∧ ∀ j, j < 32 → encB P j = bs j))
  decBad : ∀ v n bs w, n ≠ 32 → BytesIn w v n bs → G w → Calls Tryd.prog 9 #[v] w fun e w' => ∃ c, e = .returned (.tuple #[.agg c.toArray, .int .i64 1]) ∧ R c ezero ∧ Below w.heap.size w w'
theorem freshP (w : World) : RW (w.alloc (.cells zP 30)) w.heap.size 0 ((List.range 16).map fun _ => Value.int .u64 0) := RW.fresh w _ _
theorem infoP {c : List Value} (h : c.length = 16) : (Tryd.prog.info? 30).map (·.size) = some c.length := by rw [h]; exact infoPs
theorem infoPA {c : List Value} (h : c.length = 16) : (Tryd.prog.info? 30).map (·.size) = some c.toArray.size := by rw [List.size_toArray, h]; exact infoPs
theorem num6_any (n : Int) (w : World) : Calls Tryd.prog 11 #[.int .i64 n] w fun e w' => e = .returned (.int .i64 n) ∧ w' = w := by
  go_enter Tryd.func11, Tryd.ntmps11
  go_wp2
  go_ret
  exact ⟨rfl, rfl⟩
theorem enc_base0 : encB baseP 0 = 88 ∧ encB baseP 31 = 102 := by
  unfold encB baseP
  rw [ptXY_x yB xB_lt, ptXY_y xB yB_lt]
  exact ⟨by decide, by decide⟩
theorem enc_zero0 : encB ezero 0 = 1 := by
  unfold encB ezero
  rw [if_neg (by decide)]
  decide
end Go.Proofs.YteekjcfbnoakgaaDoor
namespace Go.Proofs.YteekjcfbnoakgaaDoor
open Go.RowKit
theorem thereP {w : World} {g : Nat} {c d : List Value} (r : RW w g 0 c) (hc : c.length = 16) (hd : d.length = 16) : w.there g 0 d.toArray.size := by
  have h := r.there
  rw [hc] at h
  rw [List.size_toArray, hd]; exact h
theorem boxP (w : World) (c : List Value) (hl : c.length = 16) : ∃ V, V = (w.alloc (.cells zP 30)).setCells w.heap.size 0 c ∧ RW V w.heap.size 0 c ∧ Below w.heap.size w V ∧ (w.alloc (.cells zP 30)).there w.heap.size 0 c.toArray.size :=
  ⟨_, rfl, (freshP w).stored _ (by rw [hl]; rfl), below_setCells (Nat.le_refl _) _ _ _ ((Below.refl _ _).alloc (Nat.le_refl _) _), thereP (freshP w) rfl hl⟩
set_option maxRecDepth 20000 in
set_option maxHeartbeats 4000000 in
theorem some6 {G : World → Prop} {R : List Value → Fp × Fp → Prop} (api : PointApi G R) (v : Value) (n : Nat) (bs : Nat → Nat) (hbs : ∀ j, bs j < 256) (w : World) (hv : BytesIn w v n bs) (hG : G w) :
    Calls Tryd.prog 22 #[v] w fun e w' => ∃ c, e = .returned (.agg c.toArray) ∧ R c (emul dE (ofB (fitB n bs) 32) baseP) ∧ Below w.heap.size w w' := by
  have hz := zeroP
  have hfl := fitB_lt (n := n) hbs
  have kl := api.len
  have ko := api.one
  have kk := api.keep
  have cb := api.base
  have ct := fun c v w hR hv hG => api.times c baseP v (fitB n bs) w hR hfl hv hG
  generalize emul dE (ofB (fitB n bs) 32) baseP = pr at *
  generalize baseP = pb at *
  clear hfl api
  obtain ⟨W, g0, eW, hg0, b, h0⟩ : ∃ V g, w.alloc (.cells zP 30) = V ∧ w.heap.size = g ∧ Below w.heap.size w V ∧ RW V g 0 ((List.range 16).map fun _ => Value.int .u64 0) := ⟨_, _, rfl, rfl, (Below.refl _ _).alloc (Nat.le_refl _) _, freshP w⟩
  have HW : Hid (w.alloc (.cells zP 30) = W) := Hid.mk' eW
  have Hg : Hid (w.heap.size = g0) := Hid.mk' hg0
  have w0 : w.heap.size ≤ g0 := Nat.le_of_eq hg0
  replace hG := kk _ _ hG b
  replace hv := hv.still b
  clear eW hg0
  go_enter Tryd.func22, Tryd.ntmps22
  go_wp2_with (first
    | (go_at_call 18; rw [HW.out, Hg.out]; refine (cb _ hG).mono ?_; clear cb HW Hg; rintro e w1 ⟨c1, rfl, hc1, hb1⟩; (replace h0 := h0.still hb1); (replace b := below_next b hb1); (replace hG := kk _ _ hG hb1); (replace hv := hv.still hb1); clear hb1)
    | (go_at_call 23; refine (fit_any v n bs _ hv).mono ?_; clear hv; rintro e w2 ⟨s2, rfl, hn2, hb2⟩; (replace h0 := h0.still hb2); (replace b := below_next b hb2); (replace hG := kk _ _ hG hb2); clear hb2; (have ct3 := ct c1 s2 w2 hc1 (NewB.bytes hn2 (by decide)) hG); clear ct hn2)
    | (go_at_call 20; refine ct3.mono ?_; clear ct3 hc1; rintro e w3 ⟨c3, rfl, hc3, hb3⟩; (replace h0 := h0.still hb3); (replace b := below_next b hb3); clear hb3 hG; (have l3 := kl _ _ hc3); (have o3 := ko _ _ hc3); (obtain ⟨V3, hV3, h3, b3, t3⟩ := boxP w3 c3 l3); (have H3 := Hid.mk' hV3); clear hV3; (replace h0 := h0.still b3); (replace b := below_next b b3); clear b3; (have t0 : V3.there g0 0 c3.toArray.size := thereP h0 rfl l3))
    | (with_reducible (refine id (?_ : wpList _ _ _ _ _ _)); refine wpList_store_mid rfl 30 _ _ rfl w3.heap.size 0 c3.toArray rfl rfl t3 (infoPA l3) o3 ?_; rw [List.toList_toArray, ← H3.out]; clear t3 H3)
    | (refine wpList_load_mid rfl 30 _ rfl w3.heap.size 0 rfl c3 _ h3.range Tryd.underlying30 rfl (infoP l3) ?_)
    | (with_reducible (refine id (?_ : wpList _ _ _ _ _ _)); refine wpList_store_mid rfl 30 _ _ rfl g0 0 c3.toArray rfl rfl t0 (infoPA l3) o3 ?_))
  (try simp only [Exit.inBlock, Exit.then])
  exact bodyPost_ret (results_cell_mid Tryd.results22 _ _ g0 0 c3 _ rfl (h0.stored c3 (by rw [l3]; rfl)).range Tryd.underlying30 rfl (infoP l3)) rfl ⟨c3, rfl, hc3, below_setCells w0 _ _ _ b⟩
end Go.Proofs.YteekjcfbnoakgaaDoor
namespace Go.Proofs.YteekjcfbnoakgaaDoor
open Go.RowKit
theorem bytesNil {w : World} : BytesIn w (.slice none 0 0) 0 (fun _ => 0) := .inl ⟨none, rfl, rfl⟩
set_option maxRecDepth 20000 in
set_option maxHeartbeats 8000000 in
theorem knows6 {G : World → Prop} {R : List Value → Fp × Fp → Prop} (api : PointApi G R) (w : World) (hG : G w) :
    Calls Tryd.prog 13 #[] w fun e w' => e = .returned (.bool true) ∧ Below w.heap.size w w' := by
  have hz := zeroP
  have kl := api.len
  have ko := api.one
  have kk := api.keep
  have cb := api.base
  have cz := api.zero
  have ceb := fun c w => api.enc c baseP w
  have cez := fun c w => api.enc c ezero w
  have cd := fun w hG => api.decBad (.slice none 0 0) 0 (fun _ => 0) w (by decide) bytesNil hG
  obtain ⟨e1, e2⟩ := enc_base0
  have e3 := enc_zero0
  generalize baseP = pb at *
  generalize ezero = pz at *
  generalize encB pb = XB at *
  generalize encB pz = XZ at *
  have b := Below.refl w.heap.size w
  clear api
  go_enter Tryd.func13, Tryd.ntmps13
  go_upto_region 4 with (first
    | (go_at_call 18; refine (cb _ hG).mono ?_; clear cb; rintro e w1 ⟨c1, rfl, hc1, hb1⟩; (replace b := below_next b hb1); (replace hG := kk _ _ hG hb1); clear hb1)
    | (go_at_call 16; refine (ceb c1 _ hc1 hG).mono ?_; clear ceb hc1; rintro e w2 ⟨s2, rfl, hn2, hb2⟩; (replace b := below_next b hb2); (replace hG := kk _ _ hG hb2); clear hb2; (obtain ⟨g2, k2, rfl, hk2, hg2, hr2⟩ := hn2); clear hg2)
    | (go_at_call 15; refine (cz _ hG).mono ?_; clear cz; rintro e w3 ⟨c3, rfl, hc3, hb3⟩; (replace b := below_next b hb3); (replace hG := kk _ _ hG hb3); (replace hr2 := hr2.below hb3 (block_lt_of_cell (hr2 0 (by decide)).1)); clear hb3)
    | (go_at_call 16; refine (cez c3 _ hc3 hG).mono ?_; clear cez hc3; rintro e w4 ⟨s4, rfl, hn4, hb4⟩; (replace b := below_next b hb4); (replace hG := kk _ _ hG hb4); (replace hr2 := hr2.below hb4 (block_lt_of_cell (hr2 0 (by decide)).1)); clear hb4; (obtain ⟨g4, k4, rfl, hk4, hg4, hr4⟩ := hn4); clear hg4)
    | (go_at_call 9; refine (cd _ hG).mono ?_; clear cd; rintro e w5 ⟨c5, rfl, hc5, hb5⟩; (replace b := below_next b hb5); clear hG; (replace hr2 := hr2.below hb5 (block_lt_of_cell (hr2 0 (by decide)).1)); (replace hr4 := hr4.below hb5 (block_lt_of_cell (hr4 0 (by decide)).1)); clear hb5; (have l5 := kl _ _ hc5); (have o5 := ko _ _ hc5); (obtain ⟨V5, hV5, h5, b5, t5⟩ := boxP w5 c5 l5); (have H5 := Hid.mk' hV5); clear hV5 hc5; (replace b := below_next b b5); (replace hr2 := hr2.below b5 (block_lt_of_cell (hr2 0 (by decide)).1)); (replace hr4 := hr4.below b5 (block_lt_of_cell (hr4 0 (by decide)).1)); clear b5)
    | (with_reducible (refine id (?_ : wpList _ _ _ _ _ _)); refine wpList_store_mid rfl 30 _ _ rfl w5.heap.size 0 c5.toArray rfl rfl t5 (infoPA l5) o5 ?_; rw [List.toList_toArray, ← H5.out]; clear t5 H5))
  (try dsimp only [Act.put])
  have q0 := (hr2 0 (by decide)).1
  have q31 := (hr2 31 (by decide)).1
  have z0 := (hr4 0 (by decide)).1
  rw [Nat.zero_add, e1] at q0
  rw [Nat.zero_add, e2] at q31
  rw [Nat.zero_add, e3] at z0
  clear hr2 hr4 e1 e2 e3 h5 kl ko kk
  go_wp2_with (go_at_call 11; refine (num6_any _ _).mono ?_; rintro e wn ⟨rfl, hwn⟩; subst hwn)
  go_ret
  exact ⟨rfl, b⟩
end Go.Proofs.YteekjcfbnoakgaaDoor
namespace Go.Proofs.YteekjcfbnoakgaaDoor
open Go.RowKit
def decE (n : Nat) (bs : Nat → Nat) : Int := if n = 32 then (if (decN bs).isSome = true then 0 else 30) else 1
def DecR {α : Type} (R : α → Fp × Fp → Prop) (c : α) (n : Nat) (bs : Nat → Nat) : Prop := (decE n bs = 0 → n = 32 ∧ ∃ P, R c P ∧ ∀ j, j < 32 → encB P j = bs j) ∧ (decE n bs ≠ 0 → R c ezero)
theorem decE_bad {n : Nat} {bs : Nat → Nat} (h : n ≠ 32) : decE n bs = 1 := if_neg h
theorem decE_none {bs : Nat → Nat} (h : decN bs = none) : decE 32 bs = 30 := by unfold decE; rw [if_pos rfl, h]; rfl
theorem decE_some {bs : Nat → Nat} (h : (decN bs).isSome = true) : decE 32 bs = 0 := by unfold decE; rw [if_pos rfl, if_pos h]
theorem DecR.bad {α : Type} {R : α → Fp × Fp → Prop} {c : α} {n : Nat} {bs : Nat → Nat} (h : decE n bs ≠ 0) (hR : R c ezero) : DecR R c n bs := ⟨fun e => absurd e h, fun _ => hR⟩
theorem DecR.good {α : Type} {R : α → Fp × Fp → Prop} {c : α} {bs : Nat → Nat} (h : decE 32 bs = 0) (hR : ∃ P, R c P ∧ ∀ j, j < 32 → encB P j = bs j) : DecR R c 32 bs := ⟨fun _ => ⟨rfl, hR⟩, fun e => absurd h e⟩
theorem api_dec {G : World → Prop} {R : List Value → Fp × Fp → Prop} (api : PointApi G R) (v : Value) (n : Nat) (bs : Nat → Nat) (hbs : ∀ j, bs j < 256) (w : World) (hv : BytesIn w v n bs) (hG : G w) :
    Calls Tryd.prog 9 #[v] w fun e w' => ∃ c : List Value, e = .returned (.tuple #[.agg c.toArray, .int .i64 (decE n bs)]) ∧ DecR R c n bs ∧ Below w.heap.size w w' := by
  by_cases hn : n = 32
  · subst hn
    refine (api.dec v bs w hbs hv hG).mono fun e w' ⟨c, er, he, hb, h⟩ => ?_
    rcases h with ⟨rfl, h1, h2⟩ | ⟨rfl, h1, h2⟩
    · exact ⟨c, by rw [decE_none h2]; exact he, .bad (by rw [decE_none h2]; decide) h1, hb⟩
    · exact ⟨c, by rw [decE_some h1]; exact he, .good (decE_some h1) h2, hb⟩
  · refine (api.decBad v n bs w hn hv hG).mono fun e w' ⟨c, he, h1, hb⟩ => ⟨c, by rw [decE_bad hn]; exact he, .bad (by rw [decE_bad hn]; decide) h1, hb⟩
theorem ref_dec (v : Value) (n : Nat) (bs : Nat → Nat) (hbs : ∀ j, bs j < 256) (w : World) (hv : BytesIn w v n bs) :
    Calls Tryd.prog 10 #[v] w fun e w' => ∃ t : P4, e = .returned (.tuple #[.agg (q64 t.X t.Y t.Z t.T).toArray, .int .i64 (decE n bs)]) ∧ DecR P4.Pt t n bs ∧ Below w.heap.size w w' := by
  by_cases hn : n = 32
  · subst hn
    refine (rdec_pt v bs hbs w hv).mono fun e w' ⟨t, er, he, hb, h⟩ => ?_
    rcases h with ⟨rfl, h1, h2⟩ | ⟨rfl, h1, h2⟩
    · exact ⟨t, by rw [decE_none h2]; exact he, .bad (by rw [decE_none h2]; decide) h1, hb⟩
    · exact ⟨t, by rw [decE_some h1]; exact he, .good (decE_some h1) h2, hb⟩
  · refine (rdec_bad v n bs w hv hn).mono fun e w' ⟨t, he, h1, hb⟩ => ⟨t, by rw [decE_bad hn]; exact he, .bad (by rw [decE_bad hn]; decide) ⟨ezero_on dE, _, h1, zeroN_ok, zeroN_ext⟩, hb⟩
theorem boxQ (w : World) (t : P4) : ∃ V, V = (w.alloc (.cells zQ 38)).setCells w.heap.size 0 (q64 t.X t.Y t.Z t.T) ∧ RW V w.heap.size 0 (q64 t.X t.Y t.Z t.T) ∧ Below w.heap.size w V ∧ (w.alloc (.cells zQ 38)).there w.heap.size 0 (q64 t.X t.Y t.Z t.T).toArray.size :=
  ⟨_, rfl, (freshQ' w).stored _ (q64_same _ _ _ _ _ _ _ _), below_setCells (Nat.le_refl _) _ _ _ ((Below.refl _ _).alloc (Nat.le_refl _) _), there64 (freshQ' w)⟩
theorem lentB {W : World} {g cap n : Nat} {bs : Nat → Nat} (hr : RowAt .u8 W g 0 (n + 2) (cat n bs room)) (hc : n + 2 ≤ cap) : BytesIn W (.slice (some ⟨g, 0, none⟩) n cap) n bs :=
  .inr ⟨g, 0, cap, rfl, block_lt_of_cell (hr 0 (by omega)).1, by omega, fun j hj => by have := (hr j (by omega)).1; rwa [cat_left hj] at this⟩
/-- Lent bytes. -/
structure LentAt (w : World) (g n : Nat) (bs : Nat → Nat) : Prop where
  row : RowAt .u8 w g 0 (n + 2) (cat n bs room)
theorem LentAt.still {w w' : World} {g n : Nat} {bs : Nat → Nat} (h : LentAt w g n bs) (hb : Below w.heap.size w w') : LentAt w' g n bs := ⟨h.row.below hb (block_lt_of_cell (h.row 0 (by omega)).1)⟩
end Go.Proofs.YteekjcfbnoakgaaDoor
namespace Go.Proofs.YteekjcfbnoakgaaDoor
open Go.RowKit
theorem enc_back {P : Fp × Fp} {bs : Nat → Nat} (hbs : ∀ j, bs j < 256) (h : ∀ j, j < 32 → encB P j = bs j) : strB 32 (encB P) = strB 32 bs := (strB_eq (encB_lt P) hbs).2 ⟨rfl, h⟩
set_option maxRecDepth 20000 in
set_option maxHeartbeats 8000000 in
theorem pbytes_bad {G : World → Prop} {R : List Value → Fp × Fp → Prop} (api : PointApi G R) (v : Value) (n : Nat) (bs : Nat → Nat) (hbs : ∀ j, bs j < 256) (hn : n < 140737488355000) (w : World) (hv : BytesIn w v n bs) (hG : G w) (hE : decE n bs ≠ 0) :
    Calls Tryd.prog 3 #[v] w fun e w' => e = .returned (.bool true) ∧ Below w.heap.size w w' := by
  have hz := zeroP
  have hzq := zeroQ
  have kl := api.len
  have ko := api.one
  have kk := api.keep
  have cl := lent_any v n bs w hv hn
  have ck := fun w hG => knows6 api w hG
  have cd := fun x w hv hG => api_dec api x n bs hbs w hv hG
  have cr := fun w hv => ref_dec v n bs hbs w hv
  have cs := fun g cap w (hc : n + 2 ≤ cap) (hr : RowAt .u8 w g 0 (n + 2) (cat n bs room)) hv => stays_any g cap n v bs hbs w hn hc hr hv
  have czz := api.zero
  have css := fun c d w (hc : R c ezero) (hd : R d ezero) hG => api.same c ezero d ezero w hc hd hG
  rw [decide_eq_true (rfl : ezero = ezero)] at css
  have hdec : ∀ c, DecR R c n bs → R c ezero := fun c h => h.2 hE
  clear api
  generalize decE n bs = er at *
  go_enter Tryd.func3, Tryd.ntmps3
  go_upto_region 7 with (first
    | (go_at_call 8; refine cl.mono ?_; clear cl; rintro e w1 ⟨g1, cap1, rfl, hcap1, hg1, hr1, b⟩; (replace hv := hv.still b); (have cd1 := cd _ w1 (lentB hr1 hcap1) (kk _ _ hG b)); (have le := LentAt.mk hr1); clear cd hr1 hg1)
    | (go_at_call 9; refine cd1.mono ?_; clear cd1; rintro e w2 ⟨c2, rfl, hc2, hb2⟩; (replace hv := hv.still hb2); (replace le := le.still hb2); (replace b := below_next b hb2); clear hb2; (replace hc2 := hdec _ hc2); (have l2 := kl _ _ hc2); (have o2 := ko _ _ hc2); (obtain ⟨V2, hV2, h2, b2, t2⟩ := boxP w2 c2 l2); (have H2 := Hid.mk' hV2); clear hV2; (replace hv := hv.still b2); (replace le := le.still b2); (replace b := below_next b b2); clear b2; (have cr2 := cr V2 hv); clear cr)
    | (with_reducible (refine id (?_ : wpList _ _ _ _ _ _)); refine wpList_store_mid rfl 30 _ _ rfl w2.heap.size 0 c2.toArray rfl rfl t2 (infoPA l2) o2 ?_; rw [List.toList_toArray, ← H2.out]; clear t2 H2)
    | (go_at_call 10; refine cr2.mono ?_; clear cr2; rintro e w3 ⟨t3, rfl, hc3, hb3⟩; (replace hv := hv.still hb3); (replace le := le.still hb3); (replace h2 := h2.still hb3); (replace b := below_next b hb3); clear hb3; (obtain ⟨V3, hV3, h3, b3, u3⟩ := boxQ w3 t3); (have H3 := Hid.mk' hV3); clear hV3; (replace hv := hv.still b3); (replace le := le.still b3); (replace h2 := h2.still b3); (replace b := below_next b b3); clear b3; (have cs3 := cs g1 cap1 V3 hcap1 le.row hv); clear cs)
    | (with_reducible (refine id (?_ : wpList _ _ _ _ _ _)); refine wpList_store_mid rfl 38 _ _ rfl w3.heap.size 0 (q64 t3.X t3.Y t3.Z t3.T).toArray rfl rfl u3 (infoQA _ _ _ _) (oneQ _ _ _ _) ?_; rw [List.toList_toArray, ← H3.out]; clear u3 H3)
    | (go_at_call 11; refine (num6_any _ _).mono ?_; rintro e wn ⟨rfl, hwn⟩; subst hwn)
    | (go_at_call 12; refine cs3.mono ?_; clear cs3; rintro e w4 ⟨rfl, hb4⟩; (replace hv := hv.still hb4); (replace h2 := h2.still hb4); (replace h3 := h3.still hb4); (replace b := below_next b hb4); clear hb4 le; (have ck4 := ck w4 (kk _ _ hG b)); clear ck)
    | (go_at_call 13; refine ck4.mono ?_; clear ck4; rintro e w5 ⟨rfl, hb5⟩; (replace hv := hv.still hb5); (replace h2 := h2.still hb5); (replace h3 := h3.still hb5); (replace b := below_next b hb5); clear hb5))
  (try simp only [Act.put, List.setIfInBounds_toArray, List.set_cons_zero, List.set_cons_succ])
  have hdrew : Below w5.heap.size w5 w5.drew := (Below.refl _ _).drew
  replace h2 := h2.still hdrew
  replace b := below_next b hdrew
  clear hdrew
  refine wp_region_noPanic ?_
  refine wp_region_held_drew (S := fun w' => Below w5.drew.heap.size w5.drew w') (by kernel_rfl) (Below.refl _ _) (fun hHeld => ?_)
  clear hHeld
  refine wpAnyH_take (i := 0) (oi := { dst := some 36, op := Op.load 30 (Operand.tmp 4), type := 30, pos := "law.go:32", after := #[], guard := none }) (v := .agg c2.toArray) rfl (by kernel_rfl) (by kernel_rfl) (by kernel_rfl) (fun _ _ _ h => h) (yieldsIf_load_mid (by rfl) 30 _ rfl w2.heap.size 0 rfl (c2) _ (fun _ h => (h2.still h).range) Tryd.underlying30 rfl (infoP l2)) (Below.refl _ _) ?_
  (try simp only [Act.put, List.setIfInBounds_toArray, List.set_cons_zero, List.set_cons_succ])
  refine wpAnyH_ready (rs := [1]) (by kernel_rfl) (by simp) ?_
  refine AllReadyH.cons (o := { dst := some 37, op := Op.call { callee := Callee.value (Operand.func 15), args := #[], argTypes := #[] }, type := 30, pos := "law.go:32", after := #[], guard := none }) rfl (fun K hK => ?_) AllReadyH.nil
  go_simp
  (go_at_call 15; refine (czz _ (by first | exact kk _ _ hG b | exact kk _ _ hG (below_next b (Below.refl _ _)))).mono ?_; clear czz; rintro e w7 ⟨c7, rfl, hc7, hb7⟩)
  (try go_simp)
  refine hK.out _ _ hb7 (fun h => ?_)
  clear h hK K
  refine wpAnyH_narrow (S' := fun w' => Below w7.heap.size w7 w') (fun _ h => below_next hb7 h) _ _ _ _ ?_
  clear h2
  replace b := below_next b hb7
  clear hb7
  (try simp only [Act.put, List.setIfInBounds_toArray, List.set_cons_zero, List.set_cons_succ])
  refine wpAnyH_ready (rs := [2]) (by kernel_rfl) (by simp) ?_
  refine AllReadyH.cons (o := { dst := some 38, op := Op.call { callee := Callee.value (Operand.func 14), args := #[Operand.tmp 36, Operand.tmp 37], argTypes := #[30, 30] }, type := 4, pos := "law.go:32", after := #[{ on := 0, ground := Ground.data }, { on := 1, ground := Ground.data }, { on := 1, ground := Ground.chain }], guard := none }) rfl (fun K hK => ?_) AllReadyH.nil
  go_simp
  (go_at_call 14; refine (css c2 c7 _ hc2 hc7 (kk _ _ hG b)).mono ?_; clear css; rintro e w8 ⟨rfl, hb8⟩)
  (try go_simp)
  refine hK.out _ _ hb8 (fun h => ?_)
  clear h hK K
  refine wpAnyH_narrow (S' := fun w' => Below w8.heap.size w8 w') (fun _ h => below_next hb8 h) _ _ _ _ ?_
  replace b := below_next b hb8
  clear hb8
  (try simp only [Act.put, List.setIfInBounds_toArray, List.set_cons_zero, List.set_cons_succ])
  refine wpAnyH_take (i := 3) (oi := { dst := some 2, op := Op.assign (Operand.tmp 38), type := 4, pos := "law.go:32", after := #[{ on := 2, ground := Ground.data }, { on := 2, ground := Ground.chain }, { on := 0, ground := Ground.phase }, { on := 1, ground := Ground.phase }, { on := 2, ground := Ground.phase }], guard := none }) (v := ?va3) rfl (by kernel_rfl) (by kernel_rfl) (by kernel_rfl) (fun _ _ _ h => h) (Or.inl ⟨by rfl, ?ha3⟩) (Below.refl _ _) ?ra3
  case ha3 =>
    intro w hSw
    go_simp
    try with_reducible rfl
  (try simp only [Act.put, List.setIfInBounds_toArray, List.set_cons_zero, List.set_cons_succ])
  refine wpAnyH_done (by kernel_rfl) ?_ _
  refine NoPanic.normal ?_
  go_wp2
  go_ret
  exact ⟨rfl, b⟩
set_option maxRecDepth 20000 in
set_option maxHeartbeats 8000000 in
theorem pbytes_good {G : World → Prop} {R : List Value → Fp × Fp → Prop} (api : PointApi G R) (v : Value) (n : Nat) (bs : Nat → Nat) (hbs : ∀ j, bs j < 256) (hn : n < 140737488355000) (w : World) (hv : BytesIn w v n bs) (hG : G w) (hE : decE n bs = 0) :
    Calls Tryd.prog 3 #[v] w fun e w' => e = .returned (.bool true) ∧ Below w.heap.size w w' := by
  have hz := zeroP
  have hzq := zeroQ
  have kl := api.len
  have ko := api.one
  have kk := api.keep
  have cl := lent_any v n bs w hv hn
  have ck := fun w hG => knows6 api w hG
  have cd := fun x w hv hG => api_dec api x n bs hbs w hv hG
  have cr := fun w hv => ref_dec v n bs hbs w hv
  have cs := fun g cap w (hc : n + 2 ≤ cap) (hr : RowAt .u8 w g 0 (n + 2) (cat n bs room)) hv => stays_any g cap n v bs hbs w hn hc hr hv
  have hdec : ∀ c, DecR R c n bs → ∃ P, R c P ∧ ∀ j, j < 32 → encB P j = bs j := fun c h => (h.1 hE).2
  have hdecq : ∀ c, DecR P4.Pt c n bs → ∃ P, c.Pt P ∧ ∀ j, j < 32 → encB P j = bs j := fun c h => (h.1 hE).2
  have hse : ((strB n bs).toList == (strB n bs).toList) = true := beq_self_eq_true _
  have h32 : n = 32 := by
    by_cases h : n = 32
    · exact h
    · rw [decE_bad h] at hE; cases hE
  have ee : ∀ P, (∀ j, j < 32 → encB P j = bs j) → strB 32 (encB P) = strB n bs := fun P h => by rw [h32]; exact enc_back hbs h
  rw [hE] at cd cr
  clear hE h32
  go_enter Tryd.func3, Tryd.ntmps3
  go_upto_region 8 with (first
    | (go_at_call 8; refine cl.mono ?_; clear cl; rintro e w1 ⟨g1, cap1, rfl, hcap1, hg1, hr1, b⟩; (replace hv := hv.still b); (have cd1 := cd _ w1 (lentB hr1 hcap1) (kk _ _ hG b)); (have le := LentAt.mk hr1); clear cd hr1 hg1)
    | (go_at_call 9; refine cd1.mono ?_; clear cd1; rintro e w2 ⟨c2, rfl, hc2, hb2⟩; (replace hv := hv.still hb2); (replace le := le.still hb2); (replace b := below_next b hb2); clear hb2; (replace hc2 := hdec _ hc2); (obtain ⟨P2, hc2, e2⟩ := hc2); (have l2 := kl _ _ hc2); (have o2 := ko _ _ hc2); (obtain ⟨V2, hV2, h2, b2, t2⟩ := boxP w2 c2 l2); (have H2 := Hid.mk' hV2); clear hV2; (replace hv := hv.still b2); (replace le := le.still b2); (replace b := below_next b b2); clear b2; (have cr2 := cr V2 hv); clear cr)
    | (with_reducible (refine id (?_ : wpList _ _ _ _ _ _)); refine wpList_store_mid rfl 30 _ _ rfl w2.heap.size 0 c2.toArray rfl rfl t2 (infoPA l2) o2 ?_; rw [List.toList_toArray, ← H2.out]; clear t2 H2)
    | (go_at_call 10; refine cr2.mono ?_; clear cr2; rintro e w3 ⟨t3, rfl, hc3, hb3⟩; (replace hv := hv.still hb3); (replace le := le.still hb3); (replace h2 := h2.still hb3); (replace b := below_next b hb3); clear hb3; (obtain ⟨V3, hV3, h3, b3, u3⟩ := boxQ w3 t3); (have H3 := Hid.mk' hV3); clear hV3; (replace hv := hv.still b3); (replace le := le.still b3); (replace h2 := h2.still b3); (replace b := below_next b b3); clear b3; (have cs3 := cs g1 cap1 V3 hcap1 le.row hv); clear cs)
    | (with_reducible (refine id (?_ : wpList _ _ _ _ _ _)); refine wpList_store_mid rfl 38 _ _ rfl w3.heap.size 0 (q64 t3.X t3.Y t3.Z t3.T).toArray rfl rfl u3 (infoQA _ _ _ _) (oneQ _ _ _ _) ?_; rw [List.toList_toArray, ← H3.out]; clear u3 H3)
    | (go_at_call 11; refine (num6_any _ _).mono ?_; rintro e wn ⟨rfl, hwn⟩; subst hwn)
    | (go_at_call 12; refine cs3.mono ?_; clear cs3; rintro e w4 ⟨rfl, hb4⟩; (replace hv := hv.still hb4); (replace h2 := h2.still hb4); (replace h3 := h3.still hb4); (replace b := below_next b hb4); clear hb4 le; (have ck4 := ck w4 (kk _ _ hG b)); clear ck)
    | (go_at_call 13; refine ck4.mono ?_; clear ck4; rintro e w5 ⟨rfl, hb5⟩; (replace hv := hv.still hb5); (replace h2 := h2.still hb5); (replace h3 := h3.still hb5); (replace b := below_next b hb5); clear hb5))
  (try simp only [Act.put, List.setIfInBounds_toArray, List.set_cons_zero, List.set_cons_succ])
  obtain ⟨Q3, hq3, e3⟩ := hdecq _ hc3
  have ce := fun w hG => api.enc c2 P2 w hc2 hG
  have cq : ∀ W, Calls Tryd.prog 17 #[.agg (q64 t3.X t3.Y t3.Z t3.T).toArray] W fun e w' => ∃ v, e = .returned v ∧ NewC W w' v 32 (encB Q3) ∧ Below W.heap.size W w' := fun W => renc_pt hq3 W
  have eP := ee _ e2
  have eQ := ee _ e3
  have tb := Str.of hv hbs
  obtain ⟨xb, nb, kb, rfl⟩ := tb.form
  clear api hdec hdecq ee e2 e3 hc3
  generalize strB n bs = S at *
  have hdrew : Below w5.heap.size w5 w5.drew := (Below.refl _ _).drew
  replace h2 := h2.still hdrew
  replace h3 := h3.still hdrew
  replace tb := tb.still hdrew
  replace b := below_next b hdrew
  clear hdrew
  refine wp_region_noPanic ?_
  refine wp_region_held_drew (S := fun w' => Below w5.drew.heap.size w5.drew w') (by kernel_rfl) (Below.refl _ _) (fun hHeld => ?_)
  clear hHeld
  refine wpAnyH_take (i := 0) (oi := { dst := some 39, op := Op.load 30 (Operand.tmp 4), type := 30, pos := "law.go:34", after := #[], guard := none }) (v := .agg c2.toArray) rfl (by kernel_rfl) (by kernel_rfl) (by kernel_rfl) (fun _ _ _ h => h) (yieldsIf_load_mid (by rfl) 30 _ rfl w2.heap.size 0 rfl (c2) _ (fun _ h => (h2.still h).range) Tryd.underlying30 rfl (infoP l2)) (Below.refl _ _) ?_
  (try simp only [Act.put, List.setIfInBounds_toArray, List.set_cons_zero, List.set_cons_succ])
  refine wpAnyH_take (i := 3) (oi := { dst := some 42, op := Op.move (Operand.tmp 0), type := 22, pos := "law.go:34", after := #[], guard := none }) (v := ?vb3) rfl (by kernel_rfl) (by kernel_rfl) (by kernel_rfl) (fun _ _ _ h => h) (Or.inl ⟨by rfl, ?hb3⟩) (Below.refl _ _) ?rb3
  case hb3 =>
    intro w hSw
    go_simp
    try with_reducible rfl
  (try simp only [Act.put, List.setIfInBounds_toArray, List.set_cons_zero, List.set_cons_succ])
  refine wpAnyH_take (i := 4) (oi := { dst := some 43, op := Op.convert 22 9 (Operand.tmp 42), type := 9, pos := "law.go:34", after := #[{ on := 3, ground := Ground.data }], guard := none }) (v := ?vb4) rfl (by kernel_rfl) (by kernel_rfl) (by kernel_rfl) (fun _ _ _ h => h) (Or.inl ⟨by rfl, ?hb4⟩) (Below.refl _ _) ?rb4
  case hb4 =>
    intro w hSw
    have q := tb.conv w hSw
    go_simp
    try with_reducible rfl
  (try simp only [Act.put, List.setIfInBounds_toArray, List.set_cons_zero, List.set_cons_succ])
  refine wpAnyH_ready (rs := [1]) (by kernel_rfl) (by simp) ?_
  refine AllReadyH.cons (o := { dst := some 40, op := Op.call { callee := Callee.value (Operand.func 16), args := #[Operand.tmp 39], argTypes := #[30] }, type := 22, pos := "law.go:34", after := #[{ on := 0, ground := Ground.data }], guard := none }) rfl (fun K hK => ?_) AllReadyH.nil
  go_simp
  (go_at_call 16; refine (ce _ (kk _ _ hG b)).mono ?_; clear ce; rintro e w6 ⟨v6, rfl, hn6, hb6⟩; (have t6 := Str.of (NewC.bytes hn6 (by decide)) (encB_lt _)); (obtain ⟨x6, n6, k6, rfl⟩ := t6.form); rw [eP] at t6; clear hn6)
  (try go_simp)
  refine hK.out _ _ hb6 (fun h => ?_)
  clear h hK K
  refine wpAnyH_narrow (S' := fun w' => Below w6.heap.size w6 w') (fun _ h => below_next hb6 h) _ _ _ _ ?_
  clear h2
  replace h3 := h3.still hb6
  replace tb := tb.still hb6
  replace b := below_next b hb6
  clear hb6
  (try simp only [Act.put, List.setIfInBounds_toArray, List.set_cons_zero, List.set_cons_succ])
  refine wpAnyH_take (i := 2) (oi := { dst := some 41, op := Op.convert 22 9 (Operand.tmp 40), type := 9, pos := "law.go:34", after := #[{ on := 1, ground := Ground.data }], guard := none }) (v := ?vb2) rfl (by kernel_rfl) (by kernel_rfl) (by kernel_rfl) (fun _ _ _ h => h) (Or.inl ⟨by rfl, ?hb2⟩) (Below.refl _ _) ?rb2
  case hb2 =>
    intro w hSw
    have q := t6.conv w hSw
    go_simp
    try with_reducible rfl
  (try simp only [Act.put, List.setIfInBounds_toArray, List.set_cons_zero, List.set_cons_succ])
  refine wpAnyH_take (i := 5) (oi := { dst := some 44, op := Op.binOp BinOp.eql 9 (Operand.tmp 41) (Operand.tmp 43) 9, type := 4, pos := "law.go:34", after := #[{ on := 2, ground := Ground.data }, { on := 4, ground := Ground.data }], guard := none }) (v := ?vb5) rfl (by kernel_rfl) (by kernel_rfl) (by kernel_rfl) (fun _ _ _ h => h) (Or.inl ⟨by rfl, ?hb5⟩) (Below.refl _ _) ?rb5
  case hb5 =>
    intro w hSw
    go_simp
    try with_reducible rfl
  (try simp only [Act.put, List.setIfInBounds_toArray, List.set_cons_zero, List.set_cons_succ])
  refine wpAnyH_take (i := 6) (oi := { dst := some 45, op := Op.move (Operand.tmp 44), type := 4, pos := "law.go:34", after := #[{ on := 5, ground := Ground.data }, { on := 1, ground := Ground.chain }], guard := none }) (v := ?vb6) rfl (by kernel_rfl) (by kernel_rfl) (by kernel_rfl) (fun _ _ _ h => h) (Or.inl ⟨by rfl, ?hb6⟩) (Below.refl _ _) ?rb6
  case hb6 =>
    intro w hSw
    go_simp
    try with_reducible rfl
  (try simp only [Act.put, List.setIfInBounds_toArray, List.set_cons_zero, List.set_cons_succ])
  refine wpAnyH_take (i := 7) (oi := { dst := some 46, op := Op.load 38 (Operand.tmp 6), type := 38, pos := "law.go:34", after := #[{ on := 6, ground := Ground.guard }], guard := some (6, true) }) (v := .agg (q64 t3.X t3.Y t3.Z t3.T).toArray) rfl (by kernel_rfl) (by kernel_rfl) (by kernel_rfl) (fun _ _ _ h => h) (yieldsIf_load_mid (by rfl) 38 _ rfl w3.heap.size 0 rfl (q64 t3.X t3.Y t3.Z t3.T) _ (fun _ h => (h3.still h).range) Tryd.underlying38 rfl (infoQ _ _ _ _)) (Below.refl _ _) ?_
  (try simp only [Act.put, List.setIfInBounds_toArray, List.set_cons_zero, List.set_cons_succ])
  refine wpAnyH_take (i := 10) (oi := { dst := some 49, op := Op.move (Operand.tmp 0), type := 22, pos := "law.go:34", after := #[{ on := 6, ground := Ground.guard }], guard := some (6, true) }) (v := ?vb10) rfl (by kernel_rfl) (by kernel_rfl) (by kernel_rfl) (fun _ _ _ h => h) (Or.inl ⟨by rfl, ?hb10⟩) (Below.refl _ _) ?rb10
  case hb10 =>
    intro w hSw
    go_simp
    try with_reducible rfl
  (try simp only [Act.put, List.setIfInBounds_toArray, List.set_cons_zero, List.set_cons_succ])
  refine wpAnyH_take (i := 11) (oi := { dst := some 50, op := Op.convert 22 9 (Operand.tmp 49), type := 9, pos := "law.go:34", after := #[{ on := 10, ground := Ground.data }, { on := 6, ground := Ground.guard }], guard := some (6, true) }) (v := ?vb11) rfl (by kernel_rfl) (by kernel_rfl) (by kernel_rfl) (fun _ _ _ h => h) (Or.inl ⟨by rfl, ?hb11⟩) (Below.refl _ _) ?rb11
  case hb11 =>
    intro w hSw
    have q := tb.conv w hSw
    go_simp
    try with_reducible rfl
  (try simp only [Act.put, List.setIfInBounds_toArray, List.set_cons_zero, List.set_cons_succ])
  refine wpAnyH_ready (rs := [8]) (by kernel_rfl) (by simp) ?_
  refine AllReadyH.cons (o := { dst := some 47, op := Op.call { callee := Callee.value (Operand.func 17), args := #[Operand.tmp 46], argTypes := #[38] }, type := 22, pos := "law.go:34", after := #[{ on := 7, ground := Ground.data }, { on := 6, ground := Ground.chain }, { on := 6, ground := Ground.guard }], guard := some (6, true) }) rfl (fun K hK => ?_) AllReadyH.nil
  go_simp
  (go_at_call 17; refine (cq _).mono ?_; clear cq; rintro e w7 ⟨v7, rfl, hn7, hb7⟩; (have t7 := Str.of (NewC.bytes hn7 (by decide)) (encB_lt _)); (obtain ⟨x7, n7, k7, rfl⟩ := t7.form); rw [eQ] at t7; clear hn7)
  (try go_simp)
  refine hK.out _ _ hb7 (fun h => ?_)
  clear h hK K
  refine wpAnyH_narrow (S' := fun w' => Below w7.heap.size w7 w') (fun _ h => below_next hb7 h) _ _ _ _ ?_
  clear h3
  replace tb := tb.still hb7
  replace t6 := t6.still hb7
  replace b := below_next b hb7
  clear hb7
  (try simp only [Act.put, List.setIfInBounds_toArray, List.set_cons_zero, List.set_cons_succ])
  refine wpAnyH_take (i := 9) (oi := { dst := some 48, op := Op.convert 22 9 (Operand.tmp 47), type := 9, pos := "law.go:34", after := #[{ on := 8, ground := Ground.data }, { on := 6, ground := Ground.guard }], guard := some (6, true) }) (v := ?vb9) rfl (by kernel_rfl) (by kernel_rfl) (by kernel_rfl) (fun _ _ _ h => h) (Or.inl ⟨by rfl, ?hb9⟩) (Below.refl _ _) ?rb9
  case hb9 =>
    intro w hSw
    have q := t7.conv w hSw
    go_simp
    try with_reducible rfl
  (try simp only [Act.put, List.setIfInBounds_toArray, List.set_cons_zero, List.set_cons_succ])
  refine wpAnyH_take (i := 12) (oi := { dst := some 51, op := Op.binOp BinOp.eql 9 (Operand.tmp 48) (Operand.tmp 50) 9, type := 4, pos := "law.go:34", after := #[{ on := 9, ground := Ground.data }, { on := 11, ground := Ground.data }, { on := 6, ground := Ground.guard }], guard := some (6, true) }) (v := ?vb12) rfl (by kernel_rfl) (by kernel_rfl) (by kernel_rfl) (fun _ _ _ h => h) (Or.inl ⟨by rfl, ?hb12⟩) (Below.refl _ _) ?rb12
  case hb12 =>
    intro w hSw
    go_simp
    try with_reducible rfl
  (try simp only [Act.put, List.setIfInBounds_toArray, List.set_cons_zero, List.set_cons_succ])
  refine wpAnyH_take (i := 13) (oi := { dst := some 52, op := Op.pick (Operand.tmp 45) (Operand.tmp 51) (Operand.const (Value.bool false)), type := 4, pos := "law.go:34", after := #[{ on := 6, ground := Ground.data }, { on := 12, ground := Ground.data }], guard := none }) (v := ?vb13) rfl (by kernel_rfl) (by kernel_rfl) (by kernel_rfl) (fun _ _ _ h => h) (Or.inl ⟨by rfl, ?hb13⟩) (Below.refl _ _) ?rb13
  case hb13 =>
    intro w hSw
    go_simp
    try with_reducible rfl
  (try simp only [Act.put, List.setIfInBounds_toArray, List.set_cons_zero, List.set_cons_succ])
  refine wpAnyH_take (i := 14) (oi := { dst := some 2, op := Op.assign (Operand.tmp 52), type := 4, pos := "law.go:34", after := #[{ on := 13, ground := Ground.data }, { on := 8, ground := Ground.chain }, { on := 0, ground := Ground.phase }, { on := 1, ground := Ground.phase }, { on := 2, ground := Ground.phase }, { on := 3, ground := Ground.phase }, { on := 4, ground := Ground.phase }, { on := 5, ground := Ground.phase }, { on := 6, ground := Ground.phase }, { on := 7, ground := Ground.phase }, { on := 8, ground := Ground.phase }, { on := 9, ground := Ground.phase }, { on := 10, ground := Ground.phase }, { on := 11, ground := Ground.phase }, { on := 12, ground := Ground.phase }, { on := 13, ground := Ground.phase }], guard := none }) (v := ?vb14) rfl (by kernel_rfl) (by kernel_rfl) (by kernel_rfl) (fun _ _ _ h => h) (Or.inl ⟨by rfl, ?hb14⟩) (Below.refl _ _) ?rb14
  case hb14 =>
    intro w hSw
    go_simp
    try with_reducible rfl
  (try simp only [Act.put, List.setIfInBounds_toArray, List.set_cons_zero, List.set_cons_succ])
  refine wpAnyH_done (by kernel_rfl) ?_ _
  refine NoPanic.normal ?_
  go_wp2
  go_ret
  exact ⟨rfl, b⟩
theorem pbytes6 {G : World → Prop} {R : List Value → Fp × Fp → Prop} (api : PointApi G R) (v : Value) (n : Nat) (bs : Nat → Nat) (hbs : ∀ j, bs j < 256) (hn : n < 140737488355000) (w : World) (hv : BytesIn w v n bs) (hG : G w) :
    Calls Tryd.prog 3 #[v] w fun e w' => e = .returned (.bool true) ∧ Below w.heap.size w w' := by
  by_cases h : decE n bs = 0
  · exact pbytes_good api v n bs hbs hn w hv hG h
  · exact pbytes_bad api v n bs hbs hn w hv hG h
end Go.Proofs.YteekjcfbnoakgaaDoor
namespace Go.Proofs.YteekjcfbnoakgaaDoor
open Go.RowKit
/-- A point's cells. -/
def p16 (x y z t : Nat) : List Value := c4 x ++ (c4 y ++ (c4 z ++ c4 t))
def pV (x y z t : Nat) : Value := .agg (p16 x y z t).toArray
theorem p16_len (x y z t : Nat) : (p16 x y z t).length = 16 := rfl
theorem p16_same (x y z t x' y' z' t' : Nat) : (p16 x y z t).length = (p16 x' y' z' t').length := rfl
theorem zP_16 : zP = (p16 0 0 0 0).toArray := by kernel_rfl
theorem fresh16 (w : World) : ∃ w' g, w.alloc (.cells zP 30) = w' ∧ w.heap.size = g ∧ Below w.heap.size w w' ∧ RW w' g 0 (p16 0 0 0 0) := by
  refine ⟨_, _, rfl, rfl, (Below.refl _ _).alloc (Nat.le_refl _) _, ?_⟩
  rw [zP_16]; exact RW.fresh w _ _
theorem info16 (x y z t : Nat) : (Tryd.prog.info? 30).map (·.size) = some (p16 x y z t).length := infoPs
theorem info16A (x y z t : Nat) : (Tryd.prog.info? 30).map (·.size) = some (p16 x y z t).toArray.size := infoPs
theorem one16 (x y z t : Nat) : (p16 x y z t).toArray.all (·.oneCell') = true := by simp [p16, c4, Value.oneCell']
theorem thr16 {w : World} {g x y z t : Nat} (r : RW w g 0 (p16 x y z t)) (x' y' z' t' : Nat) : w.there g 0 (p16 x' y' z' t').toArray.size := r.there
theorem parts16 {w : World} {g x y z t : Nat} (r : RW w g 0 (p16 x y z t)) : RW w g 0 (c4 x) ∧ RW w g 4 (c4 y) ∧ RW w g 8 (c4 z) ∧ RW w g 12 (c4 t) :=
  ⟨RW.left r, RW.left (RW.right r), RW.left (RW.right (RW.right r)), RW.right (RW.right (RW.right r))⟩
theorem builtP4 (x y z t : Nat) : Tryd.prog.built 30 [(0, numV x), (1, numV y), (2, numV z), (3, numV t)] = some (p16 x y z t).toArray := by kernel_rfl
theorem builtP0 : Tryd.prog.built 30 [] = some (p16 0 0 0 0).toArray := by kernel_rfl
theorem eq_num_at (w : World) (d : Nat) {a b : Nat} (ha : a < pF) (hb : b < pF) : (Op.equalIn (d + 3) 28 (numV a) (numV b)).run Tryd.prog w = .ok (decide (a = b)) w := by
  unfold numV
  rw [show d + 3 = (d + 2) + 1 from rfl, run_equalIn_agg w (d + 2) 28 _ _ (by kernel_rfl) (by kernel_rfl)]
  simp only [Program.fieldsOf, Tryd.underlying28, Op.eqFields]
  rw [if_pos (by decide)]
  simp only [Sem.run_bind]
  rw [part_num]
  simp only [Result.andThen_ok]
  rw [part_num]
  simp only [Result.andThen_ok]
  rw [run_eq4 w d 26 24 .u64 (by kernel_rfl) (by kernel_rfl) (by kernel_rfl)]
  simp only [Result.andThen_ok]
  by_cases h : a = b
  · subst h
    simp
  · have hn : ((lw a 0 : Int) == (lw b 0 : Int) && (lw a 1 : Int) == (lw b 1 : Int) && (lw a 2 : Int) == (lw b 2 : Int) && (lw a 3 : Int) == (lw b 3 : Int)) = false := by
      rcases Bool.eq_false_or_eq_true ((lw a 0 : Int) == (lw b 0 : Int) && (lw a 1 : Int) == (lw b 1 : Int) && (lw a 2 : Int) == (lw b 2 : Int) && (lw a 3 : Int) == (lw b 3 : Int)) with e | e
      · exfalso
        simp only [Bool.and_eq_true, beq_iff_eq] at e
        exact h (lw_inj ha hb (by omega) (by omega) (by omega) (by omega))
      · exact e
    rw [hn, decide_eq_false h]
    simp
theorem part_p0 (w : World) (x y z t : Nat) : (part 28 (p16 x y z t).toArray 0).run Tryd.prog w = .ok (numV x) w := by kernel_rfl
theorem part_p1 (w : World) (x y z t : Nat) : (part 28 (p16 x y z t).toArray 4).run Tryd.prog w = .ok (numV y) w := by kernel_rfl
theorem part_p2 (w : World) (x y z t : Nat) : (part 28 (p16 x y z t).toArray 8).run Tryd.prog w = .ok (numV z) w := by kernel_rfl
theorem part_p3 (w : World) (x y z t : Nat) : (part 28 (p16 x y z t).toArray 12).run Tryd.prog w = .ok (numV t) w := by kernel_rfl
theorem eq_pt (w : World) {p q : N4} (hp : p.Ok) (hq : q.Ok) : (Op.equalIn 10000 30 (pV p.X p.Y p.Z p.T) (pV q.X q.Y q.Z q.T)).run Tryd.prog w = .ok (decide (p.X = q.X) && decide (p.Y = q.Y) && decide (p.Z = q.Z) && decide (p.T = q.T)) w := by
  unfold pV
  rw [show (10000 : Nat) = 9999 + 1 from rfl, run_equalIn_agg w 9999 30 _ _ (by kernel_rfl) (by kernel_rfl)]
  simp only [Program.fieldsOf, Tryd.underlying30, Op.eqFields]
  rw [show (9999 : Nat) = 9996 + 3 from rfl]
  simp only [Sem.run_bind, Sem.run_ite, part_p0, part_p1, part_p2, part_p3, Result.andThen_ok, eq_num_at w 9996 hp.X hq.X, eq_num_at w 9996 hp.Y hq.Y, eq_num_at w 9996 hp.Z hq.Z, eq_num_at w 9996 hp.T hq.T]
  cases h0 : decide (p.X = q.X) <;> cases h1 : decide (p.Y = q.Y) <;> cases h2 : decide (p.Z = q.Z) <;> cases h3 : decide (p.T = q.T) <;> simp
theorem exec_eqp (w : World) {p q : N4} (hp : p.Ok) (hq : q.Ok) (x y : Operand) : (do eqGuard .eql 30 x y (pV p.X p.Y p.Z p.T) (pV q.X q.Y q.Z q.T); binOp .eql 30 (pV p.X p.Y p.Z p.T) (pV q.X q.Y q.Z q.T) : Sem Value).run Tryd.prog w = .ok (.bool (decide (p.X = q.X) && decide (p.Y = q.Y) && decide (p.Z = q.Z) && decide (p.T = q.T))) w := by
  rw [Sem.run_bind, show (eqGuard .eql 30 x y (pV p.X p.Y p.Z p.T) (pV q.X q.Y q.Z q.T)).run Tryd.prog w = .ok () w from run_eqGuard_agg w .eql 30 x y _ _ (by kernel_rfl)]
  simp only [Result.andThen_ok]
  rw [show (binOp .eql 30 (pV p.X p.Y p.Z p.T) (pV q.X q.Y q.Z q.T)).run Tryd.prog w = ((Op.equalIn 10000 30 (pV p.X p.Y p.Z p.T) (pV q.X q.Y q.Z q.T)).run Tryd.prog w).andThen fun b w' => .ok (.bool b) w' from run_eql_struct w 30 _ _, eq_pt w hp hq]
  rfl
/-- A point and the zero one. -/
theorem wpList_eqp {ops : Array Oper} {rest : List Oper} {op : Oper} {a : Act} {w : World} {Q : Exit → Act → World → Prop} (hgd : op.guard = none) (x y : Operand) (t2 : TypeId) (ho : op.op = .binOp .eql 30 x y t2) (p : N4) (hp : p.Ok)
    (hx : a.eval x = .agg (p16 p.X p.Y p.Z p.T).toArray) (hy : a.eval y = .agg (p16 0 0 0 0).toArray) (z : Bool) (hz : (decide (p.X = 0) && decide (p.Y = 0) && decide (p.Z = 0) && decide (p.T = 0)) = z) (h : wpList Tryd.prog ops Q rest (a.put op.dst (.bool z)) w) : wpList Tryd.prog ops Q (op :: rest) a w :=
  wpList_plain hgd fun K hK => by
    have e := exec_eqp w hp (q := ⟨0, 0, 0, 0⟩) ⟨by decide, by decide, by decide, by decide⟩ x y
    unfold pV at e
    unfold Oper.wp execOp
    simp only [ho, hx, hy]
    rw [Sem.run_bind, e, hz]
    exact hK _ _ h
end Go.Proofs.YteekjcfbnoakgaaDoor
namespace Go.Proofs.YteekjcfbnoakgaaDoor
open Go.RowKit
set_option maxRecDepth 20000 in
set_option maxHeartbeats 4000000 in
theorem pnumber_any (v : Value) (n : Nat) (bs : Nat → Nat) (hbs : ∀ j, bs j < 256) (w : World) (hv : BytesIn w v n bs) :
    Calls Tryd.prog 33 #[v] w fun e w' => e = .returned (numV (fromN n bs)) ∧ Below w.heap.size w w' := by
  have cf : ∀ W, BytesIn W v n bs → Calls Tryd.prog 62 #[v] W fun e w' => e = .returned (.tuple #[.agg (c4 (fromN n bs)).toArray, .int .i64 (fromE n)]) ∧ Below W.heap.size W w' := fun W h => from_any v n bs hbs W h
  rw [show numV (fromN n bs) = .agg (c4 (fromN n bs)).toArray from rfl]
  generalize fromN n bs = m at *
  obtain ⟨W, g, eW, hg, b, h0⟩ := fresh4 w
  replace hv := hv.still b
  have HW : Hid (w.alloc (.cells #[.int .u64 0, .int .u64 0, .int .u64 0, .int .u64 0] 28) = W) := Hid.mk' eW
  have Hg : Hid (w.heap.size = g) := Hid.mk' hg
  have wg : w.heap.size ≤ g := Nat.le_of_eq hg
  clear eW hg
  go_enter Tryd.func33, Tryd.ntmps33
  go_wp2_with (first
    | (go_at_call 62; rw [HW.out, Hg.out]; refine (cf _ hv).mono ?_; clear cf HW Hg; rintro e w1 ⟨rfl, hb1⟩; (have l0 := h0.lt); (replace h0 := h0.still hb1); (replace b := below_next b hb1); (have n01 : g ≠ w1.heap.size := Nat.ne_of_lt (Nat.lt_of_lt_of_le l0 hb1.size)); clear hb1 l0 hv; (have z1 := fresh4' w1); (have t1 := fresh4t w1 m); (obtain ⟨V1, hV1⟩ : ∃ V, V = (w1.alloc (.cells #[.int .u64 0, .int .u64 0, .int .u64 0, .int .u64 0] 28)).setCells w1.heap.size 0 (c4 m) := ⟨_, rfl⟩); (have h1 : RW V1 w1.heap.size 0 (c4 m) := by rw [hV1]; exact z1.stored (c4 m) rfl); (have b1 : Below w1.heap.size w1 V1 := by rw [hV1]; exact below_setCells (Nat.le_refl _) _ _ _ ((Below.refl _ _).alloc (Nat.le_refl _) _)); (have H1 := Hid.mk' hV1); clear hV1 z1; (replace h0 := h0.still b1); (replace b := below_next b b1); clear b1; (have t0 : V1.there g 0 (c4 m).toArray.size := h0.there))
    | (with_reducible (refine id (?_ : wpList _ _ _ _ _ _)); refine wpList_store_mid rfl 28 _ _ rfl w1.heap.size 0 (c4 m).toArray rfl rfl t1 (info4a m) (one4 m) ?_; rw [List.toList_toArray, ← H1.out]; clear t1 H1)
    | (refine wpList_load_mid rfl 28 _ rfl w1.heap.size 0 rfl (c4 m) _ h1.range Tryd.underlying28 rfl info4 ?_)
    | (with_reducible (refine id (?_ : wpList _ _ _ _ _ _)); refine wpList_store_mid rfl 28 _ _ rfl g 0 (c4 m).toArray rfl rfl t0 (info4a m) (one4 m) ?_))
  (try simp only [Exit.inBlock, Exit.then])
  exact bodyPost_ret (results_cell_mid Tryd.results33 _ _ g 0 (c4 m) _ rfl (h0.stored (c4 m) rfl).range Tryd.underlying28 rfl info4) rfl ⟨rfl, below_setCells wg _ _ _ b⟩
end Go.Proofs.YteekjcfbnoakgaaDoor
namespace Go.Proofs.YteekjcfbnoakgaaDoor
open Go.RowKit
theorem row_bytes (w : World) (L : List Nat) (hL : L.length = 32) : BytesIn (w.alloc (.cells (L.map fun (b : Nat) => Value.int .u8 (b : Int)).toArray 5)) (.slice (some ⟨w.heap.size, 0, none⟩) 32 32) 32 (fun j => L.getD j 0) := by
  refine .inr ⟨w.heap.size, 0, 32, rfl, by simp, Nat.le_refl _, fun j hj => ?_⟩
  have hr := (RW.fresh w (L.map fun (b : Nat) => Value.int .u8 (b : Int)) 5).range
  have h := hr j (Value.int .u8 ((L.getD j 0 : Nat) : Int)) (by
    rw [List.getElem?_map, List.getElem?_eq_getElem (by omega)]
    simp [List.getD, List.getElem?_eq_getElem (show j < L.length by omega)])
  exact h
def curveDL : List Nat := [163, 120, 89, 19, 202, 77, 235, 117, 171, 216, 65, 65, 77, 10, 112, 0, 152, 232, 121, 119, 121, 64, 199, 140, 115, 254, 111, 43, 238, 108, 3, 82]
theorem curveDL_lt (j : Nat) : curveDL.getD j 0 < 256 := by
  rcases Nat.lt_or_ge j 32 with h | h
  · revert h j; decide
  · rw [List.getD, List.getElem?_eq_none h]; decide
theorem curveDL_is : fromN 32 (fun j => curveDL.getD j 0) = dN := by kernel_rfl
set_option maxRecDepth 20000 in
set_option maxHeartbeats 4000000 in
theorem curveD_any (w : World) : Calls Tryd.prog 66 #[] w fun e w' => e = .returned (numV dN) ∧ Below w.heap.size w w' := by
  have cn : ∀ W v, BytesIn W v 32 (fun j => curveDL.getD j 0) → Calls Tryd.prog 33 #[v] W fun e w' => e = .returned (.agg (c4 dN).toArray) ∧ Below W.heap.size W w' := fun W v h => by
    have k := pnumber_any v 32 _ curveDL_lt W h
    rw [curveDL_is] at k
    exact k
  rw [show numV dN = .agg (c4 dN).toArray from rfl]
  generalize dN = m at *
  obtain ⟨W, g, eW, hg, b, h0⟩ := fresh4 w
  have hs : W.heap.size = w.heap.size + 1 := by rw [← eW]; simp
  have hv : BytesIn (W.alloc (.cells #[.int .u8 163, .int .u8 120, .int .u8 89, .int .u8 19, .int .u8 202, .int .u8 77, .int .u8 235, .int .u8 117, .int .u8 171, .int .u8 216, .int .u8 65, .int .u8 65, .int .u8 77, .int .u8 10, .int .u8 112, .int .u8 0, .int .u8 152, .int .u8 232, .int .u8 121, .int .u8 119, .int .u8 121, .int .u8 64, .int .u8 199, .int .u8 140, .int .u8 115, .int .u8 254, .int .u8 111, .int .u8 43, .int .u8 238, .int .u8 108, .int .u8 3, .int .u8 82] 5)) (.slice (some ⟨w.heap.size + 1, 0, none⟩) 32 32) 32 (fun j => curveDL.getD j 0) := by rw [← hs]; exact row_bytes W curveDL rfl
  obtain ⟨V, eV⟩ : ∃ V, W.alloc (.cells #[.int .u8 163, .int .u8 120, .int .u8 89, .int .u8 19, .int .u8 202, .int .u8 77, .int .u8 235, .int .u8 117, .int .u8 171, .int .u8 216, .int .u8 65, .int .u8 65, .int .u8 77, .int .u8 10, .int .u8 112, .int .u8 0, .int .u8 152, .int .u8 232, .int .u8 121, .int .u8 119, .int .u8 121, .int .u8 64, .int .u8 199, .int .u8 140, .int .u8 115, .int .u8 254, .int .u8 111, .int .u8 43, .int .u8 238, .int .u8 108, .int .u8 3, .int .u8 82] 5) = V := ⟨_, rfl⟩
  have bV : Below W.heap.size W V := by rw [← eV]; exact (Below.refl _ _).alloc (Nat.le_refl _) _
  rw [eV] at hv
  have HV : Hid ((w.alloc (.cells #[.int .u64 0, .int .u64 0, .int .u64 0, .int .u64 0] 28)).alloc (.cells #[.int .u8 163, .int .u8 120, .int .u8 89, .int .u8 19, .int .u8 202, .int .u8 77, .int .u8 235, .int .u8 117, .int .u8 171, .int .u8 216, .int .u8 65, .int .u8 65, .int .u8 77, .int .u8 10, .int .u8 112, .int .u8 0, .int .u8 152, .int .u8 232, .int .u8 121, .int .u8 119, .int .u8 121, .int .u8 64, .int .u8 199, .int .u8 140, .int .u8 115, .int .u8 254, .int .u8 111, .int .u8 43, .int .u8 238, .int .u8 108, .int .u8 3, .int .u8 82] 5) = V) := Hid.mk' (by rw [eW, eV])
  have Hg : Hid (w.heap.size = g) := Hid.mk' hg
  have wg : w.heap.size ≤ g := Nat.le_of_eq hg
  replace h0 := h0.still bV
  replace b := below_next b bV
  clear eW hg eV bV hs W
  go_enter Tryd.func66, Tryd.ntmps66
  go_wp2_with (first
    | (go_at_call 33; rw [HV.out]; refine (cn _ _ hv).mono ?_; rw [Hg.out]; clear cn HV Hg; rintro e w1 ⟨rfl, hb1⟩; (replace h0 := h0.still hb1); (replace b := below_next b hb1); clear hb1; (have t0 : w1.there g 0 (c4 m).toArray.size := h0.there))
    | (with_reducible (refine id (?_ : wpList _ _ _ _ _ _)); refine wpList_store_mid rfl 28 _ _ rfl g 0 (c4 m).toArray rfl rfl t0 (info4a m) (one4 m) ?_))
  (try simp only [Exit.inBlock, Exit.then])
  exact bodyPost_ret (results_cell_mid Tryd.results66 _ _ g 0 (c4 m) _ rfl (h0.stored (c4 m) rfl).range Tryd.underlying28 rfl info4) rfl ⟨rfl, below_setCells wg _ _ _ b⟩
def baseXL : List Nat := [26, 213, 37, 143, 96, 45, 86, 201, 178, 167, 37, 149, 96, 199, 44, 105, 92, 220, 214, 253, 49, 226, 164, 192, 254, 83, 110, 205, 211, 54, 105, 33]
theorem baseXL_lt (j : Nat) : baseXL.getD j 0 < 256 := by
  rcases Nat.lt_or_ge j 32 with h | h
  · revert h j; decide
  · rw [List.getD, List.getElem?_eq_none h]; decide
theorem baseXL_is : fromN 32 (fun j => baseXL.getD j 0) = xB := by kernel_rfl
set_option maxRecDepth 20000 in
set_option maxHeartbeats 4000000 in
theorem baseX_any (w : World) : Calls Tryd.prog 54 #[] w fun e w' => e = .returned (numV xB) ∧ Below w.heap.size w w' := by
  have cn : ∀ W v, BytesIn W v 32 (fun j => baseXL.getD j 0) → Calls Tryd.prog 33 #[v] W fun e w' => e = .returned (.agg (c4 xB).toArray) ∧ Below W.heap.size W w' := fun W v h => by
    have k := pnumber_any v 32 _ baseXL_lt W h
    rw [baseXL_is] at k
    exact k
  rw [show numV xB = .agg (c4 xB).toArray from rfl]
  generalize xB = m at *
  obtain ⟨W, g, eW, hg, b, h0⟩ := fresh4 w
  have hs : W.heap.size = w.heap.size + 1 := by rw [← eW]; simp
  have hv : BytesIn (W.alloc (.cells #[.int .u8 26, .int .u8 213, .int .u8 37, .int .u8 143, .int .u8 96, .int .u8 45, .int .u8 86, .int .u8 201, .int .u8 178, .int .u8 167, .int .u8 37, .int .u8 149, .int .u8 96, .int .u8 199, .int .u8 44, .int .u8 105, .int .u8 92, .int .u8 220, .int .u8 214, .int .u8 253, .int .u8 49, .int .u8 226, .int .u8 164, .int .u8 192, .int .u8 254, .int .u8 83, .int .u8 110, .int .u8 205, .int .u8 211, .int .u8 54, .int .u8 105, .int .u8 33] 5)) (.slice (some ⟨w.heap.size + 1, 0, none⟩) 32 32) 32 (fun j => baseXL.getD j 0) := by rw [← hs]; exact row_bytes W baseXL rfl
  obtain ⟨V, eV⟩ : ∃ V, W.alloc (.cells #[.int .u8 26, .int .u8 213, .int .u8 37, .int .u8 143, .int .u8 96, .int .u8 45, .int .u8 86, .int .u8 201, .int .u8 178, .int .u8 167, .int .u8 37, .int .u8 149, .int .u8 96, .int .u8 199, .int .u8 44, .int .u8 105, .int .u8 92, .int .u8 220, .int .u8 214, .int .u8 253, .int .u8 49, .int .u8 226, .int .u8 164, .int .u8 192, .int .u8 254, .int .u8 83, .int .u8 110, .int .u8 205, .int .u8 211, .int .u8 54, .int .u8 105, .int .u8 33] 5) = V := ⟨_, rfl⟩
  have bV : Below W.heap.size W V := by rw [← eV]; exact (Below.refl _ _).alloc (Nat.le_refl _) _
  rw [eV] at hv
  have HV : Hid ((w.alloc (.cells #[.int .u64 0, .int .u64 0, .int .u64 0, .int .u64 0] 28)).alloc (.cells #[.int .u8 26, .int .u8 213, .int .u8 37, .int .u8 143, .int .u8 96, .int .u8 45, .int .u8 86, .int .u8 201, .int .u8 178, .int .u8 167, .int .u8 37, .int .u8 149, .int .u8 96, .int .u8 199, .int .u8 44, .int .u8 105, .int .u8 92, .int .u8 220, .int .u8 214, .int .u8 253, .int .u8 49, .int .u8 226, .int .u8 164, .int .u8 192, .int .u8 254, .int .u8 83, .int .u8 110, .int .u8 205, .int .u8 211, .int .u8 54, .int .u8 105, .int .u8 33] 5) = V) := Hid.mk' (by rw [eW, eV])
  have Hg : Hid (w.heap.size = g) := Hid.mk' hg
  have wg : w.heap.size ≤ g := Nat.le_of_eq hg
  replace h0 := h0.still bV
  replace b := below_next b bV
  clear eW hg eV bV hs W
  go_enter Tryd.func54, Tryd.ntmps54
  go_wp2_with (first
    | (go_at_call 33; rw [HV.out]; refine (cn _ _ hv).mono ?_; rw [Hg.out]; clear cn HV Hg; rintro e w1 ⟨rfl, hb1⟩; (replace h0 := h0.still hb1); (replace b := below_next b hb1); clear hb1; (have t0 : w1.there g 0 (c4 m).toArray.size := h0.there))
    | (with_reducible (refine id (?_ : wpList _ _ _ _ _ _)); refine wpList_store_mid rfl 28 _ _ rfl g 0 (c4 m).toArray rfl rfl t0 (info4a m) (one4 m) ?_))
  (try simp only [Exit.inBlock, Exit.then])
  exact bodyPost_ret (results_cell_mid Tryd.results54 _ _ g 0 (c4 m) _ rfl (h0.stored (c4 m) rfl).range Tryd.underlying28 rfl info4) rfl ⟨rfl, below_setCells wg _ _ _ b⟩
def baseYL : List Nat := [88, 102, 102, 102, 102, 102, 102, 102, 102, 102, 102, 102, 102, 102, 102, 102, 102, 102, 102, 102, 102, 102, 102, 102, 102, 102, 102, 102, 102, 102, 102, 102]
theorem baseYL_lt (j : Nat) : baseYL.getD j 0 < 256 := by
  rcases Nat.lt_or_ge j 32 with h | h
  · revert h j; decide
  · rw [List.getD, List.getElem?_eq_none h]; decide
theorem baseYL_is : fromN 32 (fun j => baseYL.getD j 0) = yB := by kernel_rfl
set_option maxRecDepth 20000 in
set_option maxHeartbeats 4000000 in
theorem baseY_any (w : World) : Calls Tryd.prog 55 #[] w fun e w' => e = .returned (numV yB) ∧ Below w.heap.size w w' := by
  have cn : ∀ W v, BytesIn W v 32 (fun j => baseYL.getD j 0) → Calls Tryd.prog 33 #[v] W fun e w' => e = .returned (.agg (c4 yB).toArray) ∧ Below W.heap.size W w' := fun W v h => by
    have k := pnumber_any v 32 _ baseYL_lt W h
    rw [baseYL_is] at k
    exact k
  rw [show numV yB = .agg (c4 yB).toArray from rfl]
  generalize yB = m at *
  obtain ⟨W, g, eW, hg, b, h0⟩ := fresh4 w
  have hs : W.heap.size = w.heap.size + 1 := by rw [← eW]; simp
  have hv : BytesIn (W.alloc (.cells #[.int .u8 88, .int .u8 102, .int .u8 102, .int .u8 102, .int .u8 102, .int .u8 102, .int .u8 102, .int .u8 102, .int .u8 102, .int .u8 102, .int .u8 102, .int .u8 102, .int .u8 102, .int .u8 102, .int .u8 102, .int .u8 102, .int .u8 102, .int .u8 102, .int .u8 102, .int .u8 102, .int .u8 102, .int .u8 102, .int .u8 102, .int .u8 102, .int .u8 102, .int .u8 102, .int .u8 102, .int .u8 102, .int .u8 102, .int .u8 102, .int .u8 102, .int .u8 102] 5)) (.slice (some ⟨w.heap.size + 1, 0, none⟩) 32 32) 32 (fun j => baseYL.getD j 0) := by rw [← hs]; exact row_bytes W baseYL rfl
  obtain ⟨V, eV⟩ : ∃ V, W.alloc (.cells #[.int .u8 88, .int .u8 102, .int .u8 102, .int .u8 102, .int .u8 102, .int .u8 102, .int .u8 102, .int .u8 102, .int .u8 102, .int .u8 102, .int .u8 102, .int .u8 102, .int .u8 102, .int .u8 102, .int .u8 102, .int .u8 102, .int .u8 102, .int .u8 102, .int .u8 102, .int .u8 102, .int .u8 102, .int .u8 102, .int .u8 102, .int .u8 102, .int .u8 102, .int .u8 102, .int .u8 102, .int .u8 102, .int .u8 102, .int .u8 102, .int .u8 102, .int .u8 102] 5) = V := ⟨_, rfl⟩
  have bV : Below W.heap.size W V := by rw [← eV]; exact (Below.refl _ _).alloc (Nat.le_refl _) _
  rw [eV] at hv
  have HV : Hid ((w.alloc (.cells #[.int .u64 0, .int .u64 0, .int .u64 0, .int .u64 0] 28)).alloc (.cells #[.int .u8 88, .int .u8 102, .int .u8 102, .int .u8 102, .int .u8 102, .int .u8 102, .int .u8 102, .int .u8 102, .int .u8 102, .int .u8 102, .int .u8 102, .int .u8 102, .int .u8 102, .int .u8 102, .int .u8 102, .int .u8 102, .int .u8 102, .int .u8 102, .int .u8 102, .int .u8 102, .int .u8 102, .int .u8 102, .int .u8 102, .int .u8 102, .int .u8 102, .int .u8 102, .int .u8 102, .int .u8 102, .int .u8 102, .int .u8 102, .int .u8 102, .int .u8 102] 5) = V) := Hid.mk' (by rw [eW, eV])
  have Hg : Hid (w.heap.size = g) := Hid.mk' hg
  have wg : w.heap.size ≤ g := Nat.le_of_eq hg
  replace h0 := h0.still bV
  replace b := below_next b bV
  clear eW hg eV bV hs W
  go_enter Tryd.func55, Tryd.ntmps55
  go_wp2_with (first
    | (go_at_call 33; rw [HV.out]; refine (cn _ _ hv).mono ?_; rw [Hg.out]; clear cn HV Hg; rintro e w1 ⟨rfl, hb1⟩; (replace h0 := h0.still hb1); (replace b := below_next b hb1); clear hb1; (have t0 : w1.there g 0 (c4 m).toArray.size := h0.there))
    | (with_reducible (refine id (?_ : wpList _ _ _ _ _ _)); refine wpList_store_mid rfl 28 _ _ rfl g 0 (c4 m).toArray rfl rfl t0 (info4a m) (one4 m) ?_))
  (try simp only [Exit.inBlock, Exit.then])
  exact bodyPost_ret (results_cell_mid Tryd.results55 _ _ g 0 (c4 m) _ rfl (h0.stored (c4 m) rfl).range Tryd.underlying28 rfl info4) rfl ⟨rfl, below_setCells wg _ _ _ b⟩
end Go.Proofs.YteekjcfbnoakgaaDoor
