/- What ones250 of a Number does in the model: the power 2^250 - 1. -/
import Derived.Test.YtinigkpidhbgcaaThen
namespace Go.Proofs.Ytinigkpidhbgcaa
open Go.RowKit
theorem then_pow (x a b k e : Nat) (he : b + a * 2 ^ k = e) (hk : k < 1000) (w : World) :
    Calls Try.prog 52 #[numV (x ^ a % pF), .int .i64 k, .func (.func 39) #[numV (x ^ b % pF)] #[]] w fun e' w' => e' = .returned (numV (x ^ e % pF)) ∧ Below w.heap.size w w' := by
  have h := then_any (x ^ a % pF) (x ^ b % pF) k (Nat.mod_lt _ pF_pos) (Nat.mod_lt _ pF_pos) hk w
  have e1 : x ^ b % pF * sqN (x ^ a % pF) k % pF = x ^ e % pF := by
    unfold sqN
    rw [← Nat.pow_mod, ← Nat.mul_mod, ← Nat.pow_mul, ← Nat.pow_add, he]
  rw [e1] at h
  exact h
set_option maxRecDepth 20000 in
set_option maxHeartbeats 4000000 in
theorem ones250_any (x : Nat) (w : World) :
    Calls Try.prog 51 #[numV (x ^ 1 % pF)] w fun e w' => e = .returned (numV (x ^ 1809251394333065553493296640760748560207343510400633813116524750123642650623 % pF)) ∧ Below w.heap.size w w' := by
  have cc0 := fun W => then_pow x 1 1 1 3 (by decide) (by decide) W
  have cc1 := fun W => then_pow x 3 3 2 15 (by decide) (by decide) W
  have cc2 := fun W => then_pow x 15 1 1 31 (by decide) (by decide) W
  have cc3 := fun W => then_pow x 31 31 5 1023 (by decide) (by decide) W
  have cc4 := fun W => then_pow x 1023 1023 10 1048575 (by decide) (by decide) W
  have cc5 := fun W => then_pow x 1048575 1048575 20 1099511627775 (by decide) (by decide) W
  have cc6 := fun W => then_pow x 1099511627775 1023 10 1125899906842623 (by decide) (by decide) W
  have cc7 := fun W => then_pow x 1125899906842623 1125899906842623 50 1267650600228229401496703205375 (by decide) (by decide) W
  have cc8 := fun W => then_pow x 1267650600228229401496703205375 1267650600228229401496703205375 100 1606938044258990275541962092341162602522202993782792835301375 (by decide) (by decide) W
  have cc9 := fun W => then_pow x 1606938044258990275541962092341162602522202993782792835301375 1125899906842623 50 1809251394333065553493296640760748560207343510400633813116524750123642650623 (by decide) (by decide) W
  obtain ⟨va0, va1, va2, va3, hva⟩ := numV_ex (x ^ 1 % pF)
  obtain ⟨vb0, vb1, vb2, vb3, hvb⟩ := numV_ex (x ^ 3 % pF)
  obtain ⟨vc0, vc1, vc2, vc3, hvc⟩ := numV_ex (x ^ 15 % pF)
  obtain ⟨vd0, vd1, vd2, vd3, hvd⟩ := numV_ex (x ^ 31 % pF)
  obtain ⟨ve0, ve1, ve2, ve3, hve⟩ := numV_ex (x ^ 1023 % pF)
  obtain ⟨vf0, vf1, vf2, vf3, hvf⟩ := numV_ex (x ^ 1048575 % pF)
  obtain ⟨vg0, vg1, vg2, vg3, hvg⟩ := numV_ex (x ^ 1099511627775 % pF)
  obtain ⟨vh0, vh1, vh2, vh3, hvh⟩ := numV_ex (x ^ 1125899906842623 % pF)
  obtain ⟨vi0, vi1, vi2, vi3, hvi⟩ := numV_ex (x ^ 1267650600228229401496703205375 % pF)
  obtain ⟨vj0, vj1, vj2, vj3, hvj⟩ := numV_ex (x ^ 1606938044258990275541962092341162602522202993782792835301375 % pF)
  obtain ⟨vk0, vk1, vk2, vk3, hvk⟩ := numV_ex (x ^ 1809251394333065553493296640760748560207343510400633813116524750123642650623 % pF)
  rw [hva, hvb] at cc0
  rw [hvb, hvc] at cc1
  rw [hvc, hva, hvd] at cc2
  rw [hvd, hve] at cc3
  rw [hve, hvf] at cc4
  rw [hvf, hvg] at cc5
  rw [hvg, hve, hvh] at cc6
  rw [hvh, hvi] at cc7
  rw [hvi, hvj] at cc8
  rw [hvj, hvh, hvk] at cc9
  rw [hva, hvk]
  have dd0 : ∀ W, Calls Try.prog 52 #[.agg #[.int .u64 va0, .int .u64 va1, .int .u64 va2, .int .u64 va3], .int .i64 1, .func (.func 39) #[.agg #[.int .u64 va0, .int .u64 va1, .int .u64 va2, .int .u64 va3]] #[]] W fun e w' => e = .returned (.agg #[.int .u64 vb0, .int .u64 vb1, .int .u64 vb2, .int .u64 vb3]) ∧ Below W.heap.size W w' := cc0
  have dd1 : ∀ W, Calls Try.prog 52 #[.agg #[.int .u64 vb0, .int .u64 vb1, .int .u64 vb2, .int .u64 vb3], .int .i64 2, .func (.func 39) #[.agg #[.int .u64 vb0, .int .u64 vb1, .int .u64 vb2, .int .u64 vb3]] #[]] W fun e w' => e = .returned (.agg #[.int .u64 vc0, .int .u64 vc1, .int .u64 vc2, .int .u64 vc3]) ∧ Below W.heap.size W w' := cc1
  have dd2 : ∀ W, Calls Try.prog 52 #[.agg #[.int .u64 vc0, .int .u64 vc1, .int .u64 vc2, .int .u64 vc3], .int .i64 1, .func (.func 39) #[.agg #[.int .u64 va0, .int .u64 va1, .int .u64 va2, .int .u64 va3]] #[]] W fun e w' => e = .returned (.agg #[.int .u64 vd0, .int .u64 vd1, .int .u64 vd2, .int .u64 vd3]) ∧ Below W.heap.size W w' := cc2
  have dd3 : ∀ W, Calls Try.prog 52 #[.agg #[.int .u64 vd0, .int .u64 vd1, .int .u64 vd2, .int .u64 vd3], .int .i64 5, .func (.func 39) #[.agg #[.int .u64 vd0, .int .u64 vd1, .int .u64 vd2, .int .u64 vd3]] #[]] W fun e w' => e = .returned (.agg #[.int .u64 ve0, .int .u64 ve1, .int .u64 ve2, .int .u64 ve3]) ∧ Below W.heap.size W w' := cc3
  have dd4 : ∀ W, Calls Try.prog 52 #[.agg #[.int .u64 ve0, .int .u64 ve1, .int .u64 ve2, .int .u64 ve3], .int .i64 10, .func (.func 39) #[.agg #[.int .u64 ve0, .int .u64 ve1, .int .u64 ve2, .int .u64 ve3]] #[]] W fun e w' => e = .returned (.agg #[.int .u64 vf0, .int .u64 vf1, .int .u64 vf2, .int .u64 vf3]) ∧ Below W.heap.size W w' := cc4
  have dd5 : ∀ W, Calls Try.prog 52 #[.agg #[.int .u64 vf0, .int .u64 vf1, .int .u64 vf2, .int .u64 vf3], .int .i64 20, .func (.func 39) #[.agg #[.int .u64 vf0, .int .u64 vf1, .int .u64 vf2, .int .u64 vf3]] #[]] W fun e w' => e = .returned (.agg #[.int .u64 vg0, .int .u64 vg1, .int .u64 vg2, .int .u64 vg3]) ∧ Below W.heap.size W w' := cc5
  have dd6 : ∀ W, Calls Try.prog 52 #[.agg #[.int .u64 vg0, .int .u64 vg1, .int .u64 vg2, .int .u64 vg3], .int .i64 10, .func (.func 39) #[.agg #[.int .u64 ve0, .int .u64 ve1, .int .u64 ve2, .int .u64 ve3]] #[]] W fun e w' => e = .returned (.agg #[.int .u64 vh0, .int .u64 vh1, .int .u64 vh2, .int .u64 vh3]) ∧ Below W.heap.size W w' := cc6
  have dd7 : ∀ W, Calls Try.prog 52 #[.agg #[.int .u64 vh0, .int .u64 vh1, .int .u64 vh2, .int .u64 vh3], .int .i64 50, .func (.func 39) #[.agg #[.int .u64 vh0, .int .u64 vh1, .int .u64 vh2, .int .u64 vh3]] #[]] W fun e w' => e = .returned (.agg #[.int .u64 vi0, .int .u64 vi1, .int .u64 vi2, .int .u64 vi3]) ∧ Below W.heap.size W w' := cc7
  have dd8 : ∀ W, Calls Try.prog 52 #[.agg #[.int .u64 vi0, .int .u64 vi1, .int .u64 vi2, .int .u64 vi3], .int .i64 100, .func (.func 39) #[.agg #[.int .u64 vi0, .int .u64 vi1, .int .u64 vi2, .int .u64 vi3]] #[]] W fun e w' => e = .returned (.agg #[.int .u64 vj0, .int .u64 vj1, .int .u64 vj2, .int .u64 vj3]) ∧ Below W.heap.size W w' := cc8
  have dd9 : ∀ W, Calls Try.prog 52 #[.agg #[.int .u64 vj0, .int .u64 vj1, .int .u64 vj2, .int .u64 vj3], .int .i64 50, .func (.func 39) #[.agg #[.int .u64 vh0, .int .u64 vh1, .int .u64 vh2, .int .u64 vh3]] #[]] W fun e w' => e = .returned (.agg #[.int .u64 vk0, .int .u64 vk1, .int .u64 vk2, .int .u64 vk3]) ∧ Below W.heap.size W w' := cc9
  clear cc0 cc1 cc2 cc3 cc4 cc5 cc6 cc7 cc8 cc9 hva hvb hvc hvd hve hvf hvg hvh hvi hvj hvk
  obtain ⟨W, hW⟩ : ∃ W, W = (w.alloc (.cells #[.int .u64 va0, .int .u64 va1, .int .u64 va2, .int .u64 va3] 46)).alloc (.cells #[.int .u64 0, .int .u64 0, .int .u64 0, .int .u64 0] 46) := ⟨_, rfl⟩
  have HW := Hid.mk' hW
  have hWs : W.heap.size = w.heap.size + 1 + 1 := by rw [hW]; simp
  have hbW : Below w.heap.size w W := by rw [hW]; exact ((Below.refl _ _).alloc (Nat.le_refl _) _).alloc (by simp) _
  have N0 : FourAt W w.heap.size (.int .u64 va0) (.int .u64 va1) (.int .u64 va2) (.int .u64 va3) := by rw [hW]; exact (four_fresh w _ _ _ _ _).below ((Below.refl _ _).alloc (Nat.le_refl _) _) (by simp)
  have R0 : FourAt W (w.heap.size + 1) (.int .u64 0) (.int .u64 0) (.int .u64 0) (.int .u64 0) := by
    have := four_fresh (w.alloc (.cells #[.int .u64 va0, .int .u64 va1, .int .u64 va2, .int .u64 va3] 46)) (.int .u64 0) (.int .u64 0) (.int .u64 0) (.int .u64 0) 46
    rw [World.size_alloc] at this
    rw [hW]; exact this
  clear hW
  go_enter Try.func51, Try.ntmps51
  go_wp2_with (first
    | (go_at_call 52; rw [← HW.out]; refine (dd0 _).mono ?_; clear dd0; rintro e w1 ⟨rfl, bel1⟩; (have N1 := N0.below bel1 (by omega)); (have R1 := R0.below bel1 (by omega)); (have zz1 : w.heap.size + 1 + 1 ≤ w1.heap.size := by have := bel1.size; omega); (have hw1 : Below w.heap.size w w1 := hbW.trans (bel1.mono (by omega))))
    | (go_at_call 52; refine (dd1 _).mono ?_; clear dd1; rintro e w2 ⟨rfl, bel2⟩; (have sz2 : w1.heap.size + 1 ≤ w2.heap.size := by have := bel2.size; rw [World.size_alloc] at this; exact this); (have tb2 : Below w1.heap.size w1 w2 := ((Below.refl w1.heap.size w1).alloc (Nat.le_refl _) _).trans (bel2.mono (by rw [World.size_alloc]; omega))); (have zz2 : w.heap.size + 1 + 1 ≤ w2.heap.size := by omega); (have hw2 : Below w.heap.size w w2 := hw1.trans (tb2.mono (by omega))); (have R2 := R1.below tb2 (by omega)); (have N2 := N1.below tb2 (by omega)); (have q2 : w.heap.size < w2.heap.size := by omega); (obtain ⟨n0, n1, n2, n3, -, -, -, -⟩ := id N2))
    | (go_at_call 52; refine (dd2 _).mono ?_; clear dd2; rintro e w3 ⟨rfl, bel3⟩; (have sz3 : w2.heap.size + 1 ≤ w3.heap.size := by have := bel3.size; rw [World.size_alloc] at this; exact this); (have tb3 : Below w2.heap.size w2 w3 := ((Below.refl w2.heap.size w2).alloc (Nat.le_refl _) _).trans (bel3.mono (by rw [World.size_alloc]; omega))); (have zz3 : w.heap.size + 1 + 1 ≤ w3.heap.size := by omega); (have hw3 : Below w.heap.size w w3 := hw2.trans (tb3.mono (by omega))); (have R3 := R2.below tb3 (by omega)))
    | (go_at_call 52; refine (dd3 _).mono ?_; clear dd3; rintro e w4 ⟨rfl, bel4⟩; (have sz4 : w3.heap.size + 1 ≤ w4.heap.size := by have := bel4.size; rw [World.size_alloc] at this; exact this); (have tb4 : Below w3.heap.size w3 w4 := ((Below.refl w3.heap.size w3).alloc (Nat.le_refl _) _).trans (bel4.mono (by rw [World.size_alloc]; omega))); (have zz4 : w.heap.size + 1 + 1 ≤ w4.heap.size := by omega); (have hw4 : Below w.heap.size w w4 := hw3.trans (tb4.mono (by omega))); (have R4 := R3.below tb4 (by omega)))
    | (go_at_call 52; refine (dd4 _).mono ?_; clear dd4; rintro e w5 ⟨rfl, bel5⟩; (have sz5 : w4.heap.size + 1 ≤ w5.heap.size := by have := bel5.size; rw [World.size_alloc] at this; exact this); (have tb5 : Below w4.heap.size w4 w5 := ((Below.refl w4.heap.size w4).alloc (Nat.le_refl _) _).trans (bel5.mono (by rw [World.size_alloc]; omega))); (have zz5 : w.heap.size + 1 + 1 ≤ w5.heap.size := by omega); (have hw5 : Below w.heap.size w w5 := hw4.trans (tb5.mono (by omega))); (have R5 := R4.below tb5 (by omega)); (have T5 := (four_fresh w4 (.int .u64 ve0) (.int .u64 ve1) (.int .u64 ve2) (.int .u64 ve3) 46).below bel5 (by simp)); (have q5 : w4.heap.size < w5.heap.size := by omega))
    | (go_at_call 52; refine (dd5 _).mono ?_; clear dd5; rintro e w6 ⟨rfl, bel6⟩; (have sz6 : w5.heap.size + 1 ≤ w6.heap.size := by have := bel6.size; rw [World.size_alloc] at this; exact this); (have tb6 : Below w5.heap.size w5 w6 := ((Below.refl w5.heap.size w5).alloc (Nat.le_refl _) _).trans (bel6.mono (by rw [World.size_alloc]; omega))); (have zz6 : w.heap.size + 1 + 1 ≤ w6.heap.size := by omega); (have hw6 : Below w.heap.size w w6 := hw5.trans (tb6.mono (by omega))); (have R6 := R5.below tb6 (by omega)); (have T6 := T5.below tb6 (by omega)); (have q6 : w4.heap.size < w6.heap.size := by omega); (obtain ⟨m0, m1, m2, m3, -, -, -, -⟩ := id T6))
    | (go_at_call 52; refine (dd6 _).mono ?_; clear dd6; rintro e w7 ⟨rfl, bel7⟩; (have sz7 : w6.heap.size + 1 ≤ w7.heap.size := by have := bel7.size; rw [World.size_alloc] at this; exact this); (have tb7 : Below w6.heap.size w6 w7 := ((Below.refl w6.heap.size w6).alloc (Nat.le_refl _) _).trans (bel7.mono (by rw [World.size_alloc]; omega))); (have zz7 : w.heap.size + 1 + 1 ≤ w7.heap.size := by omega); (have hw7 : Below w.heap.size w w7 := hw6.trans (tb7.mono (by omega))); (have R7 := R6.below tb7 (by omega)))
    | (go_at_call 52; refine (dd7 _).mono ?_; clear dd7; rintro e w8 ⟨rfl, bel8⟩; (have sz8 : w7.heap.size + 1 ≤ w8.heap.size := by have := bel8.size; rw [World.size_alloc] at this; exact this); (have tb8 : Below w7.heap.size w7 w8 := ((Below.refl w7.heap.size w7).alloc (Nat.le_refl _) _).trans (bel8.mono (by rw [World.size_alloc]; omega))); (have zz8 : w.heap.size + 1 + 1 ≤ w8.heap.size := by omega); (have hw8 : Below w.heap.size w w8 := hw7.trans (tb8.mono (by omega))); (have R8 := R7.below tb8 (by omega)); (have F8 := (four_fresh w7 (.int .u64 vh0) (.int .u64 vh1) (.int .u64 vh2) (.int .u64 vh3) 46).below bel8 (by simp)); (have q8 : w7.heap.size < w8.heap.size := by omega))
    | (go_at_call 52; refine (dd8 _).mono ?_; clear dd8; rintro e w9 ⟨rfl, bel9⟩; (have sz9 : w8.heap.size + 1 ≤ w9.heap.size := by have := bel9.size; rw [World.size_alloc] at this; exact this); (have tb9 : Below w8.heap.size w8 w9 := ((Below.refl w8.heap.size w8).alloc (Nat.le_refl _) _).trans (bel9.mono (by rw [World.size_alloc]; omega))); (have zz9 : w.heap.size + 1 + 1 ≤ w9.heap.size := by omega); (have hw9 : Below w.heap.size w w9 := hw8.trans (tb9.mono (by omega))); (have R9 := R8.below tb9 (by omega)); (have F9 := F8.below tb9 (by omega)); (have q9 : w7.heap.size < w9.heap.size := by omega); (obtain ⟨p0, p1, p2, p3, -, -, -, -⟩ := id F9))
    | (go_at_call 52; refine (dd9 _).mono ?_; clear dd9; rintro e w10 ⟨rfl, bel10⟩; (have sz10 : w9.heap.size + 1 ≤ w10.heap.size := by have := bel10.size; rw [World.size_alloc] at this; exact this); (have tb10 : Below w9.heap.size w9 w10 := ((Below.refl w9.heap.size w9).alloc (Nat.le_refl _) _).trans (bel10.mono (by rw [World.size_alloc]; omega))); (have zz10 : w.heap.size + 1 + 1 ≤ w10.heap.size := by omega); (have hw10 : Below w.heap.size w w10 := hw9.trans (tb10.mono (by omega))); (have R10 := R9.below tb10 (by omega)); (have ht := R10.there); (obtain ⟨r0, r1, r2, r3, f0, f1, f2, f3⟩ := id R10)))
  (try simp only [Exit.inBlock, Exit.then])
  exact bodyPost_ret (results_set4 Try.results51 _ _ _ _ _ _ _ ht rfl Try.underlying46 rfl (by kernel_rfl)) rfl ⟨rfl, below_set4 hw10 (by omega) _ _ _ _⟩
end Go.Proofs.Ytinigkpidhbgcaa
