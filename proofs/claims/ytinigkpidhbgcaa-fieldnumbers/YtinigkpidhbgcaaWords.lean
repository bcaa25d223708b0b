/- What addProduct, addSmall and settle of package field do in the model. -/
import Derived.Test.YtinigkpidhbgcaaW64
namespace Go.Proofs.Ytinigkpidhbgcaa
open Go.RowKit Go.Lib
/-- p = 2^255 - 19. -/
def pF : Nat := 57896044618658097711785492504343953926634992332820282019728792003956564819949
set_option maxHeartbeats 1000000 in
theorem addProduct_any (t x y c : Nat) (ht : t < 18446744073709551616) (hx : x < 18446744073709551616) (hy : y < 18446744073709551616) (hc : c < 18446744073709551616) :
    ∃ l h : Nat, l < 18446744073709551616 ∧ h < 18446744073709551616 ∧ l + 18446744073709551616 * h = t + x * y + c ∧ ∀ w, Calls Try.prog 58 #[.int .u64 t, .int .u64 x, .int .u64 y, .int .u64 c] w fun e w' => e = .returned (.tuple #[.int .u64 l, .int .u64 h]) ∧ w' = w := by
  obtain ⟨h0, l0, hh0, hl0, e0, r0⟩ := mul64_ex x y hx hy
  obtain ⟨l1, k1, hl1, hk1, e1, r1⟩ := add64_ex0 l0 t hl0 ht
  obtain ⟨l2, k2, hl2, hk2, e2, r2⟩ := add64_ex0 l1 c hl1 hc
  have hxy : x * y ≤ 18446744073709551615 * 18446744073709551615 := Nat.mul_le_mul (by omega) (by omega)
  obtain ⟨P, hP⟩ : ∃ P, P = x * y := ⟨_, rfl⟩
  rw [← hP] at e0 hxy ⊢
  clear hP
  refine ⟨l2, h0 + k1 + k2, hl2, by omega, by omega, fun w => ?_⟩
  have r0' := r0 w
  have b1 : h0 + k1 < 18446744073709551616 := by omega
  have b2 : h0 + k1 + k2 < 18446744073709551616 := by omega
  clear e0 e1 e2 r0 hxy
  go_enter Try.func58, Try.ntmps58
  go_wp2_with (first
    | (go_at_call 59; refine r0'.mono ?_; rintro e w' ⟨rfl, rfl⟩)
    | rw [r1] | rw [r2])
  go_ret2
  exact ⟨rfl, rfl⟩
set_option maxHeartbeats 1000000 in
theorem addSmall_any (a b c d x : Nat) (ha : a < 18446744073709551616) (hb : b < 18446744073709551616) (hc : c < 18446744073709551616) (hd : d < 18446744073709551615) (hx : x < 18446744073709551616) :
    ∃ s0 s1 s2 s3 : Nat, s0 < 18446744073709551616 ∧ s1 < 18446744073709551616 ∧ s2 < 18446744073709551616 ∧ s3 < 18446744073709551616 ∧ val4 s0 s1 s2 s3 = val4 a b c d + x ∧ ∀ w, Calls Try.prog 54 #[.int .u64 a, .int .u64 b, .int .u64 c, .int .u64 d, .int .u64 x] w fun e w' => e = .returned (.tuple #[.int .u64 s0, .int .u64 s1, .int .u64 s2, .int .u64 s3]) ∧ w' = w := by
  obtain ⟨s0, k0, hs0, hk0, e0, r0⟩ := add64_ex0 a x ha hx
  obtain ⟨s1, k1, hs1, hk1, e1, r1⟩ := add64_exz b k0 hb hk0
  obtain ⟨s2, k2, hs2, hk2, e2, r2⟩ := add64_exz c k1 hc hk1
  have b3 : d + k2 < 18446744073709551616 := by omega
  refine ⟨s0, s1, s2, d + k2, hs0, hs1, hs2, b3, by unfold val4; omega, fun w => ?_⟩
  clear e0 e1 e2
  go_enter Try.func54, Try.ntmps54
  go_wp2_with (first | rw [r0] | rw [r1] | rw [r2])
  (try simp only [Exit.inBlock, Exit.then])
  refine bodyPost_ret (results_tmp4 rfl _ _ _) rfl ?_
  exact ⟨rfl, rfl⟩
theorem over_bits (top d : Nat) (ht : top ≤ 38) (hd : d < 18446744073709551616) : bits .or .u64 ((top : Int) * 2) ((d : Int) / 9223372036854775808) = ((top * 2 + d / 9223372036854775808 : Nat) : Int) := by
  have e1 : (top : Int) * 2 = ((top * 2 : Nat) : Int) := by omega
  have e2 : (d : Int) / 9223372036854775808 = ((d / 9223372036854775808 : Nat) : Int) := by omega
  rw [e1, e2, bits_or_u64_nat _ _ (by omega) (by omega)]
  have h1 : d / 9223372036854775808 = 0 ∨ d / 9223372036854775808 = 1 := by omega
  congr 1
  rcases h1 with h | h <;> rw [h]
  · simp
  · have key : ∀ k, k < 39 → k * 2 ||| 1 = k * 2 + 1 := by decide
    exact key top (by omega)
theorem settle_val (V V' S M T o : Nat) (hV : V = V' + 57896044618658097711785492504343953926634992332820282019728792003956564819968 * o) (hS : S = V' + (T * 2 + o) * 19) (hV' : V' < 57896044618658097711785492504343953926634992332820282019728792003956564819968) (hT : T ≤ 38) (ho : o ≤ 1) (hM : M = S + 19) :
    (M < 57896044618658097711785492504343953926634992332820282019728792003956564819968 → (V + 115792089237316195423570985008687907853269984665640564039457584007913129639936 * T) % pF = S) ∧ (57896044618658097711785492504343953926634992332820282019728792003956564819968 ≤ M → (V + 115792089237316195423570985008687907853269984665640564039457584007913129639936 * T) % pF = M - 57896044618658097711785492504343953926634992332820282019728792003956564819968) := by
  have key : V + 115792089237316195423570985008687907853269984665640564039457584007913129639936 * T = S + pF * (T * 2 + o) := by unfold pF; omega
  rw [key, Nat.add_mul_mod_self_left]
  unfold pF
  constructor <;> intro h <;> omega
theorem rm19 {f : FuncId} {a b c d : Value} {Q : Ending → World → Prop} {w : World} (h : Calls Try.prog f #[a, b, c, d, .int .u64 ((19 : Nat) : Int)] w Q) : Calls Try.prog f #[a, b, c, d, .int .u64 19] w Q := h
set_option maxRecDepth 20000 in
set_option maxHeartbeats 1000000 in
theorem settle_any (a b c d t : Nat) (ha : a < 18446744073709551616) (hb : b < 18446744073709551616) (hc : c < 18446744073709551616) (hd : d < 18446744073709551616) (ht : t ≤ 38) (w : World) :
    Calls Try.prog 46 #[.int .u64 a, .int .u64 b, .int .u64 c, .int .u64 d, .int .u64 t] w fun e w' => e = .returned (numV ((val4 a b c d + 115792089237316195423570985008687907853269984665640564039457584007913129639936 * t) % pF)) ∧ Below w.heap.size w w' := by
  obtain ⟨s0, s1, s2, s3, h0, h1, h2, h3, es, rs⟩ := addSmall_any a b c (d % 9223372036854775808) ((t * 2 + d / 9223372036854775808) * 19) ha hb hc (by omega) (by omega)
  have hs3 : s3 < 9223372036854775809 := by unfold val4 at es; omega
  obtain ⟨m0, m1, m2, m3, g0, g1, g2, g3, em, rm⟩ := addSmall_any s0 s1 s2 s3 19 h0 h1 h2 (by omega) (by decide)
  obtain ⟨f1, f2⟩ := settle_val (val4 a b c d) (val4 a b c (d % 9223372036854775808)) (val4 s0 s1 s2 s3) (val4 m0 m1 m2 m3) t (d / 9223372036854775808) (by unfold val4; omega) es (by unfold val4; omega) ht (by omega) em
  obtain ⟨N, hN⟩ : ∃ N, N = (val4 a b c d + 115792089237316195423570985008687907853269984665640564039457584007913129639936 * t) % pF := ⟨_, rfl⟩
  rw [← hN] at f1 f2 ⊢
  have o1 := over_bits t d ht hd
  obtain ⟨ox, hox⟩ : ∃ ox, ox = t * 2 + d / 9223372036854775808 := ⟨_, rfl⟩
  obtain ⟨dl, hdl⟩ : ∃ dl, dl = d % 9223372036854775808 := ⟨_, rfl⟩
  obtain ⟨ml, hml⟩ : ∃ ml, ml = m3 % 9223372036854775808 := ⟨_, rfl⟩
  have hox77 : ox ≤ 77 := by omega
  rw [← hox, ← hdl] at rs
  rw [← hox] at o1
  have o2 := mask63 d hd
  have o3 := mask63 m3 g3
  rw [← hdl] at o2
  rw [← hml] at o3
  obtain ⟨ov, hov⟩ : ∃ ov, ov = ox * 19 := ⟨_, rfl⟩
  rw [← hov] at rs
  have o4 : (ox : Int) * 19 = (ov : Int) := by omega
  have hmll : ml < 18446744073709551616 := by omega
  have fin1 : m3 > 9223372036854775807 → (Value.agg #[.int .u64 m0, .int .u64 m1, .int .u64 m2, .int .u64 ml] : Value) = numV N := fun hm => numV_of N m0 m1 m2 ml g0 g1 g2 (by omega) (by rw [f2 (by unfold val4; omega)]; unfold val4; omega)
  have fin2 : ¬m3 > 9223372036854775807 → (Value.agg #[.int .u64 s0, .int .u64 s1, .int .u64 s2, .int .u64 s3] : Value) = numV N := fun hm => numV_of N s0 s1 s2 s3 h0 h1 h2 (by omega) (by rw [f1 (by unfold val4; omega)])
  clear es em hN f1 f2 hox hdl hml hov
  by_cases hm : m3 > 9223372036854775807
  · have fin := Hid.mk' (fin1 hm)
    have hm' : (9223372036854775807 : Int) < (m3 : Int) := by omega
    clear fin1 fin2
    go_enter Try.func46, Try.ntmps46
    go_wp2_with (first
      | (go_at_call 54; refine (rs _).mono ?_; clear rs; rintro e w' ⟨rfl, hw⟩; subst hw)
      | (go_at_call 54; refine (rm19 (rm _)).mono ?_; rintro e w' ⟨rfl, hw⟩; subst hw))
    (try simp only [Exit.inBlock, Exit.then])
    exact bodyPost_ret (results_fresh4 Try.results46 _ _ _ _ _ _ _ rfl Try.underlying44 rfl (by kernel_rfl)) rfl ⟨by rw [fin.out], (Below.refl _ _).alloc (Nat.le_refl _) _⟩
  · have fin := Hid.mk' (fin2 hm)
    have hm' : ¬(9223372036854775807 : Int) < (m3 : Int) := by omega
    clear fin1 fin2
    go_enter Try.func46, Try.ntmps46
    go_wp2_with (first
      | (go_at_call 54; refine (rs _).mono ?_; clear rs; rintro e w' ⟨rfl, hw⟩; subst hw)
      | (go_at_call 54; refine (rm19 (rm _)).mono ?_; rintro e w' ⟨rfl, hw⟩; subst hw))
    (try simp only [Exit.inBlock, Exit.then])
    exact bodyPost_ret (results_fresh4 Try.results46 _ _ _ _ _ _ _ rfl Try.underlying44 rfl (by kernel_rfl)) rfl ⟨by rw [fin.out], (Below.refl _ _).alloc (Nat.le_refl _) _⟩
end Go.Proofs.Ytinigkpidhbgcaa
