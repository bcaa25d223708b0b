/- Words of 64 bits: what Add64, Sub64 and Mul64, and addProduct, addSmall and settle of package field do in the model. -/
import Derived.Test.YtinigkpidhbgcaaBase
import Derived.Lib.Mul64
import Derived.Laws.Externs
namespace Go.Proofs.Ytinigkpidhbgcaa
open Go.RowKit Go.Lib
theorem Hid.mk' {P : Prop} (h : P) : Hid P := h
/-- p = 2^255 - 19. -/
def pF : Nat := 57896044618658097711785492504343953926634992332820282019728792003956564819949
/-- Four words as a number. -/
def val4 (a b c d : Nat) : Nat := a + 18446744073709551616 * b + 340282366920938463463374607431768211456 * c + 6277101735386680763835789423207666416102355444464034512896 * d
/-- The i-th word of a number. -/
def lw (n i : Nat) : Nat := n / 18446744073709551616 ^ i % 18446744073709551616
/-- A Number's value in the model. -/
def numV (n : Nat) : Value := .agg #[.int .u64 (lw n 0), .int .u64 (lw n 1), .int .u64 (lw n 2), .int .u64 (lw n 3)]
theorem lw_lt (n i : Nat) : lw n i < 18446744073709551616 := Nat.mod_lt _ (by decide)
theorem lw_val (n : Nat) (h : n < 115792089237316195423570985008687907853269984665640564039457584007913129639936) : val4 (lw n 0) (lw n 1) (lw n 2) (lw n 3) = n := by
  unfold val4 lw
  simp only [Nat.reducePow]
  omega
theorem val4_lw (a b c d : Nat) (ha : a < 18446744073709551616) (hb : b < 18446744073709551616) (hc : c < 18446744073709551616) (hd : d < 18446744073709551616) : lw (val4 a b c d) 0 = a ∧ lw (val4 a b c d) 1 = b ∧ lw (val4 a b c d) 2 = c ∧ lw (val4 a b c d) 3 = d := by
  unfold val4 lw
  simp only [Nat.reducePow]
  refine ⟨?_, ?_, ?_, ?_⟩ <;> omega
theorem val4_lt (a b c d : Nat) (ha : a < 18446744073709551616) (hb : b < 18446744073709551616) (hc : c < 18446744073709551616) (hd : d < 18446744073709551616) : val4 a b c d < 115792089237316195423570985008687907853269984665640564039457584007913129639936 := by
  unfold val4; omega
theorem numV_of (n a b c d : Nat) (ha : a < 18446744073709551616) (hb : b < 18446744073709551616) (hc : c < 18446744073709551616) (hd : d < 18446744073709551616) (h : val4 a b c d = n) : (Value.agg #[.int .u64 a, .int .u64 b, .int .u64 c, .int .u64 d] : Value) = numV n := by
  obtain ⟨h0, h1, h2, h3⟩ := val4_lw a b c d ha hb hc hd
  rw [h] at h0 h1 h2 h3
  unfold numV
  rw [h0, h1, h2, h3]
theorem add64_run (x y c : Nat) (hc : c ≤ 1) (w : World) : (callFunc 55 #[.int .u64 x, .int .u64 y, .int .u64 c]).run Try.prog w =
    .ok (.value (.tuple #[.int .u64 (((x + y + c) % 18446744073709551616 : Nat) : Int), .int .u64 (((x + y + c) / 18446744073709551616 : Nat) : Int)])) w := by
  rw [run_callFunc_extern Try.func55 (by kernel_rfl) (by kernel_rfl) (by kernel_rfl) (e := add64Entry) (by kernel_rfl), run_add64 x y c (by omega) (by omega) (by omega) (by omega)]
  simp only [Result.andThen]
  congr 5 <;> omega
/-- A sum of two words and a carry, under names. -/
theorem add64_ex (x y c : Nat) (hx : x < 18446744073709551616) (hy : y < 18446744073709551616) (hc : c ≤ 1) : ∃ s k : Nat, s < 18446744073709551616 ∧ k ≤ 1 ∧ s + 18446744073709551616 * k = x + y + c ∧ ∀ w, (callFunc 55 #[.int .u64 x, .int .u64 y, .int .u64 c]).run Try.prog w = .ok (.value (.tuple #[.int .u64 s, .int .u64 k])) w :=
  ⟨_, _, by omega, by omega, by omega, fun w => add64_run x y c hc w⟩
theorem add64_ex0 (x y : Nat) (hx : x < 18446744073709551616) (hy : y < 18446744073709551616) : ∃ s k : Nat, s < 18446744073709551616 ∧ k ≤ 1 ∧ s + 18446744073709551616 * k = x + y ∧ ∀ w, (callFunc 55 #[.int .u64 x, .int .u64 y, .int .u64 0]).run Try.prog w = .ok (.value (.tuple #[.int .u64 s, .int .u64 k])) w :=
  add64_ex x y 0 hx hy (by decide)
theorem add64_exz (x c : Nat) (hx : x < 18446744073709551616) (hc : c ≤ 1) : ∃ s k : Nat, s < 18446744073709551616 ∧ k ≤ 1 ∧ s + 18446744073709551616 * k = x + c ∧ ∀ w, (callFunc 55 #[.int .u64 x, .int .u64 0, .int .u64 c]).run Try.prog w = .ok (.value (.tuple #[.int .u64 s, .int .u64 k])) w :=
  add64_ex x 0 c hx (by decide) hc
/-- The model's entry for math/bits.Sub64. -/
def sub64E : Array Value → Sem Value := fun args => do
  let (x, y, b) ← Extern.MathBitsCarry.three "Sub64" args
  pure (Extern.MathBitsCarry.pair ((x + Extern.MathBitsCarry.m64 - y - b) % Extern.MathBitsCarry.m64) (if x < y + b then 1 else 0))
theorem run_sub64E {P : Program} (x y b : Nat) (hb : b ≤ 1) (w : World) :
    (sub64E #[.int .u64 x, .int .u64 y, .int .u64 b]).run P w =
      .ok (.tuple #[.int .u64 (((x + 18446744073709551616 - y - b) % 18446744073709551616 : Nat) : Int), .int .u64 ((if x < y + b then 1 else 0 : Nat) : Int)]) w := by
  have : b = 0 ∨ b = 1 := by omega
  rcases this with rfl | rfl <;> rfl
theorem sub64_run (x y b : Nat) (hb : b ≤ 1) (w : World) : (callFunc 56 #[.int .u64 x, .int .u64 y, .int .u64 b]).run Try.prog w =
    .ok (.value (.tuple #[.int .u64 (((x + 18446744073709551616 - y - b) % 18446744073709551616 : Nat) : Int), .int .u64 ((if x < y + b then 1 else 0 : Nat) : Int)])) w := by
  rw [run_callFunc_extern Try.func56 (by kernel_rfl) (by kernel_rfl) (by kernel_rfl) (e := sub64E) (by kernel_rfl), run_sub64E x y b hb]
  rfl
theorem sub64_ex (x y b : Nat) (hx : x < 18446744073709551616) (hy : y < 18446744073709551616) (hb : b ≤ 1) : ∃ s k : Nat, s < 18446744073709551616 ∧ k ≤ 1 ∧ s + y + b = x + 18446744073709551616 * k ∧ ∀ w, (callFunc 56 #[.int .u64 x, .int .u64 y, .int .u64 b]).run Try.prog w = .ok (.value (.tuple #[.int .u64 s, .int .u64 k])) w :=
  ⟨_, _, by omega, by split <;> omega, by split <;> omega, fun w => sub64_run x y b hb w⟩
theorem sub64_ex0 (x y : Nat) (hx : x < 18446744073709551616) (hy : y < 18446744073709551616) : ∃ s k : Nat, s < 18446744073709551616 ∧ k ≤ 1 ∧ s + y = x + 18446744073709551616 * k ∧ ∀ w, (callFunc 56 #[.int .u64 x, .int .u64 y, .int .u64 0]).run Try.prog w = .ok (.value (.tuple #[.int .u64 s, .int .u64 k])) w :=
  sub64_ex x y 0 hx hy (by decide)
theorem sub64_exz (x b : Nat) (hx : x < 18446744073709551616) (hb : b ≤ 1) : ∃ s k : Nat, s < 18446744073709551616 ∧ k ≤ 1 ∧ s + b = x + 18446744073709551616 * k ∧ ∀ w, (callFunc 56 #[.int .u64 x, .int .u64 0, .int .u64 b]).run Try.prog w = .ok (.value (.tuple #[.int .u64 s, .int .u64 k])) w :=
  sub64_ex x 0 b hx (by decide) hb
namespace M64
theorem maskN (a : Nat) (ha : a < 18446744073709551616) : bits .and .u64 (a : Int) 4294967295 = ((a % 4294967296 : Nat) : Int) := by
  have h := bits_and_u64_nat a 4294967295 ha (by omega)
  have e : a &&& 4294967295 = a % 4294967296 := Nat.and_two_pow_sub_one_eq_mod a 32
  rw [e] at h
  exact h
theorem divN (a : Nat) : (a : Int) / 4294967296 = ((a / 4294967296 : Nat) : Int) := by omega
theorem mulN (a b : Nat) : (a : Int) * (b : Int) = ((a * b : Nat) : Int) := (Int.natCast_mul a b).symm
theorem addN (a b : Nat) : (a : Int) + (b : Int) = ((a + b : Nat) : Int) := (Int.natCast_add a b).symm
theorem wrapN (a : Nat) (ha : a < 18446744073709551616) : IntKind.u64.wrap (a : Int) = (a : Int) := by rw [IntKind.wrap_u64]; omega
theorem wrapM (a : Nat) : IntKind.u64.wrap (a : Int) = ((a % 18446744073709551616 : Nat) : Int) := by rw [IntKind.wrap_u64]; omega
end M64
set_option maxHeartbeats 1000000 in
theorem mul64_any (x y : Nat) (hx : x < 18446744073709551616) (hy : y < 18446744073709551616) (w : World) :
    Calls Try.prog 59 #[.int .u64 x, .int .u64 y] w fun e w' => e = .returned (.tuple #[.int .u64 ((x * y / 18446744073709551616 : Nat) : Int), .int .u64 ((x * y % 18446744073709551616 : Nat) : Int)]) ∧ w' = w := by
  obtain ⟨bd, bt, bw, hhi⟩ := Lib.mul64_hi x y hx hy
  have ba := Lib.half_mul_le (a := x / 4294967296) (b := y / 4294967296) (by omega) (by omega)
  have bb := Lib.half_mul_le (a := x / 4294967296) (b := y % 4294967296) (by omega) (by omega)
  have bc := Lib.half_mul_le (a := x % 4294967296) (b := y / 4294967296) (by omega) (by omega)
  have ba' : x / 4294967296 * (y / 4294967296) < 18446744073709551616 := by omega
  have bb' : x / 4294967296 * (y % 4294967296) < 18446744073709551616 := by omega
  have bc' : x % 4294967296 * (y / 4294967296) < 18446744073709551616 := by omega
  have bh1 : x / 4294967296 * (y / 4294967296) + (x / 4294967296 * (y % 4294967296) + x % 4294967296 * (y % 4294967296) / 4294967296) / 4294967296 < 18446744073709551616 := by omega
  have bh : x / 4294967296 * (y / 4294967296) + (x / 4294967296 * (y % 4294967296) + x % 4294967296 * (y % 4294967296) / 4294967296) / 4294967296 + ((x / 4294967296 * (y % 4294967296) + x % 4294967296 * (y % 4294967296) / 4294967296) % 4294967296 + x % 4294967296 * (y / 4294967296)) / 4294967296 < 18446744073709551616 := by omega
  go_enter Try.func59, Try.ntmps59
  go_wp2
  simp only [M64.maskN x hx, M64.maskN y hy, M64.divN, M64.mulN, M64.addN, M64.wrapN _ bd, M64.wrapN _ bb', M64.wrapN _ bt, M64.maskN _ bt, M64.wrapN _ bc', M64.wrapN _ bw, M64.wrapN _ ba', M64.wrapN _ bh1, M64.wrapN _ bh, M64.wrapM (x * y)]
  rw [hhi]
  go_ret2
  exact ⟨rfl, rfl⟩
theorem mul64_ex (x y : Nat) (hx : x < 18446744073709551616) (hy : y < 18446744073709551616) : ∃ h l : Nat, h ≤ 18446744073709551614 ∧ l < 18446744073709551616 ∧ l + 18446744073709551616 * h = x * y ∧ ∀ w, Calls Try.prog 59 #[.int .u64 x, .int .u64 y] w fun e w' => e = .returned (.tuple #[.int .u64 h, .int .u64 l]) ∧ w' = w := by
  have h1 : x * y ≤ 18446744073709551615 * 18446744073709551615 := Nat.mul_le_mul (by omega) (by omega)
  exact ⟨x * y / 18446744073709551616, x * y % 18446744073709551616, by omega, by omega, by omega, fun w => mul64_any x y hx hy w⟩
theorem results_tmp4 {fn : Func} {t u v x : Tmp} (h : fn.results = #[.tmp t, .tmp u, .tmp v, .tmp x]) (tmps : Array Value) (P : Program) (w : World) :
    (results fn tmps).run P w = .ok (.tuple #[tmps.getD t undef, tmps.getD u undef, tmps.getD v undef, tmps.getD x undef]) w := by
  simp [results, h]
theorem results_tmp5 {fn : Func} {t u v x y : Tmp} (h : fn.results = #[.tmp t, .tmp u, .tmp v, .tmp x, .tmp y]) (tmps : Array Value) (P : Program) (w : World) :
    (results fn tmps).run P w = .ok (.tuple #[tmps.getD t undef, tmps.getD u undef, tmps.getD v undef, tmps.getD x undef, tmps.getD y undef]) w := by
  simp [results, h]
set_option maxHeartbeats 1000000 in
theorem addProduct_any (t x y c : Nat) (ht : t < 18446744073709551616) (hx : x < 18446744073709551616) (hy : y < 18446744073709551616) (hc : c < 18446744073709551616) :
    ∃ l h : Nat, l < 18446744073709551616 ∧ h < 18446744073709551616 ∧ l + 18446744073709551616 * h = t + x * y + c ∧ ∀ w, Calls Try.prog 58 #[.int .u64 t, .int .u64 x, .int .u64 y, .int .u64 c] w fun e w' => e = .returned (.tuple #[.int .u64 l, .int .u64 h]) ∧ w' = w := by
  obtain ⟨h0, l0, hh0, hl0, e0, r0⟩ := mul64_ex x y hx hy
  obtain ⟨l1, k1, hl1, hk1, e1, r1⟩ := add64_ex0 l0 t hl0 ht
  obtain ⟨l2, k2, hl2, hk2, e2, r2⟩ := add64_ex0 l1 c hl1 hc
  have hxy : x * y ≤ 18446744073709551615 * 18446744073709551615 := Nat.mul_le_mul (by omega) (by omega)
  obtain ⟨P, hP⟩ : ∃ P, P = x * y := ⟨_, rfl⟩
  rw [← hP] at e0 hxy ⊢
  clear hP
  refine ⟨l2, h0 + k1 + k2, hl2, by omega, by omega, fun w => ?_⟩
  have r0' := r0 w
  have b1 : h0 + k1 < 18446744073709551616 := by omega
  have b2 : h0 + k1 + k2 < 18446744073709551616 := by omega
  clear e0 e1 e2 r0 hxy
  go_enter Try.func58, Try.ntmps58
  go_wp2_with (first
    | (go_at_call 59; refine r0'.mono ?_; rintro e w' ⟨rfl, rfl⟩)
    | rw [r1] | rw [r2])
  go_ret2
  exact ⟨rfl, rfl⟩
set_option maxHeartbeats 1000000 in
theorem addSmall_any (a b c d x : Nat) (ha : a < 18446744073709551616) (hb : b < 18446744073709551616) (hc : c < 18446744073709551616) (hd : d < 18446744073709551615) (hx : x < 18446744073709551616) :
    ∃ s0 s1 s2 s3 : Nat, s0 < 18446744073709551616 ∧ s1 < 18446744073709551616 ∧ s2 < 18446744073709551616 ∧ s3 < 18446744073709551616 ∧ val4 s0 s1 s2 s3 = val4 a b c d + x ∧ ∀ w, Calls Try.prog 54 #[.int .u64 a, .int .u64 b, .int .u64 c, .int .u64 d, .int .u64 x] w fun e w' => e = .returned (.tuple #[.int .u64 s0, .int .u64 s1, .int .u64 s2, .int .u64 s3]) ∧ w' = w := by
  obtain ⟨s0, k0, hs0, hk0, e0, r0⟩ := add64_ex0 a x ha hx
  obtain ⟨s1, k1, hs1, hk1, e1, r1⟩ := add64_exz b k0 hb hk0
  obtain ⟨s2, k2, hs2, hk2, e2, r2⟩ := add64_exz c k1 hc hk1
  have b3 : d + k2 < 18446744073709551616 := by omega
  refine ⟨s0, s1, s2, d + k2, hs0, hs1, hs2, b3, by unfold val4; omega, fun w => ?_⟩
  clear e0 e1 e2
  go_enter Try.func54, Try.ntmps54
  go_wp2_with (first | rw [r0] | rw [r1] | rw [r2])
  (try simp only [Exit.inBlock, Exit.then])
  refine bodyPost_ret (results_tmp4 rfl _ _ _) rfl ?_
  exact ⟨rfl, rfl⟩
theorem over_bits (top d : Nat) (ht : top ≤ 38) (hd : d < 18446744073709551616) : bits .or .u64 ((top : Int) * 2) ((d : Int) / 9223372036854775808) = ((top * 2 + d / 9223372036854775808 : Nat) : Int) := by
  have e1 : (top : Int) * 2 = ((top * 2 : Nat) : Int) := by omega
  have e2 : (d : Int) / 9223372036854775808 = ((d / 9223372036854775808 : Nat) : Int) := by omega
  rw [e1, e2, bits_or_u64_nat _ _ (by omega) (by omega)]
  have h1 : d / 9223372036854775808 = 0 ∨ d / 9223372036854775808 = 1 := by omega
  congr 1
  rcases h1 with h | h <;> rw [h]
  · simp
  · have key : ∀ k, k < 39 → k * 2 ||| 1 = k * 2 + 1 := by decide
    exact key top (by omega)
theorem mask63 (d : Nat) (hd : d < 18446744073709551616) : bits .and .u64 (d : Int) 9223372036854775807 = ((d % 9223372036854775808 : Nat) : Int) := by
  have h := bits_and_u64_nat d 9223372036854775807 hd (by omega)
  have e : d &&& 9223372036854775807 = d % 9223372036854775808 := Nat.and_two_pow_sub_one_eq_mod d 63
  rw [e] at h
  exact h
theorem settle_val (V V' S M T o : Nat) (hV : V = V' + 57896044618658097711785492504343953926634992332820282019728792003956564819968 * o) (hS : S = V' + (T * 2 + o) * 19) (hV' : V' < 57896044618658097711785492504343953926634992332820282019728792003956564819968) (hT : T ≤ 38) (ho : o ≤ 1) (hM : M = S + 19) :
    (M < 57896044618658097711785492504343953926634992332820282019728792003956564819968 → (V + 115792089237316195423570985008687907853269984665640564039457584007913129639936 * T) % pF = S) ∧ (57896044618658097711785492504343953926634992332820282019728792003956564819968 ≤ M → (V + 115792089237316195423570985008687907853269984665640564039457584007913129639936 * T) % pF = M - 57896044618658097711785492504343953926634992332820282019728792003956564819968) := by
  have key : V + 115792089237316195423570985008687907853269984665640564039457584007913129639936 * T = S + pF * (T * 2 + o) := by unfold pF; omega
  rw [key, Nat.add_mul_mod_self_left]
  unfold pF
  constructor <;> intro h <;> omega
theorem range_fresh4 (w : World) (a b c d : Value) (t : TypeId) : (w.alloc (.cells #[a, b, c, d] t)).rangeAt w.heap.size 0 [a, b, c, d] := fun j v hv => by
  match j, hv with
  | 0, hv => simpa using hv
  | 1, hv => simpa using hv
  | 2, hv => simpa using hv
  | 3, hv => simpa using hv
theorem results_fresh4 {P : Program} {fn : Func} {p : Tmp} {ty : TypeId} (h : fn.results = #[.cell p ty]) (tmps : Array Value) (w : World) (t : TypeId) (a b c d : Value) {D : TypeDesc}
    (hp : tmps.getD p undef = .pointer (some ⟨w.heap.size, 0, none⟩)) (hu : P.underlying ty = some D) (hd : D.isRow = true) (hi : (P.info? ty).map (·.size) = some 4) :
    (results fn tmps).run P (w.alloc (.cells #[a, b, c, d] t)) = .ok (.agg #[a, b, c, d]) (w.alloc (.cells #[a, b, c, d] t)) :=
  results_cell_mid h tmps _ _ 0 [a, b, c, d] D hp (range_fresh4 w a b c d t) hu hd hi
theorem rm19 {f : FuncId} {a b c d : Value} {Q : Ending → World → Prop} {w : World} (h : Calls Try.prog f #[a, b, c, d, .int .u64 ((19 : Nat) : Int)] w Q) : Calls Try.prog f #[a, b, c, d, .int .u64 19] w Q := h
set_option maxRecDepth 20000 in
set_option maxHeartbeats 1000000 in
theorem settle_any (a b c d t : Nat) (ha : a < 18446744073709551616) (hb : b < 18446744073709551616) (hc : c < 18446744073709551616) (hd : d < 18446744073709551616) (ht : t ≤ 38) (w : World) :
    Calls Try.prog 46 #[.int .u64 a, .int .u64 b, .int .u64 c, .int .u64 d, .int .u64 t] w fun e w' => e = .returned (numV ((val4 a b c d + 115792089237316195423570985008687907853269984665640564039457584007913129639936 * t) % pF)) ∧ Below w.heap.size w w' := by
  obtain ⟨s0, s1, s2, s3, h0, h1, h2, h3, es, rs⟩ := addSmall_any a b c (d % 9223372036854775808) ((t * 2 + d / 9223372036854775808) * 19) ha hb hc (by omega) (by omega)
  have hs3 : s3 < 9223372036854775809 := by unfold val4 at es; omega
  obtain ⟨m0, m1, m2, m3, g0, g1, g2, g3, em, rm⟩ := addSmall_any s0 s1 s2 s3 19 h0 h1 h2 (by omega) (by decide)
  obtain ⟨f1, f2⟩ := settle_val (val4 a b c d) (val4 a b c (d % 9223372036854775808)) (val4 s0 s1 s2 s3) (val4 m0 m1 m2 m3) t (d / 9223372036854775808) (by unfold val4; omega) es (by unfold val4; omega) ht (by omega) em
  obtain ⟨N, hN⟩ : ∃ N, N = (val4 a b c d + 115792089237316195423570985008687907853269984665640564039457584007913129639936 * t) % pF := ⟨_, rfl⟩
  rw [← hN] at f1 f2 ⊢
  have o1 := over_bits t d ht hd
  obtain ⟨ox, hox⟩ : ∃ ox, ox = t * 2 + d / 9223372036854775808 := ⟨_, rfl⟩
  obtain ⟨dl, hdl⟩ : ∃ dl, dl = d % 9223372036854775808 := ⟨_, rfl⟩
  obtain ⟨ml, hml⟩ : ∃ ml, ml = m3 % 9223372036854775808 := ⟨_, rfl⟩
  have hox77 : ox ≤ 77 := by omega
  rw [← hox, ← hdl] at rs
  rw [← hox] at o1
  have o2 := mask63 d hd
  have o3 := mask63 m3 g3
  rw [← hdl] at o2
  rw [← hml] at o3
  obtain ⟨ov, hov⟩ : ∃ ov, ov = ox * 19 := ⟨_, rfl⟩
  rw [← hov] at rs
  have o4 : (ox : Int) * 19 = (ov : Int) := by omega
  have hmll : ml < 18446744073709551616 := by omega
  have fin1 : m3 > 9223372036854775807 → (Value.agg #[.int .u64 m0, .int .u64 m1, .int .u64 m2, .int .u64 ml] : Value) = numV N := fun hm => numV_of N m0 m1 m2 ml g0 g1 g2 (by omega) (by rw [f2 (by unfold val4; omega)]; unfold val4; omega)
  have fin2 : ¬m3 > 9223372036854775807 → (Value.agg #[.int .u64 s0, .int .u64 s1, .int .u64 s2, .int .u64 s3] : Value) = numV N := fun hm => numV_of N s0 s1 s2 s3 h0 h1 h2 (by omega) (by rw [f1 (by unfold val4; omega)])
  clear es em hN f1 f2 hox hdl hml hov
  by_cases hm : m3 > 9223372036854775807
  · have fin := Hid.mk' (fin1 hm)
    have hm' : (9223372036854775807 : Int) < (m3 : Int) := by omega
    clear fin1 fin2
    go_enter Try.func46, Try.ntmps46
    go_wp2_with (first
      | (go_at_call 54; refine (rs _).mono ?_; clear rs; rintro e w' ⟨rfl, hw⟩; subst hw)
      | (go_at_call 54; refine (rm19 (rm _)).mono ?_; rintro e w' ⟨rfl, hw⟩; subst hw))
    (try simp only [Exit.inBlock, Exit.then])
    exact bodyPost_ret (results_fresh4 Try.results46 _ _ _ _ _ _ _ rfl Try.underlying44 rfl (by kernel_rfl)) rfl ⟨by rw [fin.out], (Below.refl _ _).alloc (Nat.le_refl _) _⟩
  · have fin := Hid.mk' (fin2 hm)
    have hm' : ¬(9223372036854775807 : Int) < (m3 : Int) := by omega
    clear fin1 fin2
    go_enter Try.func46, Try.ntmps46
    go_wp2_with (first
      | (go_at_call 54; refine (rs _).mono ?_; clear rs; rintro e w' ⟨rfl, hw⟩; subst hw)
      | (go_at_call 54; refine (rm19 (rm _)).mono ?_; rintro e w' ⟨rfl, hw⟩; subst hw))
    (try simp only [Exit.inBlock, Exit.then])
    exact bodyPost_ret (results_fresh4 Try.results46 _ _ _ _ _ _ _ rfl Try.underlying44 rfl (by kernel_rfl)) rfl ⟨by rw [fin.out], (Below.refl _ _).alloc (Nat.le_refl _) _⟩
end Go.Proofs.Ytinigkpidhbgcaa
