/- Words of 64 bits: what Add64, Sub64 and Mul64 of math/bits do in the model; numbers of four words. -/
import Derived.Test.YtinigkpidhbgcaaBase
import Derived.Laws.Externs
import Derived.Shelf.Spec.BitsCarry
import Derived.Shelf.Bits.Mul64
namespace Go.Proofs.Ytinigkpidhbgcaa
open Go.RowKit Go.Lib
theorem Hid.mk' {P : Prop} (h : P) : Hid P := h
/-- Four words as a number. -/
def val4 (a b c d : Nat) : Nat := a + 18446744073709551616 * b + 340282366920938463463374607431768211456 * c + 6277101735386680763835789423207666416102355444464034512896 * d
/-- The i-th word of a number. -/
def lw (n i : Nat) : Nat := n / 18446744073709551616 ^ i % 18446744073709551616
/-- A Number's value in the model. -/
def numV (n : Nat) : Value := .agg #[.int .u64 (lw n 0), .int .u64 (lw n 1), .int .u64 (lw n 2), .int .u64 (lw n 3)]
theorem lw_lt (n i : Nat) : lw n i < 18446744073709551616 := Nat.mod_lt _ (by decide)
theorem lw_val (n : Nat) (h : n < 115792089237316195423570985008687907853269984665640564039457584007913129639936) : val4 (lw n 0) (lw n 1) (lw n 2) (lw n 3) = n := by
  unfold val4 lw
  simp only [Nat.reducePow]
  omega
theorem val4_lw (a b c d : Nat) (ha : a < 18446744073709551616) (hb : b < 18446744073709551616) (hc : c < 18446744073709551616) (hd : d < 18446744073709551616) : lw (val4 a b c d) 0 = a ∧ lw (val4 a b c d) 1 = b ∧ lw (val4 a b c d) 2 = c ∧ lw (val4 a b c d) 3 = d := by
  unfold val4 lw
  simp only [Nat.reducePow]
  refine ⟨?_, ?_, ?_, ?_⟩ <;> omega
theorem val4_lt (a b c d : Nat) (ha : a < 18446744073709551616) (hb : b < 18446744073709551616) (hc : c < 18446744073709551616) (hd : d < 18446744073709551616) : val4 a b c d < 115792089237316195423570985008687907853269984665640564039457584007913129639936 := by
  unfold val4; omega
theorem numV_of (n a b c d : Nat) (ha : a < 18446744073709551616) (hb : b < 18446744073709551616) (hc : c < 18446744073709551616) (hd : d < 18446744073709551616) (h : val4 a b c d = n) : (Value.agg #[.int .u64 a, .int .u64 b, .int .u64 c, .int .u64 d] : Value) = numV n := by
  obtain ⟨h0, h1, h2, h3⟩ := val4_lw a b c d ha hb hc hd
  rw [h] at h0 h1 h2 h3
  unfold numV
  rw [h0, h1, h2, h3]
theorem add64_run (x y c : Nat) (hc : c ≤ 1) (w : World) : (callFunc 55 #[.int .u64 x, .int .u64 y, .int .u64 c]).run Try.prog w =
    .ok (.value (.tuple #[.int .u64 (((x + y + c) % 18446744073709551616 : Nat) : Int), .int .u64 (((x + y + c) / 18446744073709551616 : Nat) : Int)])) w := by
  rw [run_callFunc_extern Try.func55 (by kernel_rfl) (by kernel_rfl) (by kernel_rfl) (e := add64Entry) (by kernel_rfl), run_add64 x y c (by omega) (by omega) (by omega) (by omega)]
  simp only [Result.andThen]
  congr 5 <;> omega
/-- A sum of two words and a carry, under names. -/
theorem add64_ex (x y c : Nat) (hx : x < 18446744073709551616) (hy : y < 18446744073709551616) (hc : c ≤ 1) : ∃ s k : Nat, s < 18446744073709551616 ∧ k ≤ 1 ∧ s + 18446744073709551616 * k = x + y + c ∧ ∀ w, (callFunc 55 #[.int .u64 x, .int .u64 y, .int .u64 c]).run Try.prog w = .ok (.value (.tuple #[.int .u64 s, .int .u64 k])) w :=
  ⟨_, _, by omega, by omega, by omega, fun w => add64_run x y c hc w⟩
theorem add64_ex0 (x y : Nat) (hx : x < 18446744073709551616) (hy : y < 18446744073709551616) : ∃ s k : Nat, s < 18446744073709551616 ∧ k ≤ 1 ∧ s + 18446744073709551616 * k = x + y ∧ ∀ w, (callFunc 55 #[.int .u64 x, .int .u64 y, .int .u64 0]).run Try.prog w = .ok (.value (.tuple #[.int .u64 s, .int .u64 k])) w :=
  add64_ex x y 0 hx hy (by decide)
theorem add64_exz (x c : Nat) (hx : x < 18446744073709551616) (hc : c ≤ 1) : ∃ s k : Nat, s < 18446744073709551616 ∧ k ≤ 1 ∧ s + 18446744073709551616 * k = x + c ∧ ∀ w, (callFunc 55 #[.int .u64 x, .int .u64 0, .int .u64 c]).run Try.prog w = .ok (.value (.tuple #[.int .u64 s, .int .u64 k])) w :=
  add64_ex x 0 c hx (by decide) hc
theorem sub64_run (x y b : Nat) (hb : b ≤ 1) (w : World) : (callFunc 56 #[.int .u64 x, .int .u64 y, .int .u64 b]).run Try.prog w =
    .ok (.value (.tuple #[.int .u64 (((x + 18446744073709551616 - y - b) % 18446744073709551616 : Nat) : Int), .int .u64 ((if x < y + b then 1 else 0 : Nat) : Int)])) w := by
  rw [run_callFunc_extern Try.func56 (by kernel_rfl) (by kernel_rfl) (by kernel_rfl) (e := sub64Entry) (by kernel_rfl), run_sub64 x y b hb]
  rfl
theorem sub64_ex (x y b : Nat) (hx : x < 18446744073709551616) (hy : y < 18446744073709551616) (hb : b ≤ 1) : ∃ s k : Nat, s < 18446744073709551616 ∧ k ≤ 1 ∧ s + y + b = x + 18446744073709551616 * k ∧ ∀ w, (callFunc 56 #[.int .u64 x, .int .u64 y, .int .u64 b]).run Try.prog w = .ok (.value (.tuple #[.int .u64 s, .int .u64 k])) w :=
  ⟨_, _, by omega, by split <;> omega, by split <;> omega, fun w => sub64_run x y b hb w⟩
theorem sub64_ex0 (x y : Nat) (hx : x < 18446744073709551616) (hy : y < 18446744073709551616) : ∃ s k : Nat, s < 18446744073709551616 ∧ k ≤ 1 ∧ s + y = x + 18446744073709551616 * k ∧ ∀ w, (callFunc 56 #[.int .u64 x, .int .u64 y, .int .u64 0]).run Try.prog w = .ok (.value (.tuple #[.int .u64 s, .int .u64 k])) w :=
  sub64_ex x y 0 hx hy (by decide)
theorem sub64_exz (x b : Nat) (hx : x < 18446744073709551616) (hb : b ≤ 1) : ∃ s k : Nat, s < 18446744073709551616 ∧ k ≤ 1 ∧ s + b = x + 18446744073709551616 * k ∧ ∀ w, (callFunc 56 #[.int .u64 x, .int .u64 0, .int .u64 b]).run Try.prog w = .ok (.value (.tuple #[.int .u64 s, .int .u64 k])) w :=
  sub64_ex x 0 b hx (by decide) hb
/-- Where this program has Mul64 and its types. -/
def rho64 : Go.Shelf.Ren := ⟨fun _ => 59, fun n => if n = 46 then 66 else 42, fun x => x⟩
theorem lays64 : Lays.n264 Try.prog rho64 := by
  constructor <;> first | kernel_rfl | (intro w; kernel_rfl)
theorem mul64_any (x y : Nat) (hx : x < 18446744073709551616) (hy : y < 18446744073709551616) (w : World) :
    Calls Try.prog 59 #[.int .u64 x, .int .u64 y] w fun e w' => e = .returned (.tuple #[.int .u64 ((x * y / 18446744073709551616 : Nat) : Int), .int .u64 ((x * y % 18446744073709551616 : Nat) : Int)]) ∧ w' = w :=
  Any.bits_Mul64 lays64 x y hx hy w
theorem mul64_ex (x y : Nat) (hx : x < 18446744073709551616) (hy : y < 18446744073709551616) : ∃ h l : Nat, h ≤ 18446744073709551614 ∧ l < 18446744073709551616 ∧ l + 18446744073709551616 * h = x * y ∧ ∀ w, Calls Try.prog 59 #[.int .u64 x, .int .u64 y] w fun e w' => e = .returned (.tuple #[.int .u64 h, .int .u64 l]) ∧ w' = w := by
  have h1 : x * y ≤ 18446744073709551615 * 18446744073709551615 := Nat.mul_le_mul (by omega) (by omega)
  exact ⟨x * y / 18446744073709551616, x * y % 18446744073709551616, by omega, by omega, by omega, fun w => mul64_any x y hx hy w⟩
theorem results_tmp4 {fn : Func} {t u v x : Tmp} (h : fn.results = #[.tmp t, .tmp u, .tmp v, .tmp x]) (tmps : Array Value) (P : Program) (w : World) :
    (results fn tmps).run P w = .ok (.tuple #[tmps.getD t undef, tmps.getD u undef, tmps.getD v undef, tmps.getD x undef]) w := by
  simp [results, h]
theorem results_tmp5 {fn : Func} {t u v x y : Tmp} (h : fn.results = #[.tmp t, .tmp u, .tmp v, .tmp x, .tmp y]) (tmps : Array Value) (P : Program) (w : World) :
    (results fn tmps).run P w = .ok (.tuple #[tmps.getD t undef, tmps.getD u undef, tmps.getD v undef, tmps.getD x undef, tmps.getD y undef]) w := by
  simp [results, h]
theorem mask63 (d : Nat) (hd : d < 18446744073709551616) : bits .and .u64 (d : Int) 9223372036854775807 = ((d % 9223372036854775808 : Nat) : Int) := by
  have h := bits_and_u64_nat d 9223372036854775807 hd (by omega)
  have e : d &&& 9223372036854775807 = d % 9223372036854775808 := Nat.and_two_pow_sub_one_eq_mod d 63
  rw [e] at h
  exact h
theorem range_fresh4 (w : World) (a b c d : Value) (t : TypeId) : (w.alloc (.cells #[a, b, c, d] t)).rangeAt w.heap.size 0 [a, b, c, d] := fun j v hv => by
  match j, hv with
  | 0, hv => simpa using hv
  | 1, hv => simpa using hv
  | 2, hv => simpa using hv
  | 3, hv => simpa using hv
theorem results_fresh4 {P : Program} {fn : Func} {p : Tmp} {ty : TypeId} (h : fn.results = #[.cell p ty]) (tmps : Array Value) (w : World) (t : TypeId) (a b c d : Value) {D : TypeDesc}
    (hp : tmps.getD p undef = .pointer (some ⟨w.heap.size, 0, none⟩)) (hu : P.underlying ty = some D) (hd : D.isRow = true) (hi : (P.info? ty).map (·.size) = some 4) :
    (results fn tmps).run P (w.alloc (.cells #[a, b, c, d] t)) = .ok (.agg #[a, b, c, d]) (w.alloc (.cells #[a, b, c, d] t)) :=
  results_cell_mid h tmps _ _ 0 [a, b, c, d] D hp (range_fresh4 w a b c d t) hu hd hi
end Go.Proofs.Ytinigkpidhbgcaa
