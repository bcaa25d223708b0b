/- Numbers as words and as bytes: plain arithmetic. -/
import Derived.Test.YtinigkpidhbgcaaW64
namespace Go.Proofs.Ytinigkpidhbgcaa
/-- A number's bytes, the lowest first. -/
def byt (n j : Nat) : Nat := n / 256 ^ j % 256
theorem byt_lt (n j : Nat) : byt n j < 256 := Nat.mod_lt _ (by decide)
/-- The number of the first k bytes. -/
def ofB (bs : Nat → Nat) : Nat → Nat
  | 0 => 0
  | k + 1 => ofB bs k + 256 ^ k * bs k
theorem ofB_lt (bs : Nat → Nat) (hb : ∀ j, bs j < 256) : ∀ k, ofB bs k < 256 ^ k
  | 0 => Nat.one_pos
  | k + 1 => by
    have h := ofB_lt bs hb k
    have h2 : 256 ^ k * bs k ≤ 256 ^ k * 255 := Nat.mul_le_mul_left _ (by have := hb k; omega)
    rw [ofB, Nat.pow_succ]
    omega
theorem ofB_congr {a b : Nat → Nat} : ∀ k, (∀ j, j < k → a j = b j) → ofB a k = ofB b k
  | 0, _ => rfl
  | k + 1, h => by rw [ofB, ofB, ofB_congr k (fun j hj => h j (by omega)), h k (by omega)]
theorem pow_B (a : Nat) : 18446744073709551616 ^ a = 2 ^ (64 * a) := by
  rw [show (18446744073709551616 : Nat) = 2 ^ 64 from rfl, ← Nat.pow_mul]
theorem pow_b (a : Nat) : 256 ^ a = 2 ^ (8 * a) := by
  rw [show (256 : Nat) = 2 ^ 8 from rfl, ← Nat.pow_mul]
theorem word_byte (n k : Nat) : lw n (k / 8) / 2 ^ (k % 8 * 8) % 256 = byt n k := by
  unfold lw byt
  rw [← Nat.mod_mul_right_div_self, Nat.mod_mod_of_dvd, Nat.mod_mul_right_div_self, Nat.div_div_eq_div_mul, pow_B, pow_b, ← Nat.pow_add]
  · congr 4; omega
  · rw [show (256 : Nat) = 2 ^ 8 from rfl, show (18446744073709551616 : Nat) = 2 ^ 64 from rfl, ← Nat.pow_add]
    exact Nat.pow_dvd_pow 2 (by omega)
theorem word_byte_int (n k : Nat) : (lw n (k / 8) : Int) / 2 ^ (k % 8 * 8) % 256 = ((byt n k : Nat) : Int) := by
  rw [← word_byte]; simp
/-- One byte more. -/
theorem word_more (bs : Nat → Nat) (hb : ∀ j, bs j < 256) (k a : Nat) : lw (ofB bs (k + 1)) a = if a = k / 8 then lw (ofB bs k) a ||| bs k * 2 ^ (k % 8 * 8) else lw (ofB bs k) a := by
  have hV := ofB_lt bs hb k
  have hbk := hb k
  rw [ofB]
  generalize hv : ofB bs k = V at hV ⊢
  clear hv
  unfold lw
  rw [pow_b] at hV ⊢
  rw [pow_B]
  have hk : 8 * k = 64 * (k / 8) + k % 8 * 8 := by omega
  have hc : k % 8 * 8 + 8 ≤ 64 := by omega
  rw [hk, Nat.pow_add] at hV
  rw [hk, Nat.pow_add]
  generalize hA : k / 8 = A at *
  generalize k % 8 * 8 = c at *
  clear hk hA
  have hBp : 0 < 2 ^ (64 * A) := Nat.two_pow_pos _
  have hcp : 0 < 2 ^ c := Nat.two_pow_pos _
  have h2 : 2 ^ c * bs k + 2 ^ c ≤ 18446744073709551616 := by
    have : 2 ^ c * 256 ≤ 18446744073709551616 := by
      rw [show (256 : Nat) = 2 ^ 8 from rfl, show (18446744073709551616 : Nat) = 2 ^ 64 from rfl, ← Nat.pow_add]
      exact Nat.pow_le_pow_right (by decide) hc
    have h3 : 2 ^ c * bs k ≤ 2 ^ c * 255 := Nat.mul_le_mul_left _ (by omega)
    omega
  rcases Nat.lt_trichotomy a A with h | h | h
  · rw [if_neg (by omega)]
    have e : 64 * A = 64 * a + (64 + 64 * (A - a - 1)) := by omega
    rw [e, Nat.pow_add, Nat.mul_assoc, Nat.mul_assoc, Nat.add_mul_div_left _ _ (Nat.two_pow_pos _), Nat.pow_add, Nat.mul_assoc, show (2 : Nat) ^ 64 = 18446744073709551616 from rfl, Nat.add_mul_mod_self_left]
  · subst h
    rw [if_pos rfl, Nat.mul_assoc, Nat.add_mul_div_left _ _ hBp]
    have hq : V / 2 ^ (64 * a) < 2 ^ c := Nat.div_lt_of_lt_mul hV
    rw [Nat.mod_eq_of_lt (by omega), Nat.mod_eq_of_lt (by omega), Nat.or_comm, Nat.mul_comm (bs k)]
    have := Nat.two_pow_add_eq_or_of_lt hq (bs k)
    omega
  · rw [if_neg (by omega)]
    have e : 64 * a = 64 * A + (64 + 64 * (a - A - 1)) := by omega
    have hle : 2 ^ (64 * A) * 18446744073709551616 ≤ 2 ^ (64 * a) := by
      rw [show (18446744073709551616 : Nat) = 2 ^ 64 from rfl, ← Nat.pow_add]
      exact Nat.pow_le_pow_right (by decide) (by omega)
    have h5 : V + 2 ^ (64 * A) * 2 ^ c * bs k < 2 ^ (64 * A) * (2 ^ c * bs k + 2 ^ c) := by
      rw [Nat.mul_add, Nat.mul_assoc]; omega
    have h6 : 2 ^ (64 * A) * (2 ^ c * bs k + 2 ^ c) ≤ 2 ^ (64 * A) * 18446744073709551616 := Nat.mul_le_mul_left _ h2
    rw [Nat.div_eq_of_lt (by omega), Nat.div_eq_of_lt (by omega)]
theorem byt_ofB (bs : Nat → Nat) (hb : ∀ j, bs j < 256) : ∀ k j, j < k → byt (ofB bs k) j = bs j
  | 0, _, h => absurd h (Nat.not_lt_zero _)
  | k + 1, j, h => by
    unfold byt
    rw [ofB]
    by_cases e : j = k
    · subst e
      rw [Nat.add_mul_div_left _ _ (Nat.pow_pos (by decide)), Nat.div_eq_of_lt (ofB_lt bs hb j), Nat.zero_add, Nat.mod_eq_of_lt (hb j)]
    · have hj : j < k := by omega
      have e2 : k = j + (1 + (k - j - 1)) := by omega
      have : 256 ^ k = 256 ^ j * (256 * 256 ^ (k - j - 1)) := by
        conv => lhs; rw [e2]
        rw [Nat.pow_add, Nat.pow_add, Nat.pow_one]
      rw [this, Nat.mul_assoc, Nat.add_mul_div_left _ _ (Nat.pow_pos (by decide)), Nat.mul_assoc, Nat.add_mul_mod_self_left]
      exact byt_ofB bs hb k j hj
theorem ofB_byt (n : Nat) : ∀ k, ofB (byt n) k = n % 256 ^ k
  | 0 => by rw [ofB, Nat.pow_zero, Nat.mod_one]
  | k + 1 => by
    rw [ofB, ofB_byt n k, Nat.pow_succ, Nat.mod_mul]
    rfl
/-- Two numbers with the same bytes are the same. -/
theorem byt_inj {a b : Nat} (ha : a < 115792089237316195423570985008687907853269984665640564039457584007913129639936) (hb : b < 115792089237316195423570985008687907853269984665640564039457584007913129639936) (h : ∀ j, j < 32 → byt a j = byt b j) : a = b := by
  have := ofB_congr 32 h
  rw [ofB_byt, ofB_byt, show (256 : Nat) ^ 32 = 115792089237316195423570985008687907853269984665640564039457584007913129639936 from rfl, Nat.mod_eq_of_lt ha, Nat.mod_eq_of_lt hb] at this
  exact this
theorem or_byte (V b k : Nat) (hV : V < 18446744073709551616) (hb : b < 256) : bits .or .u64 (V : Int) (IntKind.u64.wrap ((b : Int) * 2 ^ (k % 8 * 8))) = ((V ||| b * 2 ^ (k % 8 * 8) : Nat) : Int) := by
  have h2 : b * 2 ^ (k % 8 * 8) < 18446744073709551616 := by
    have h1 : 2 ^ (k % 8 * 8) ≤ 2 ^ 56 := Nat.pow_le_pow_right (by decide) (by omega)
    have h3 : b * 2 ^ (k % 8 * 8) ≤ 255 * 2 ^ 56 := Nat.mul_le_mul (by omega) h1
    omega
  have e : IntKind.u64.wrap ((b : Int) * 2 ^ (k % 8 * 8)) = ((b * 2 ^ (k % 8 * 8) : Nat) : Int) := by
    rw [IntKind.wrap_u64]
    have e1 : (b : Int) * 2 ^ (k % 8 * 8) = ((b * 2 ^ (k % 8 * 8) : Nat) : Int) := by simp
    rw [e1]; omega
  rw [e, bits_or_u64_nat _ _ hV h2]
end Go.Proofs.Ytinigkpidhbgcaa
