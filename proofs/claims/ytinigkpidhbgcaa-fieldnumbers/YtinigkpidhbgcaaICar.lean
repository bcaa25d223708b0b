/- The reference's carry as plain arithmetic. -/
import Derived.Test.YtinigkpidhbgcaaIRow
import Derived.Test.YtinigkpidhbgcaaWords
namespace Go.Proofs.Ytinigkpidhbgcaa
open Go.RowKit
/-- The carry into limb i. -/
def cr (L : Nat → Int) : Nat → Int
  | 0 => 0
  | i + 1 => (L i + cr L i) / 65536
/-- Behind k rounds of a carry. -/
def stC (L : Nat → Int) (k : Nat) : Nat → Int := fun j => if j < k then (L j + cr L j) % 65536 else if j = k then L j + cr L j else L j
/-- Behind the whole carry. -/
def carryL (L : Nat → Int) : Nat → Int := fun j => if j = 0 then L 0 % 65536 + 38 * cr L 16 else (L j + cr L j) % 65536
/-- The number of n limbs. -/
def valR (L : Nat → Int) : Nat → Int
  | 0 => 0
  | n + 1 => valR L n + L n * 65536 ^ n
theorem valR_congr {L M : Nat → Int} : ∀ n, (∀ j, j < n → L j = M j) → valR L n = valR M n
  | 0, _ => rfl
  | n + 1, h => by rw [valR, valR, valR_congr n (fun j hj => h j (by omega)), h n (by omega)]
theorem valR_digits (L : Nat → Int) : ∀ n, valR (fun j => (L j + cr L j) % 65536) n + cr L n * 65536 ^ n = valR L n
  | 0 => by simp [valR, cr]
  | n + 1 => by
    have h := valR_digits L n
    rw [valR, valR, cr, ← h]
    have e : L n + cr L n = 65536 * ((L n + cr L n) / 65536) + (L n + cr L n) % 65536 := (Int.mul_ediv_add_emod _ _).symm
    have e2 : (L n + cr L n) * 65536 ^ n = (65536 * ((L n + cr L n) / 65536) + (L n + cr L n) % 65536) * 65536 ^ n := congrArg (· * 65536 ^ n) e
    rw [Int.add_mul, Int.add_mul] at e2
    have e3 : 65536 * ((L n + cr L n) / 65536) * 65536 ^ n = (L n + cr L n) / 65536 * 65536 ^ (n + 1) := by
      rw [Int.pow_succ, Int.mul_comm 65536, Int.mul_assoc, Int.mul_comm 65536 (65536 ^ n)]
    omega
/-- A carry keeps the number mod p. -/
theorem valR_carry (L : Nat → Int) : valR (carryL L) 16 = valR L 16 - cr L 16 * 2 * (pF : Int) := by
  have h := valR_digits L 16
  have h1 : ∀ n, valR (carryL L) (n + 1) = valR (fun j => (L j + cr L j) % 65536) (n + 1) + 38 * cr L 16 := by
    intro n
    induction n with
    | zero =>
      simp only [valR, carryL, if_true, cr]
      simp
    | succ n ih =>
      rw [valR, ih]
      conv => rhs; rw [valR]
      simp only [carryL, Nat.add_eq_zero_iff, Nat.one_ne_zero, and_false, if_false]
      omega
  have h2 : valR (carryL L) 16 = valR (fun j => (L j + cr L j) % 65536) 16 + 38 * cr L 16 := h1 15
  have e : (65536 : Int) ^ 16 = 2 * (pF : Int) + 38 := by decide
  have e2 : cr L 16 * (65536 : Int) ^ 16 = cr L 16 * 2 * (pF : Int) + 38 * cr L 16 := by rw [e, Int.mul_add, Int.mul_assoc, Int.mul_comm (cr L 16) 38]
  rw [h2, ← h, e2]
  generalize cr L 16 * 2 * (pF : Int) = Y
  omega
theorem cr_bd (L : Nat → Int) (M : Int) (hM : 2 ≤ M) (h : ∀ j, j < 16 → -M ≤ L j ∧ L j ≤ M) : ∀ i, i ≤ 16 → -M ≤ cr L i ∧ cr L i ≤ M
  | 0, _ => by simp [cr]; omega
  | i + 1, hi => by
    have h1 := cr_bd L M hM h i (by omega)
    have h2 := h i (by omega)
    rw [cr]; omega
theorem cr_bd2 (L : Nat → Int) (M : Int) (hM : 2 ≤ M) (h : ∀ j, j < 16 → -M ≤ L j ∧ L j ≤ M) (i : Nat) (hi : i ≤ 16) : -(M / 32768) - 1 ≤ cr L i ∧ cr L i ≤ M / 32768 + 1 := by
  cases i with
  | zero => simp [cr]; omega
  | succ i =>
    have h1 := cr_bd L M hM h i (by omega)
    have h2 := h i (by omega)
    rw [cr]; omega
/-- Digits but for the lowest one. -/
structure Dig (R : Int) (L : Nat → Int) : Prop where
  low : -R ≤ L 0 ∧ L 0 ≤ R
  dig : ∀ j, 0 < j → j < 16 → 0 ≤ L j ∧ L j ≤ 65535
theorem Dig.all {R : Int} {L : Nat → Int} (h : Dig R L) (hR : 65535 ≤ R) : ∀ j, j < 16 → -R ≤ L j ∧ L j ≤ R := fun j hj => by
  by_cases e : j = 0
  · rw [e]; exact h.low
  · have := h.dig j (by omega) hj; omega
theorem carry_dig (L : Nat → Int) (M : Int) (hM : 2 ≤ M) (h : ∀ j, j < 16 → -M ≤ L j ∧ L j ≤ M) : Dig (65535 + 38 * (M / 32768 + 1)) (carryL L) := by
  have h1 := cr_bd2 L M hM h 16 (Nat.le_refl _)
  refine ⟨?_, fun j h0 hj => ?_⟩
  · unfold carryL; rw [if_pos rfl]; omega
  · unfold carryL; rw [if_neg (by omega)]; omega
theorem cr_small (L : Nat → Int) (h : Dig 9007199254740992 L) : ∀ i, 4 ≤ i → i ≤ 16 → -1 ≤ cr L i ∧ cr L i ≤ 1 := by
  have c1 : -137438953472 ≤ cr L 1 ∧ cr L 1 ≤ 137438953472 := by
    have := h.low
    show _ ≤ (L 0 + 0) / 65536 ∧ (L 0 + 0) / 65536 ≤ _
    omega
  have c2 : -2097152 ≤ cr L 2 ∧ cr L 2 ≤ 2097153 := by
    have := h.dig 1 (by decide) (by decide)
    show _ ≤ (L 1 + cr L 1) / 65536 ∧ (L 1 + cr L 1) / 65536 ≤ _
    omega
  have c3 : -33 ≤ cr L 3 ∧ cr L 3 ≤ 33 := by
    have := h.dig 2 (by decide) (by decide)
    show _ ≤ (L 2 + cr L 2) / 65536 ∧ (L 2 + cr L 2) / 65536 ≤ _
    omega
  intro i h4 hi
  induction i with
  | zero => omega
  | succ i ih =>
    have hd := h.dig i (by omega) (by omega)
    rw [cr]
    by_cases e : i = 3
    · subst e; omega
    · have := ih (by omega) (by omega); omega
theorem carry_fine (L : Nat → Int) (h : Dig 9007199254740992 L) : Dig 65573 (carryL L) ∧ -38 ≤ carryL L 0 := by
  have h1 := cr_small L h 16 (by decide) (Nat.le_refl _)
  refine ⟨⟨?_, fun j h0 hj => ?_⟩, ?_⟩
  · unfold carryL; rw [if_pos rfl]; omega
  · unfold carryL; rw [if_neg (by omega)]; omega
  · unfold carryL; rw [if_pos rfl]; omega
/-- All limbs are digits. -/
def Nrm (L : Nat → Int) : Prop := ∀ j, j < 16 → 0 ≤ L j ∧ L j ≤ 65535
theorem carry_nrm (L : Nat → Int) (h : Dig 65573 L) (h0 : -38 ≤ L 0) : Nrm (carryL L) := by
  have key : ∀ i, 1 ≤ i → i ≤ 16 → (cr L i = 0 ∨ cr L i = cr L 1) := by
    intro i h1 hi
    have c1 : cr L 1 = (L 0 + 0) / 65536 := rfl
    have hl := h.low
    induction i with
    | zero => omega
    | succ i ih =>
      by_cases e : i = 0
      · subst e; exact .inr rfl
      · have hd := h.dig i (by omega) (by omega)
        rw [cr]
        rcases ih (by omega) (by omega) with e2 | e2 <;> rw [e2] <;> omega
  intro j hj
  by_cases e : j = 0
  · subst e
    unfold carryL; rw [if_pos rfl]
    have c1 : cr L 1 = (L 0 + 0) / 65536 := rfl
    have hl := h.low
    rcases key 16 (by decide) (Nat.le_refl _) with e2 | e2 <;> rw [e2] <;> omega
  · unfold carryL; rw [if_neg e]; omega
end Go.Proofs.Ytinigkpidhbgcaa
