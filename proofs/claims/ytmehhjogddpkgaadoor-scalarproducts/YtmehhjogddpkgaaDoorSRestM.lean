/- Package scalar: a step of the long division as plain arithmetic. -/
import Derived.Test.YtmehhjogddpkgaaDoorSGuess
namespace Go.Proofs.YtmehhjogddpkgaaDoor
theorem pt5' (X : Nat → Nat) (a : Nat) : pt X a 5 = pt X a 3 + X (a + 3) * 6277101735386680763835789423207666416102355444464034512896 + X (a + 4) * 115792089237316195423570985008687907853269984665640564039457584007913129639936 := rfl
/-- The guess is the quotient, or one less. -/
theorem guess_good (X : Nat → Nat) (a : Nat) (hX : ∀ j, X j < 18446744073709551616) (hV : pt X a 5 < 18446744073709551616 * oL) :
    X (a + 4) ≤ 1152921504606846976 ∧ X (a + 4) * 16 + X (a + 3) / 1152921504606846976 ≤ 18446744073709551616 ∧ guessN X a < 18446744073709551616 ∧ guessN X a * oL ≤ pt X a 5 ∧ pt X a 5 < guessN X a * oL + 2 * oL := by
  have h3 := pt_lt hX a 3
  have hx3 := hX (a + 3)
  have hx4 := hX (a + 4)
  rw [pt5'] at hV ⊢
  unfold guessN oL at *
  simp only [Nat.reducePow] at h3
  generalize pt X a 3 = P at *
  generalize X (a + 3) = U at *
  generalize X (a + 4) = T at *
  clear hX
  refine ⟨?_, ?_, ?_, ?_, ?_⟩ <;> omega
theorem pt_take {X Y : Nat → Nat} {a q : Nat} (ha : a ≤ 4) (hout : ∀ j, (j < a ∨ a + 5 ≤ j) → Y j = X j) (h : pt Y a 5 + q * oL = pt X a 5) : pt Y 0 9 % oL = pt X 0 9 % oL := by
  have key : ∀ Z, pt Z 0 9 = pt Z 0 a + 18446744073709551616 ^ a * (pt Z a 5 + 18446744073709551616 ^ 5 * pt Z (a + 5) (4 - a)) := fun Z => by
    have h1 := pt_split Z 0 a (5 + (4 - a))
    rw [show a + (5 + (4 - a)) = 9 by omega, Nat.zero_add, pt_split Z a 5 (4 - a)] at h1
    exact h1
  have e1 : pt Y 0 a = pt X 0 a := pt_congr a (fun j hj => hout _ (by omega))
  have e2 : pt Y (a + 5) (4 - a) = pt X (a + 5) (4 - a) := pt_congr _ (fun j hj => hout _ (by omega))
  rw [key Y, key X, e1, e2, ← h]
  have e3 : pt X 0 a + 18446744073709551616 ^ a * (pt Y a 5 + q * oL + 18446744073709551616 ^ 5 * pt X (a + 5) (4 - a)) = (pt X 0 a + 18446744073709551616 ^ a * (pt Y a 5 + 18446744073709551616 ^ 5 * pt X (a + 5) (4 - a))) + oL * (18446744073709551616 ^ a * q) := by
    rw [Nat.mul_add, Nat.mul_add, Nat.mul_add, Nat.mul_comm q oL, ← Nat.mul_assoc, ← Nat.mul_assoc oL, Nat.mul_comm oL, Nat.mul_assoc (18446744073709551616 ^ a) oL q]
    omega
  rw [e3, Nat.add_mul_mod_self_left]
/-- Two numbers of four words: by their words from the highest on. -/
theorem pt_le {X : Nat → Nat} {a : Nat} (hX : ∀ j, X j < 18446744073709551616) {m : Nat} (hm : m < 4) (heq : ∀ k, m < k → k < 4 → X (a + k) = Lw k) : (X (a + m) < Lw m → pt X a 4 < oL) ∧ (Lw m < X (a + m) → oL ≤ pt X a 4) := by
  have e : ∀ Z : Nat → Nat, pt Z a 4 = pt Z a m + Z (a + m) * 18446744073709551616 ^ m + 18446744073709551616 ^ (m + 1) * pt Z (a + (m + 1)) (3 - m) := fun Z => by
    have h1 := pt_split Z a (m + 1) (3 - m)
    rw [show m + 1 + (3 - m) = 4 by omega, pt] at h1
    exact h1
  have e' : oL = pt Lw 0 m + Lw m * 18446744073709551616 ^ m + 18446744073709551616 ^ (m + 1) * pt Lw (m + 1) (3 - m) := by
    have h1 := pt_split Lw 0 (m + 1) (3 - m)
    rw [show m + 1 + (3 - m) = 4 by omega, pt_L, pt, Nat.zero_add, Nat.zero_add] at h1
    exact h1
  have e2 : ∀ n, n ≤ 3 - m → pt X (a + (m + 1)) n = pt Lw (m + 1) n := fun n => by
    induction n with
    | zero => intro _; rfl
    | succ n ih =>
      intro hn
      rw [pt, pt, ih (by omega)]
      have := heq (m + 1 + n) (by omega) (by omega)
      rw [show a + (m + 1) + n = a + (m + 1 + n) by omega, this]
  have l1 := pt_lt hX a m
  have l2 := pt_lt Lw_lt 0 m
  rw [e X, e', e2 _ (Nat.le_refl _)]
  generalize 18446744073709551616 ^ (m + 1) * pt Lw (m + 1) (3 - m) = H
  generalize 18446744073709551616 ^ m = P at *
  constructor
  · intro h
    have := Nat.mul_le_mul_right P (show X (a + m) + 1 ≤ Lw m by omega)
    rw [Nat.add_mul, Nat.one_mul] at this
    omega
  · intro h
    have := Nat.mul_le_mul_right P (show Lw m + 1 ≤ X (a + m) by omega)
    rw [Nat.add_mul, Nat.one_mul] at this
    omega
theorem pt_eq {X : Nat → Nat} {a : Nat} (heq : ∀ k, k < 4 → X (a + k) = Lw k) : pt X a 4 = oL := by
  rw [← pt_L]
  have : ∀ n, n ≤ 4 → pt X a n = pt Lw 0 n := fun n => by
    induction n with
    | zero => intro _; rfl
    | succ n ih => intro hn; rw [pt, pt, ih (by omega), heq n (by omega), Nat.zero_add]
  exact this 4 (Nat.le_refl _)
theorem top_zero {X : Nat → Nat} {a : Nat} (h : pt X a 5 < 2 * oL) : X (a + 4) = 0 ∧ pt X a 4 = pt X a 5 := by
  rw [pt5] at *
  unfold oL at h
  simp only [Nat.reducePow] at *
  omega
theorem low_lt {X : Nat → Nat} {a : Nat} (hX : ∀ j, X j < 18446744073709551616) (h : pt X (a + 1) 4 < oL) : pt X a 5 < 18446744073709551616 * oL := by
  rw [pt_head]
  have := hX a
  unfold oL at *
  omega
theorem pt_tail {X : Nat → Nat} (m : Nat) : ∀ k, (∀ j, m ≤ j → j < m + k → X j = 0) → pt X 0 (m + k) = pt X 0 m
  | 0, _ => rfl
  | k + 1, h => by rw [← Nat.add_assoc, pt, pt_tail m k (fun j h1 h2 => h j h1 (by omega)), Nat.zero_add, h (m + k) (by omega) (by omega), Nat.zero_mul, Nat.add_zero]
theorem pt_tail9 {X : Nat → Nat} (h : ∀ j, 4 ≤ j → j < 9 → X j = 0) : pt X 0 9 = pt X 0 4 := pt_tail 4 5 h
theorem pt_fin {X : Nat → Nat} {N : Nat} (h : ∀ j, 4 ≤ j → j < 9 → X j = 0) (hl : pt X 0 4 < oL) (hm : pt X 0 9 % oL = N) : N = pt X 0 9 := by
  have e := pt_tail9 h
  rw [e] at hm ⊢
  rw [← hm]
  exact Nat.mod_eq_of_lt hl
end Go.Proofs.YtmehhjogddpkgaaDoor
