/- Package scalar: the order and words as plain arithmetic. -/
import Derived.Test.YtmehhjogddpkgaaDoorBts
namespace Go.Proofs.YtmehhjogddpkgaaDoor
/-- The order of the curve's points. -/
def oL : Nat := 7237005577332262213973186563042994240857116359379907606001950938285454250989
/-- Its words. -/
def Lw (j : Nat) : Nat := if j = 0 then 6346243789798364141 else if j = 1 then 1503914060200516822 else if j = 3 then 1152921504606846976 else 0
theorem Lw_lt (j : Nat) : Lw j < 18446744073709551616 := by
  unfold Lw; split
  · decide
  · split
    · decide
    · split <;> decide
/-- The number of k words from a on. -/
def pt (X : Nat → Nat) (a : Nat) : Nat → Nat
  | 0 => 0
  | k + 1 => pt X a k + X (a + k) * 18446744073709551616 ^ k
theorem pt_succ0 (X : Nat → Nat) (m : Nat) : pt X 0 (m + 1) = pt X 0 m + X m * 18446744073709551616 ^ m := by rw [pt, Nat.zero_add]
theorem pt5 (X : Nat → Nat) (a : Nat) : pt X a 5 = pt X a 4 + X (a + 4) * 18446744073709551616 ^ 4 := rfl
theorem pt_L : pt Lw 0 4 = oL := by kernel_rfl
theorem pt_congr {X Y : Nat → Nat} {a : Nat} : ∀ k, (∀ j, j < k → X (a + j) = Y (a + j)) → pt X a k = pt Y a k
  | 0, _ => rfl
  | k + 1, h => by rw [pt, pt, pt_congr k (fun j hj => h j (by omega)), h k (by omega)]
theorem pt_lt {X : Nat → Nat} (h : ∀ j, X j < 18446744073709551616) (a : Nat) : ∀ k, pt X a k < 18446744073709551616 ^ k
  | 0 => Nat.one_pos
  | k + 1 => by
    have h1 := pt_lt h a k
    have h2 : X (a + k) * 18446744073709551616 ^ k ≤ 18446744073709551615 * 18446744073709551616 ^ k := Nat.mul_le_mul_right _ (by have := h (a + k); omega)
    rw [pt, Nat.pow_succ]
    omega
theorem pt_split (X : Nat → Nat) (a m : Nat) : ∀ k, pt X a (m + k) = pt X a m + 18446744073709551616 ^ m * pt X (a + m) k
  | 0 => by rw [pt, Nat.mul_zero, Nat.add_zero, Nat.add_zero]
  | k + 1 => by
    rw [← Nat.add_assoc, pt, pt_split X a m k, pt, Nat.mul_add, Nat.pow_add, ← Nat.add_assoc, ← Nat.add_assoc]
    congr 1
    rw [← Nat.mul_assoc, ← Nat.mul_assoc, Nat.mul_comm (X (a + m + k))]
theorem pt_head (X : Nat → Nat) (a k : Nat) : pt X a (k + 1) = X a + 18446744073709551616 * pt X (a + 1) k := by
  rw [Nat.add_comm k 1, pt_split X a 1 k, pt, pt]
  simp
theorem pt_zero {X : Nat → Nat} {a : Nat} : ∀ k, (∀ j, j < k → X (a + j) = 0) → pt X a k = 0
  | 0, _ => rfl
  | k + 1, h => by rw [pt, pt_zero k (fun j hj => h j (by omega)), h k (by omega), Nat.zero_mul]
/-- The words of a number. -/
theorem pt_lw (N : Nat) : ∀ k, pt (lw N) 0 k = N % 18446744073709551616 ^ k
  | 0 => by rw [pt, Nat.pow_zero, Nat.mod_one]
  | k + 1 => by
    rw [pt, pt_lw N k, Nat.pow_succ, Nat.mod_mul, Nat.zero_add]
    unfold lw
    rw [Nat.mul_comm]
theorem lw_pt {X : Nat → Nat} (h : ∀ j, X j < 18446744073709551616) : ∀ k j, j < k → lw (pt X 0 k) j = X j
  | 0, _, hj => absurd hj (Nat.not_lt_zero _)
  | k + 1, j, hj => by
    rw [pt, Nat.zero_add]
    unfold lw
    by_cases e : j = k
    · subst e
      rw [Nat.mul_comm, Nat.add_mul_div_left _ _ (Nat.pow_pos (by decide)), Nat.div_eq_of_lt (pt_lt h 0 j), Nat.zero_add, Nat.mod_eq_of_lt (h j)]
    · have hj2 : j < k := by omega
      have e2 : k = j + (1 + (k - j - 1)) := by omega
      have : 18446744073709551616 ^ k = 18446744073709551616 ^ j * (18446744073709551616 * 18446744073709551616 ^ (k - j - 1)) := by
        conv => lhs; rw [e2]
        rw [Nat.pow_add, Nat.pow_add, Nat.pow_one]
      rw [Nat.mul_comm (X k), this, Nat.mul_assoc, Nat.add_mul_div_left _ _ (Nat.pow_pos (by decide)), Nat.mul_assoc, Nat.add_mul_mod_self_left]
      exact lw_pt h k j hj2
/-- One word of a product less. -/
theorem take_step {P pz pl px q l0 h0 c b u s k1 b' x Lk : Nat} (inv : pz + q * pl = px + P * (c + b)) (e0 : l0 + 18446744073709551616 * h0 = q * Lk) (e1 : s + 18446744073709551616 * k1 = l0 + c) (e2 : u + s + b = x + 18446744073709551616 * b') :
    (pz + u * P) + q * (pl + Lk * P) = (px + x * P) + P * 18446744073709551616 * ((h0 + k1) + b') := by
  have key : (u + (l0 + 18446744073709551616 * h0) + (c + b)) * P = (x + 18446744073709551616 * ((h0 + k1) + b')) * P := by congr 1; omega
  rw [Nat.mul_add q, ← Nat.mul_assoc q Lk P, ← e0]
  rw [Nat.add_mul, Nat.add_mul, Nat.add_mul x] at key
  rw [Nat.mul_comm P (c + b)] at inv
  rw [Nat.mul_assoc P, Nat.mul_comm P (18446744073709551616 * (h0 + k1 + b'))]
  omega
/-- One word of a product more. -/
theorem add_step {P V px x y pb Pi Pj h0 l0 l1 k1 l2 k2 c xm : Nat} (hP : P = Pi * Pj) (inv : px + c * P = V + x * pb * Pi) (e0 : l0 + 18446744073709551616 * h0 = x * y) (e1 : l1 + 18446744073709551616 * k1 = l0 + xm) (e2 : l2 + 18446744073709551616 * k2 = l1 + c) {px' : Nat} (hpx : px' + xm * P = px + l2 * P) :
    px' + (h0 + k1 + k2) * (P * 18446744073709551616) = V + x * (pb + y * Pj) * Pi := by
  have key : (l2 + 18446744073709551616 * (h0 + k1 + k2)) * P = ((l0 + 18446744073709551616 * h0) + xm + c) * P := by congr 1; omega
  rw [e0, Nat.add_mul, Nat.add_mul, Nat.add_mul] at key
  have e3 : x * (pb + y * Pj) * Pi = x * pb * Pi + x * y * P := by
    rw [Nat.mul_add, Nat.add_mul, hP, ← Nat.mul_assoc x y Pj, Nat.mul_assoc (x * y), Nat.mul_comm Pj Pi]
  have e4 : (h0 + k1 + k2) * (P * 18446744073709551616) = 18446744073709551616 * (h0 + k1 + k2) * P := by
    rw [Nat.mul_comm P, ← Nat.mul_assoc, Nat.mul_comm (h0 + k1 + k2)]
  rw [e3, e4]
  omega
theorem pt_upd (X : Nat → Nat) (i v a : Nat) : ∀ k, i < k → pt (upd X (a + i) v) a k + X (a + i) * 18446744073709551616 ^ i = pt X a k + v * 18446744073709551616 ^ i
  | 0, h => absurd h (Nat.not_lt_zero _)
  | k + 1, h => by
    rw [pt, pt]
    by_cases e : i = k
    · subst e
      have h1 : pt (upd X (a + i) v) a i = pt X a i := pt_congr i (fun j hj => by unfold upd; rw [if_neg (by omega)])
      have h2 : upd X (a + i) v (a + i) = v := by unfold upd; rw [if_pos rfl]
      rw [h1, h2]
      omega
    · have h1 := pt_upd X i v a k (by omega)
      have h2 : upd X (a + i) v (a + k) = X (a + k) := by unfold upd; rw [if_neg (by omega)]
      rw [h2]
      omega
end Go.Proofs.YtmehhjogddpkgaaDoor
