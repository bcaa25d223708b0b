/- What Times of the reference does in the model. -/
import Derived.Test.YtinigkpidhbgcaaRefFrom
namespace Go.Proofs.Ytinigkpidhbgcaa
open Go.RowKit
/-- k limbs of row i more. -/
def tRow (L M T : Nat → Int) (i : Nat) : Nat → Nat → Int
  | 0 => T
  | k + 1 => updI (tRow L M T i k) (i + k) (tRow L M T i k (i + k) + L i * M k)
/-- The rows below i. -/
def tRows (L M : Nat → Int) : Nat → Nat → Int
  | 0 => fun _ => 0
  | i + 1 => tRow L M (tRows L M i) i 16
/-- Sums of products of limbs: the rows below i, and k limbs of row i. -/
def tP (L M : Nat → Int) (i k : Nat) : Nat → Int := tRow L M (tRows L M i) i k
theorem tP_step (L M : Nat → Int) (i k : Nat) : tP L M i (k + 1) = updI (tP L M i k) (i + k) (tP L M i k (i + k) + L i * M k) := rfl
theorem tP_next (L M : Nat → Int) (i : Nat) : tP L M (i + 1) 0 = tP L M i 16 := by
  unfold tP
  rw [show tRow L M (tRows L M (i + 1)) (i + 1) 0 = tRows L M (i + 1) from rfl, tRows]
theorem tP_zero (L M : Nat → Int) (j : Nat) : tP L M 0 0 j = 0 := rfl
theorem tP_bd (L M : Nat → Int) (hL : ∀ j, j < 16 → -131072 ≤ L j ∧ L j ≤ 131072) (hM : ∀ j, j < 16 → -131072 ≤ M j ∧ M j ≤ 131072) : ∀ i k, i < 16 → k ≤ 16 → ∀ j, -(17179869184 * ((16 * i + k : Nat) : Int)) ≤ tP L M i k j ∧ tP L M i k j ≤ 17179869184 * ((16 * i + k : Nat) : Int) := by
  have hp : ∀ a b : Int, -131072 ≤ a ∧ a ≤ 131072 → -131072 ≤ b ∧ b ≤ 131072 → -17179869184 ≤ a * b ∧ a * b ≤ 17179869184 := by
    intro a b ha hb
    have h1 : (a * b).natAbs ≤ 131072 * 131072 := by rw [Int.natAbs_mul]; exact Nat.mul_le_mul (by omega) (by omega)
    omega
  intro i
  induction i with
  | zero =>
    intro k
    induction k with
    | zero => intro _ _ j; rw [tP_zero]; omega
    | succ k ih =>
      intro h1 h2 j
      have h3 := ih h1 (by omega)
      have h4 := hp (L 0) (M k) (hL 0 (by decide)) (hM k (by omega))
      have h5 := h3 (0 + k)
      have h6 := h3 j
      rw [tP_step]
      unfold updI
      split <;> omega
  | succ i ihi =>
    intro k
    induction k with
    | zero =>
      intro h1 _ j
      have := ihi 16 (by omega) (Nat.le_refl _) j
      rw [tP_next]
      omega
    | succ k ih =>
      intro h1 h2 j
      have h3 := ih h1 (by omega)
      have h4 := hp (L (i + 1)) (M k) (hL _ (by omega)) (hM k (by omega))
      have h5 := h3 (i + 1 + k)
      have h6 := h3 j
      rw [tP_step]
      unfold updI
      split <;> omega
theorem valR_upd (L : Nat → Int) (i : Nat) (v : Int) : ∀ n, i < n → valR (updI L i v) n = valR L n + (v - L i) * 65536 ^ i
  | 0, h => absurd h (Nat.not_lt_zero _)
  | n + 1, h => by
    rw [valR, valR]
    by_cases e : i = n
    · subst e
      rw [valR_congr i (L := updI L i v) (M := L) (fun j hj => by unfold updI; rw [if_neg (by omega)])]
      have e1 : updI L i v i = v := by unfold updI; rw [if_pos rfl]
      rw [e1, Int.sub_mul]; omega
    · rw [valR_upd L i v n (by omega)]
      have e1 : updI L i v n = L n := by unfold updI; rw [if_neg (by omega)]
      rw [e1]; omega
/-- The sums of products are the product, so far. -/
theorem tP_val (L M : Nat → Int) : ∀ i k, i < 16 → k ≤ 16 → valR (tP L M i k) 31 = valR L i * valR M 16 + L i * 65536 ^ i * valR M k := by
  intro i
  induction i with
  | zero =>
    intro k
    induction k with
    | zero =>
      intro _ _
      have h0 : valR (tP L M 0 0) 31 = 0 := by kernel_rfl
      rw [h0]; simp [valR]
    | succ k ih =>
      intro h1 h2
      rw [tP_step, valR_upd _ _ _ _ (by omega), ih h1 (by omega), show ∀ a b : Int, a + b - a = b from fun a b => by omega]
      show _ = _ + L 0 * 65536 ^ 0 * (valR M k + M k * 65536 ^ k)
      rw [Int.mul_add, ← Int.add_assoc, Nat.zero_add, Int.pow_zero, Int.mul_one, Int.mul_assoc]
  | succ i ihi =>
    intro k
    induction k with
    | zero =>
      intro h1 _
      rw [tP_next, ihi 16 (by omega) (Nat.le_refl _)]
      simp only [valR, Int.mul_zero, Int.add_zero, Int.add_mul]
    | succ k ih =>
      intro h1 h2
      rw [tP_step, valR_upd _ _ _ _ (by omega), ih h1 (by omega), show ∀ a b : Int, a + b - a = b from fun a b => by omega]
      show _ = _ + L (i + 1) * 65536 ^ (i + 1) * (valR M k + M k * 65536 ^ k)
      have e : L (i + 1) * M k * 65536 ^ (i + 1 + k) = L (i + 1) * 65536 ^ (i + 1) * (M k * 65536 ^ k) := by
        rw [Int.pow_add]; ac_rfl
      rw [e, Int.mul_add, ← Int.add_assoc]
theorem tP_all (L M : Nat → Int) : valR (tP L M 15 16) 31 = valR L 16 * valR M 16 := by
  rw [tP_val L M 15 16 (by decide) (Nat.le_refl _), ← Int.add_mul]
  rfl
/-- What is above comes back 38-fold. -/
def foldT (t : Nat → Int) (k : Nat) : Nat → Int := fun j => if j < k then (if j < 15 then t j + 38 * t (j + 16) else t j) else 0
theorem valR_split (t : Nat → Int) (a : Nat) : ∀ b, valR t (a + b) = valR t a + valR (fun j => t (j + a)) b * 65536 ^ a
  | 0 => by simp [valR]
  | b + 1 => by
    rw [← Nat.add_assoc, valR, valR_split t a b, valR]
    rw [Int.add_mul, Int.add_assoc, Nat.add_comm b a]
    congr 2
    rw [Int.pow_add]; ac_rfl
theorem valR_lin (t u : Nat → Int) (c : Int) : ∀ n, valR (fun j => t j + c * u j) n = valR t n + c * valR u n
  | 0 => by simp [valR]
  | n + 1 => by
    rw [valR, valR, valR, valR_lin t u c n, Int.mul_add, Int.add_mul, Int.mul_assoc]
    omega
theorem foldT_val (t : Nat → Int) : valR (foldT t 16) 16 = valR t 31 - 2 * (pF : Int) * valR (fun j => t (j + 16)) 15 := by
  have h1 : valR (foldT t 16) 16 = valR (foldT t 16) 15 + t 15 * 65536 ^ 15 := by rw [valR]; rfl
  have h2 : valR (foldT t 16) 15 = valR (fun j => t j + 38 * t (j + 16)) 15 := valR_congr 15 (fun j hj => by unfold foldT; rw [if_pos (by omega), if_pos hj])
  have h3 := valR_lin t (fun j => t (j + 16)) 38 15
  have h4 := valR_split t 16 15
  have h5 : valR t 16 = valR t 15 + t 15 * 65536 ^ 15 := rfl
  have e : (65536 : Int) ^ 16 = 2 * (pF : Int) + 38 := by decide
  rw [e, Int.mul_add] at h4
  rw [h1, h2, h3, h4, h5]
  generalize valR (fun j => t (j + 16)) 15 = H
  rw [Int.mul_comm H, Int.mul_comm H 38]
  omega
end Go.Proofs.Ytinigkpidhbgcaa
