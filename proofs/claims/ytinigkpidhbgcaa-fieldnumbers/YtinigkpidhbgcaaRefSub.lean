/- The reference's last steps as plain arithmetic: p is taken away where that can be. -/
import Derived.Test.YtinigkpidhbgcaaRefFrom
namespace Go.Proofs.Ytinigkpidhbgcaa
open Go.RowKit
/-- The limbs of p. -/
def pl (i : Nat) : Int := if i = 0 then 65517 else if i = 15 then 32767 else 65535
/-- The borrow from limb i. -/
def bw (X : Nat → Int) : Nat → Int
  | 0 => 0
  | i + 1 => if X i - pl i - bw X i < 0 then 1 else 0
theorem bw_bd (X : Nat → Int) : ∀ i, 0 ≤ bw X i ∧ bw X i ≤ 1
  | 0 => ⟨Int.le_refl _, (by decide : (0 : Int) ≤ 1)⟩
  | i + 1 => by rw [bw]; split <;> decide
/-- A limb less that of p and the borrow. -/
def rS (X : Nat → Int) (i : Nat) : Int := X i - pl i - bw X i
theorem pl_bd (i : Nat) : 0 ≤ pl i ∧ pl i ≤ 65535 := by unfold pl; split <;> (try split) <;> decide
theorem rS_bd {X : Nat → Int} (h : Nrm X) {i : Nat} (hi : i < 16) : -65536 ≤ rS X i ∧ rS X i ≤ 65535 := by
  have h1 := h i hi
  have h2 := pl_bd i
  have h3 := bw_bd X i
  unfold rS; omega
/-- Ahead of round i. -/
def stS (X : Nat → Int) (i : Nat) : Nat → Int := fun j => if j + 1 < i then rS X j + 65536 * bw X (j + 1) else if j + 1 = i then rS X j else X j
theorem dig_bd {X : Nat → Int} (h : Nrm X) {j : Nat} (hj : j < 16) : 0 ≤ rS X j + 65536 * bw X (j + 1) ∧ rS X j + 65536 * bw X (j + 1) ≤ 65535 := by
  have h1 := rS_bd h hj
  rw [bw]
  show 0 ≤ rS X j + 65536 * (if rS X j < 0 then 1 else 0) ∧ rS X j + 65536 * (if rS X j < 0 then 1 else 0) ≤ 65535
  split <;> omega
theorem val_stS (X : Nat → Int) : ∀ n, valR (fun j => rS X j + 65536 * bw X (j + 1)) n = valR X n - valR pl n + bw X n * 65536 ^ n
  | 0 => by simp [valR, bw]
  | n + 1 => by
    rw [valR, val_stS X n, valR, valR]
    have e : (rS X n + 65536 * bw X (n + 1)) * 65536 ^ n = X n * 65536 ^ n - pl n * 65536 ^ n - bw X n * 65536 ^ n + bw X (n + 1) * 65536 ^ (n + 1) := by
      unfold rS
      rw [Int.add_mul, Int.sub_mul, Int.sub_mul, Int.pow_succ, Int.mul_comm 65536, Int.mul_assoc, Int.mul_comm 65536]
    omega
theorem val_pl : valR pl 16 = (pF : Int) := by decide
theorem val_sub (X : Nat → Int) : valR (stS X 16) 16 = valR X 16 - (pF : Int) := by
  have h1 : valR (stS X 16) 16 = valR (stS X 16) 15 + rS X 15 * 65536 ^ 15 := rfl
  have h2 : valR (stS X 16) 15 = valR (fun j => rS X j + 65536 * bw X (j + 1)) 15 := valR_congr 15 (fun j hj => by unfold stS; rw [if_pos (by omega)])
  have h3 := val_stS X 15
  have h4 : valR X 16 = valR X 15 + X 15 * 65536 ^ 15 := rfl
  have h5 : valR pl 16 = valR pl 15 + pl 15 * 65536 ^ 15 := rfl
  have e : rS X 15 * 65536 ^ 15 = X 15 * 65536 ^ 15 - pl 15 * 65536 ^ 15 - bw X 15 * 65536 ^ 15 := by unfold rS; rw [Int.sub_mul, Int.sub_mul]
  rw [← val_pl]
  omega
theorem val_nrm {X : Nat → Int} : ∀ n, (∀ j, j < n → 0 ≤ X j ∧ X j ≤ 65535) → 0 ≤ valR X n ∧ valR X n < 65536 ^ n
  | 0, _ => by simp [valR]
  | n + 1, h => by
    have h1 := val_nrm n (fun j hj => h j (by omega))
    have h2 := h n (by omega)
    rw [valR, Int.pow_succ]
    have hp : (0 : Int) < 65536 ^ n := Int.pow_pos (by decide)
    have h3 : 0 ≤ X n * 65536 ^ n := Int.mul_nonneg h2.1 (Int.le_of_lt hp)
    have h4 : X n * 65536 ^ n ≤ 65535 * 65536 ^ n := Int.mul_le_mul_of_nonneg_right h2.2 (Int.le_of_lt hp)
    omega
/-- p taken away, if that can be. -/
def subL (X : Nat → Int) : Nat → Int := if 0 ≤ rS X 15 then stS X 16 else X
theorem sub_nrm {X : Nat → Int} (h : Nrm X) : Nrm (subL X) := by
  unfold subL
  split
  · intro j hj
    unfold stS
    by_cases e : j + 1 < 16
    · rw [if_pos e]; exact dig_bd h hj
    · have hj15 : j = 15 := by omega
      subst hj15
      rw [if_neg (by decide), if_pos rfl]
      have := rS_bd h (i := 15) (by decide)
      omega
  · exact h
theorem sub_val {X : Nat → Int} (h : Nrm X) : valR (subL X) 16 = if (pF : Int) ≤ valR X 16 then valR X 16 - pF else valR X 16 := by
  have hv := val_sub X
  have h1 : valR (stS X 16) 16 = valR (stS X 16) 15 + rS X 15 * 65536 ^ 15 := rfl
  have h2 := val_nrm (X := stS X 16) 15 (fun j hj => by unfold stS; rw [if_pos (by omega)]; exact dig_bd h (by omega))
  have hp : (0 : Int) < 65536 ^ 15 := by decide
  unfold subL
  by_cases hr : 0 ≤ rS X 15
  · have h3 : 0 ≤ rS X 15 * 65536 ^ 15 := Int.mul_nonneg hr (Int.le_of_lt hp)
    rw [if_pos hr, if_pos (by omega), hv]
  · have h3 : rS X 15 * 65536 ^ 15 ≤ -1 * 65536 ^ 15 := Int.mul_le_mul_of_nonneg_right (by omega) (Int.le_of_lt hp)
    rw [if_neg hr, if_neg (by omega)]
/-- Canonical limbs of any. -/
def canL (L : Nat → Int) : Nat → Int := subL (subL (carryL (carryL (carryL L))))
theorem canL_nrm (L : Nat → Int) (h : Dig 9007199254740992 L) : Nrm (carryL (carryL (carryL L))) ∧ Nrm (canL L) ∧ valR (canL L) 16 = valR L 16 % (pF : Int) := by
  obtain ⟨h1, h2⟩ := carry_fine L h
  have h3 := carry_nrm _ h1 h2
  have h4 : Nrm (carryL (carryL (carryL L))) := carry_nrm _ ⟨⟨by have := h3 0 (by decide); omega, by have := h3 0 (by decide); omega⟩, fun j _ hj => h3 j hj⟩ (by have := h3 0 (by decide); omega)
  have v1 := valR_carry L
  have v2 := valR_carry (carryL L)
  have v3 := valR_carry (carryL (carryL L))
  obtain ⟨b1, b2⟩ := val_nrm 16 h4
  have s1 := sub_nrm h4
  have s2 := sub_nrm s1
  have e1 := sub_val h4
  have e2 := sub_val s1
  have hmod : valR L 16 % (pF : Int) = valR (carryL (carryL (carryL L))) 16 % (pF : Int) := by
    rw [v3, v2, v1]
    rw [show ∀ a b c d P : Int, a - b * 2 * P - c * 2 * P - d * 2 * P = a + P * (-(b * 2) - c * 2 - d * 2) from fun a b c d P => by
      rw [Int.mul_sub, Int.mul_sub, Int.mul_neg, Int.mul_comm P, Int.mul_comm P, Int.mul_comm P]; omega, Int.add_mul_emod_self_left]
  refine ⟨h4, s2, ?_⟩
  rw [hmod]
  unfold canL
  rw [e2, e1]
  generalize valR (carryL (carryL (carryL L))) 16 = V at *
  clear e1 e2 v1 v2 v3 hmod
  have hB : (65536 : Int) ^ 16 = 115792089237316195423570985008687907853269984665640564039457584007913129639936 := by decide
  rw [hB] at b2
  have hP : (pF : Int) = 57896044618658097711785492504343953926634992332820282019728792003956564819949 := rfl
  rw [hP]
  by_cases c1 : (57896044618658097711785492504343953926634992332820282019728792003956564819949 : Int) ≤ V
  · rw [if_pos c1]
    by_cases c2 : (57896044618658097711785492504343953926634992332820282019728792003956564819949 : Int) ≤ V - 57896044618658097711785492504343953926634992332820282019728792003956564819949
    · rw [if_pos c2]; omega
    · rw [if_neg c2]; omega
  · rw [if_neg c1, if_neg c1]; omega
/-- The bytes of canonical limbs. -/
def bytL (X : Nat → Int) (j : Nat) : Nat := if j % 2 = 0 then (X (j / 2) % 256).toNat else (X (j / 2) / 256).toNat
theorem bytL_lt {X : Nat → Int} (h : Nrm X) (j : Nat) (hj : j < 32) : bytL X j < 256 := by
  have := h (j / 2) (by omega)
  unfold bytL
  split <;> omega
theorem fromL_bytL {X : Nat → Int} (h : Nrm X) (j : Nat) (hj : j < 16) : fromL (bytL X) j = X j := by
  have := h j hj
  unfold fromL bytL
  rw [show 2 * j % 2 = 0 by omega, show 2 * j / 2 = j by omega, show (2 * j + 1) % 2 = 1 by omega, show (2 * j + 1) / 2 = j by omega, if_pos rfl, if_neg (by decide)]
  omega
end Go.Proofs.Ytinigkpidhbgcaa
