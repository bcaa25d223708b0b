/- The reference's Small of any number stands for it mod p. -/
import Derived.Test.YtinigkpidhbgcaaRefSmall
import Derived.Test.YtinigkpidhbgcaaRefPow
namespace Go.Proofs.Ytinigkpidhbgcaa
open Go.RowKit
theorem sm_cr (x : Int) (h1 : -9223372036854775808 ≤ x) (h2 : x ≤ 9223372036854775807) : ∀ i, i ≤ 16 → (i < 4 → cr (smL x) i = 0) ∧ (4 ≤ i → -1 ≤ cr (smL x) i ∧ cr (smL x) i ≤ 0) := by
  have e3 : -32768 ≤ smL x 3 ∧ smL x 3 ≤ 32767 := by
    have : smL x 3 = x / 281474976710656 := rfl
    rw [this]; omega
  have el : ∀ j, j < 3 → 0 ≤ smL x j ∧ smL x j ≤ 65535 := fun j hj => by unfold smL; rw [if_pos hj]; omega
  have eh : ∀ j, 4 ≤ j → smL x j = 0 := fun j h => by unfold smL; rw [if_neg (by omega), if_neg (by omega)]
  intro i
  induction i with
  | zero => intro _; exact ⟨fun _ => rfl, fun h => by omega⟩
  | succ i ih =>
    intro hi
    have h := ih (by omega)
    rw [cr]
    refine ⟨fun h4 => ?_, fun h4 => ?_⟩
    · rw [h.1 (by omega)]
      have := el i (by omega)
      omega
    · by_cases e : i = 3
      · subst e; rw [h.1 (by decide)]; omega
      · have hi4 := h.2 (by omega)
        rw [eh i (by omega)]; omega
theorem rep_int (x : Int) (h1 : -9223372036854775808 ≤ x) (h2 : x ≤ 9223372036854775807) (N : Nat) (hN : x % (pF : Int) = ((N % pF : Nat) : Int)) : Rep (carryL (smL x)) N := by
  refine ⟨⟨?_, fun j h0 hj => ?_⟩, ?_⟩
  · have := (sm_cr x h1 h2 16 (Nat.le_refl _)).2 (by decide)
    unfold carryL; rw [if_pos rfl]; omega
  · unfold carryL; rw [if_neg (by omega)]; omega
  · rw [valR_carry, smL_val, show ∀ a b P : Int, a - b * 2 * P = a + P * (-(b * 2)) from fun a b P => by rw [Int.mul_neg, Int.mul_comm P]; omega, Int.add_mul_emod_self_left, hN]
end Go.Proofs.Ytinigkpidhbgcaa
