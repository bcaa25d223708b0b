/- Sums, differences and inverses of the reference's numbers in a class of limbs that holds all of them; small numbers of whatever sign. -/
import Derived.Test.YtinigkpidhbgcaaRNum
namespace Go.Proofs.Ytinigkpidhbgcaa
open Go.RowKit
theorem rw_plus {L M : Nat → Int} {x y : Nat} (hL : Rw L x) (hM : Rep M y) : Rw (plusL L M) (fadd x y) := by
  have hb : ∀ j, j < 16 → -131298 ≤ L j + M j ∧ L j + M j ≤ 131298 := fun j hj => by
    have h1 := hL.dig.all (by decide) j hj
    have h2 := hM.dig.all (by decide) j hj
    omega
  refine ⟨(carry_dig _ 131298 (by decide) hb).mono (by decide), ?_⟩
  have e : valR (fun j => L j + M j) 16 = valR L 16 + valR M 16 := by
    have := valR_lin L M 1 16
    simp only [Int.one_mul] at this
    exact this
  unfold plusL fadd
  rw [valR_carry, e, show ∀ a b P : Int, a - b * 2 * P = a + P * (-(b * 2)) from fun a b P => by rw [Int.mul_neg, Int.mul_comm P]; omega, Int.add_mul_emod_self_left, Int.add_emod, hL.val, hM.val, ← Int.natCast_add, nat_mod, ← Nat.add_mod, Nat.mod_mod]
theorem rw_minus {L M : Nat → Int} {x y : Nat} (hL : Rw L x) (hM : Rep M y) (hy : y < pF) : Rw (minusL L M) (fsub x y) := by
  have hb : ∀ j, j < 16 → -131298 ≤ L j - M j ∧ L j - M j ≤ 131298 := fun j hj => by
    have h1 := hL.dig.all (by decide) j hj
    have h2 := hM.dig.all (by decide) j hj
    omega
  refine ⟨(carry_dig _ 131298 (by decide) hb).mono (by decide), ?_⟩
  have e : valR (fun j => L j - M j) 16 = valR L 16 - valR M 16 := by
    have := valR_lin L M (-1) 16
    simp only [Int.neg_mul, Int.one_mul, ← Int.sub_eq_add_neg] at this
    exact this
  unfold minusL fsub
  rw [valR_carry, e, show ∀ a b P : Int, a - b * 2 * P = a + P * (-(b * 2)) from fun a b P => by rw [Int.mul_neg, Int.mul_comm P]; omega, Int.add_mul_emod_self_left, Int.sub_emod, hL.val, hM.val, ← nat_mod, ← nat_mod, ← Int.sub_emod, Nat.mod_mod, ← nat_mod, show ((x + pF - y : Nat) : Int) = ((x : Int) - (y : Int)) + (pF : Int) * 1 by omega, Int.add_mul_emod_self_left]
theorem pow_finv (a e : Nat) (h : pF - 2 = e) : a ^ e % pF = finv a % pF := by unfold finv; rw [h, Nat.mod_mod]
theorem rinverse_wide (A : Nat → Int) (a : Nat) (hA : Rw A a) (w : World) : Calls Try.prog 42 #[rV A] w fun e w' => ∃ R, e = .returned (rV R) ∧ Rw R (finv a) ∧ Below w.heap.size w w' := by
  obtain ⟨E, hE⟩ : ∃ E : Nat, 57896044618658097711785492504343953926634992332820282019728792003956564819947 = E := ⟨_, rfl⟩
  have h := rinverse_gen A a hA.bd (fun M m h => (rw_times h.wide hA).cast (by unfold fmul; rw [Nat.mod_mod])) w
  rw [hE] at h
  exact h.mono fun _ _ ⟨R, he, hR, hb⟩ => ⟨R, he, (hR.cast (pow_finv a E (by rw [← hE]; decide))).wide, hb⟩
theorem Rep.far {L : Nat → Int} {x : Nat} (h : Rep L x) : ∀ j, j < 16 → -1073741824 ≤ L j ∧ L j ≤ 1073741824 := fun j hj => by have := h.bd j hj; omega
theorem Rw.far {L : Nat → Int} {x : Nat} (h : Rw L x) : ∀ j, j < 16 → -1073741824 ≤ L j ∧ L j ≤ 1073741824 := fun j hj => by have := h.bd j hj; omega
/-- What number a small one of whatever sign is. -/
def zN (z : Int) : Nat := (z % (pF : Int)).toNat
theorem zN_val (z : Int) : z % (pF : Int) = ((zN z : Nat) : Int) := by
  unfold zN
  rw [Int.toNat_of_nonneg (Int.emod_nonneg _ (by decide))]
theorem zN_lt (z : Int) : zN z < pF := by
  have h := zN_val z
  have h2 := Int.emod_lt_of_pos z (show (0 : Int) < (pF : Int) by decide)
  omega
theorem fsmall_int (z : Int) (h1 : -9223372036854775808 ≤ z) (h2 : z ≤ 9223372036854775807) (w : World) : Calls Try.prog 33 #[.int .i64 z] w fun e w' => e = .returned (numV (zN z)) ∧ Below w.heap.size w w' := by
  have hv := zN_val z
  by_cases h : 0 ≤ z
  · obtain ⟨n, rfl⟩ : ∃ n : Nat, z = (n : Int) := ⟨z.toNat, by omega⟩
    have e : zN n = n := by
      rw [Int.emod_eq_of_lt (by omega) (by unfold pF; omega)] at hv
      omega
    rw [e]
    exact fsmall_pos n (by omega) w
  · obtain ⟨m, rfl⟩ : ∃ m : Nat, z = -(m : Int) := ⟨(-z).toNat, by omega⟩
    have e : zN (-(m : Int)) = (0 + pF - m) % pF := by
      rw [Nat.zero_add, Nat.mod_eq_of_lt (by unfold pF; omega)]
      rw [show -(m : Int) = ((pF : Int) - m) + (pF : Int) * (-1) by omega, Int.add_mul_emod_self_left, Int.emod_eq_of_lt (by unfold pF; omega) (by omega)] at hv
      rw [show -(m : Int) = ((pF : Int) - m) + (pF : Int) * (-1) by omega]
      omega
    rw [e]
    exact fsmall_neg m (by omega) (by omega) w
theorem rsmall_int (z : Int) (h1 : -9223372036854775808 ≤ z) (h2 : z ≤ 9223372036854775807) (w : World) : Calls Try.prog 34 #[.int .i64 z] w fun e w' => ∃ R, e = .returned (rV R) ∧ Rep R (zN z) ∧ Below w.heap.size w w' :=
  (rsmall_any z h1 h2 w).mono fun _ _ ⟨he, hb⟩ => ⟨_, he, rep_int z h1 h2 (zN z) (by rw [zN_val, Nat.mod_eq_of_lt (zN_lt z)]), hb⟩
end Go.Proofs.Ytinigkpidhbgcaa
