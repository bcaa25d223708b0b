/- What Fermat gives for numbers mod p: inverses; products that are 0. -/
import Derived.Test.YtinigkpidhbgcaaDoorPrime
namespace Go.Proofs.YtinigkpidhbgcaaDoor
theorem not_dvd {x : Nat} (h0 : x ≠ 0) (hx : x < pF) : ¬pF ∣ x := fun h => by have := Nat.le_of_dvd (Nat.pos_of_ne_zero h0) h; omega
theorem pF_one : 1 % pF = 1 := by decide
/-- A number times what undoes it is 1. -/
theorem inv_mul {x : Nat} (h0 : x ≠ 0) (hx : x < pF) : x * (x ^ (pF - 2) % pF) % pF = 1 := by
  have h := prime_p.fermat1 (not_dvd h0 hx)
  have e : pF - 1 = (pF - 2).succ := by decide
  rw [Nat.mul_mod, Nat.mod_mod, ← Nat.mul_mod, Nat.mul_comm, ← Nat.pow_succ, ← e, h, pF_one]
theorem zero_inv : 0 ^ (pF - 2) % pF = 0 := by
  have e : 0 < pF - 2 := by decide
  rw [Nat.zero_pow e, Nat.zero_mod]
/-- What undoes twice is the number itself. -/
theorem inv_inv {x : Nat} (hx : x < pF) : (x ^ (pF - 2) % pF) ^ (pF - 2) % pF = x := by
  by_cases h0 : x = 0
  · rw [h0, zero_inv, zero_inv]
  · have h1 := inv_mul h0 hx
    generalize hi : x ^ (pF - 2) % pF = i at h1 ⊢
    have hil : i < pF := by rw [← hi]; exact Nat.mod_lt _ (by decide)
    have hi0 : i ≠ 0 := fun e => by rw [e, Nat.mul_zero, Nat.zero_mod] at h1; omega
    have h2 := inv_mul hi0 hil
    have hjl : i ^ (pF - 2) % pF < pF := Nat.mod_lt _ (by decide)
    generalize i ^ (pF - 2) % pF = j at h2 hjl ⊢
    have e1 : x * i * j % pF = j := by rw [Nat.mul_mod, h1, Nat.one_mul, Nat.mod_mod, Nat.mod_eq_of_lt hjl]
    have e2 : x * i * j % pF = x := by rw [Nat.mul_assoc, Nat.mul_mod, h2, Nat.mul_one, Nat.mod_mod, Nat.mod_eq_of_lt hx]
    rw [← e1, e2]
/-- A product is 0 just if one of both is. -/
theorem mul_zero_iff {x y : Nat} (hx : x < pF) (hy : y < pF) : x * y % pF = 0 ↔ x = 0 ∨ y = 0 := by
  constructor
  · intro h
    rcases prime_p.euclid (Nat.dvd_of_mod_eq_zero h) with h1 | h1
    · exact .inl (Classical.byContradiction fun e => not_dvd e hx h1)
    · exact .inr (Classical.byContradiction fun e => not_dvd e hy h1)
  · rintro (h | h)
    · rw [h, Nat.zero_mul, Nat.zero_mod]
    · rw [h, Nat.mul_zero, Nat.zero_mod]
end Go.Proofs.YtinigkpidhbgcaaDoor
