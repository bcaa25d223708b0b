/- Each u but 0 has a point, on the curve or on its twist; so multiples of multiples do not care about order. -/
import Derived.Test.YtjbjbnooocbleaaEdC
import Derived.Test.YtjbjbnooocbleaaRootMath
namespace Go.Proofs.Ytjbjbnooocbleaa
theorem one_or {x : Nat} (hx : x < pF) (h : x * x % pF = 1) : x = 1 ∨ x = pF - 1 := by
  have h0 : x ≠ 0 := fun e => by rw [e] at h; exact absurd h (by decide)
  have hd : pF ∣ (x - 1) * (x + 1) := by
    have e : (x - 1) * (x + 1) = x * x - 1 := by
      obtain ⟨y, rfl⟩ : ∃ y, x = y + 1 := ⟨x - 1, by omega⟩
      rw [Nat.add_sub_cancel, Nat.add_mul, Nat.mul_add, Nat.mul_add]; omega
    rw [e]
    have hm := Nat.div_add_mod (x * x) pF
    rw [h] at hm
    exact ⟨x * x / pF, by omega⟩
  rcases prime_p.euclid hd with h1 | h1
  · left
    rcases Nat.eq_zero_or_pos (x - 1) with h2 | h2
    · omega
    · have := Nat.le_of_dvd h2 h1; omega
  · right
    have := Nat.le_of_dvd (by omega) h1; omega
theorem sq_pow (c m : Nat) : c ^ m % pF * (c ^ m % pF) % pF = c ^ (2 * m) % pF := by
  rw [← Nat.mul_mod, ← Nat.pow_add, Nat.two_mul]
theorem euler_or {c h : Nat} (hh : 2 * h + 1 = pF) (hc : ¬pF ∣ c) : c ^ h % pF = 1 ∨ c ^ h % pF = pF - 1 := by
  refine one_or (Nat.mod_lt _ (by decide)) ?_
  rw [sq_pow, show 2 * h = pF - 1 by omega, prime_p.fermat1 hc]
  decide
theorem root_nat {c k : Nat} (hk : 8 * k + 5 = pF) (hc : c < pF) (h1 : c ^ (4 * k + 2) % pF = 1) : ∃ r, r < pF ∧ r * r % pF = c := by
  have e1 : c ^ (k + 1) % pF * (c ^ (k + 1) % pF) % pF = c * (c ^ (2 * k + 1) % pF) % pF := by
    rw [sq_pow, mulm', show 2 * (k + 1) = 2 * k + 1 + 1 by omega, Nat.pow_succ, Nat.mul_comm]
  have e2 : c ^ (2 * k + 1) % pF * (c ^ (2 * k + 1) % pF) % pF = 1 := by rw [sq_pow, show 2 * (2 * k + 1) = 4 * k + 2 by omega, h1]
  have hp : (pF - 1) * (pF - 1) % pF = 1 := by kernel_rfl
  rcases one_or (Nat.mod_lt _ (by decide)) e2 with h | h
  · rw [h, Nat.mul_one, Nat.mod_eq_of_lt hc] at e1
    exact ⟨_, Nat.mod_lt _ (by decide), e1⟩
  · rw [h] at e1
    refine ⟨c ^ (k + 1) % pF * iM % pF, Nat.mod_lt _ (by decide), ?_⟩
    rw [times_sq iM_sq, e1]
    have e3 : (0 + pF - c * (pF - 1) % pF) % pF = c := by
      have e4 : c * (pF - 1) % pF = (0 + pF - c) % pF := by
        obtain ⟨q, hq⟩ : ∃ q, pF = q + 1 := ⟨pF - 1, by decide⟩
        have e5 : c * (pF - 1) + c = c * pF := by rw [hq, Nat.add_sub_cancel, Nat.mul_add, Nat.mul_one]
        have e6 : (c * (pF - 1) + c) % pF = 0 := by rw [e5, Nat.mul_mod_left]
        have e7 : (0 + pF - c + c) % pF = 0 := by rw [show 0 + pF - c + c = pF by omega, Nat.mod_self]
        have a1 := Nat.mod_lt (c * (pF - 1)) (show 0 < pF by decide)
        have a2 := Nat.mod_lt (0 + pF - c) (show 0 < pF by decide)
        rw [Nat.add_mod, Nat.mod_eq_of_lt hc] at e6 e7
        generalize c * (pF - 1) % pF = x at *
        generalize (0 + pF - c) % pF = y at *
        have z1 := Nat.dvd_of_mod_eq_zero e6
        have z2 := Nat.dvd_of_mod_eq_zero e7
        obtain ⟨m1, hm1⟩ := z1
        obtain ⟨m2, hm2⟩ := z2
        rcases Nat.eq_zero_or_pos c with hc0 | hc0
        · subst hc0
          have : m1 = 0 := by rcases m1 with _ | m1; rfl; rw [Nat.mul_add] at hm1; omega
          have : m2 = 0 := by rcases m2 with _ | m2; rfl; rw [Nat.mul_add] at hm2; omega
          subst_vars; omega
        · have b1 : m1 = 1 := by
            match m1, hm1 with
            | 0, h => omega
            | 1, _ => rfl
            | m + 2, h => rw [Nat.mul_add] at h; have := Nat.zero_le (pF * m); omega
          have b2 : m2 = 1 := by
            match m2, hm2 with
            | 0, h => omega
            | 1, _ => rfl
            | m + 2, h => rw [Nat.mul_add] at h; have := Nat.zero_le (pF * m); omega
          subst b1; subst b2; omega
      rw [e4]
      rcases Nat.eq_zero_or_pos c with hc0 | hc0
      · rw [hc0]; decide
      · rw [Nat.mod_eq_of_lt (show 0 + pF - c < pF by omega), show 0 + pF - (0 + pF - c) = c by omega, Nat.mod_eq_of_lt hc]
    exact e3
end Go.Proofs.Ytjbjbnooocbleaa
