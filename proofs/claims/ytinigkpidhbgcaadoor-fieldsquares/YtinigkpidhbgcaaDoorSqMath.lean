/- Roots mod p: what is found is one, and even; a square's is found. -/
import Derived.Test.YtinigkpidhbgcaaDoorRootMath
namespace Go.Proofs.YtinigkpidhbgcaaDoor
theorem sub_sq {p x : Nat} (hx : x ≤ p) : (p - x) * (p - x) % p = x * x % p := by
  obtain ⟨d, rfl⟩ : ∃ d, p = x + d := ⟨p - x, by omega⟩
  rw [Nat.add_sub_cancel_left]
  have e : d * d + (x + d) * x = x * x + (x + d) * d := by
    rw [Nat.add_mul, Nat.add_mul, Nat.mul_comm d x]; omega
  have h1 : (d * d + (x + d) * x) % (x + d) = d * d % (x + d) := Nat.add_mul_mod_self_left _ _ _
  have h2 : (x * x + (x + d) * d) % (x + d) = x * x % (x + d) := Nat.add_mul_mod_self_left _ _ _
  rw [← h1, e, h2]
theorem evn_sq {x : Nat} (hx : x < pF) : evn x * evn x % pF = x * x % pF := by
  unfold evn
  split
  · rw [Nat.zero_add, ← Nat.mul_mod]
    exact sub_sq (Nat.le_of_lt hx)
  · rfl
theorem evn_two {x : Nat} (hx : x < pF) : evn x % 2 = 0 := by
  have hp : pF % 2 = 1 := by decide
  unfold evn
  by_cases h : x % 2 = 1
  · rw [if_pos h, Nat.zero_add, Nat.mod_eq_of_lt (a := pF - x) (b := pF) (by omega)]
    generalize pF = p at *
    omega
  · rw [if_neg h]
    omega
theorem rootX_lt (k u v : Nat) : rootX k u v < pF := Nat.mod_lt _ pF_pos
/-- What is found is a root, and even. -/
theorem root_is {k u v r : Nat} (hu : u < pF) (h : rootP k u v = some r) : r * r % pF * v % pF = u ∧ r % 2 = 0 := by
  unfold rootP at h
  have hX := rootX_lt k u v
  generalize rootX k u v = X at *
  by_cases h1 : X * X % pF * v % pF = u
  · rw [if_pos h1] at h
    obtain rfl := Option.some.inj h
    exact ⟨by rw [evn_sq hX]; exact h1, evn_two hX⟩
  · rw [if_neg h1] at h
    by_cases h2 : X * X % pF * v % pF = (0 + pF - u) % pF
    · rw [if_pos h2] at h
      obtain rfl := Option.some.inj h
      have hl : X * iM % pF < pF := Nat.mod_lt _ pF_pos
      refine ⟨?_, evn_two hl⟩
      rw [evn_sq hl, times_sq iM_sq, neg_mul _ v (Nat.mod_lt _ pF_pos), h2]
      exact (neg_neg (neg_lt u) hu).2 rfl
    · rw [if_neg h2] at h
      cases h
/-- The root of a square is found. -/
theorem half_pow {k u : Nat} (hk : 8 * k + 5 = pF) (h0 : u ≠ 0) (hu : u < pF) : u ^ (4 * k + 2) % pF = 1 ∨ u ^ (4 * k + 2) % pF = pF - 1 := by
  have hf := prime_p.fermat1 (not_dvd h0 hu)
  rw [show pF - 1 = (4 * k + 2) + (4 * k + 2) by omega, Nat.pow_add, pF_one, Nat.mul_mod] at hf
  have hl : u ^ (4 * k + 2) % pF < pF := Nat.mod_lt _ pF_pos
  generalize u ^ (4 * k + 2) % pF = s at *
  clear hk
  have hs0 : s ≠ 0 := fun h => by rw [h] at hf; exact absurd hf (by decide)
  have hd : pF ∣ (s - 1) * (s + 1) := by
    refine ⟨s * s / pF, ?_⟩
    have e : (s - 1) * (s + 1) = s * s - 1 := by
      obtain ⟨t, rfl⟩ : ∃ t, s = t + 1 := ⟨s - 1, by omega⟩
      rw [Nat.add_sub_cancel, Nat.mul_add t (t + 1) 1, Nat.mul_add t t 1, Nat.add_mul t 1 (t + 1), Nat.mul_add t t 1]; omega
    have h3 := Nat.div_add_mod (s * s) pF
    rw [e]
    generalize s * s = q at *
    generalize q / pF = d at *
    omega
  rcases prime_p.euclid hd with ⟨c, hc⟩ | ⟨c, hc⟩
  · left
    rcases Nat.eq_zero_or_pos c with h | h
    · rw [h, Nat.mul_zero] at hc; omega
    · have := Nat.le_mul_of_pos_right pF h; omega
  · right
    rcases Nat.lt_or_ge c 2 with h | h
    · rcases (show c = 0 ∨ c = 1 by omega) with rfl | rfl
      · omega
      · omega
    · have := Nat.mul_le_mul_left pF h; omega
theorem quo_one {U : Nat} (hU : U < pF) : quoR U 1 = U := by
  unfold quoR
  rw [Nat.one_pow, pF_one, Nat.mul_one, Nat.mod_eq_of_lt hU]
theorem root_found {k u : Nat} (hk : 8 * k + 5 = pF) (hu : u < pF) : (rootP k (u * u % pF) 1).isSome = true := by
  have hU : u * u % pF < pF := Nat.mod_lt _ pF_pos
  rw [root_same hk hU (by decide)]
  unfold rootR rootZ rootY
  rw [quo_one hU]
  have e : ∀ n, (u * u % pF) ^ n % pF = u ^ (2 * n) % pF := fun n => by
    rw [powm, ← Nat.pow_two, ← Nat.pow_mul]
  have hY : (u * u % pF) ^ (k + 1) % pF * ((u * u % pF) ^ (k + 1) % pF) % pF = u ^ (4 * k + 2) % pF * (u * u % pF) % pF := by
    rw [e, ← Nat.mul_mod, ← Nat.mul_mod, ← Nat.pow_add, ← Nat.pow_two, ← Nat.pow_add]
    congr 2
    omega
  have hYl : (u * u % pF) ^ (k + 1) % pF < pF := Nat.mod_lt _ pF_pos
  generalize (u * u % pF) ^ (k + 1) % pF = y at *
  have key : y * y % pF = u * u % pF ∨ y * y % pF = (0 + pF - u * u % pF) % pF := by
    by_cases h0 : u = 0
    · left
      rw [hY, h0, Nat.mul_zero, Nat.zero_mod, Nat.mul_zero, Nat.zero_mod]
    · rcases half_pow hk h0 hu with h | h
      · left
        rw [hY, h, Nat.one_mul, Nat.mod_mod]
      · right
        have h1 := neg_mul 1 (u * u % pF) (by decide)
        rw [show (0 + pF - 1) % pF = pF - 1 from by decide, Nat.one_mul, Nat.mod_mod] at h1
        rw [hY, h, h1]
  have ht := times_sq iM_sq y
  have hyl : y * y % pF < pF := Nat.mod_lt _ pF_pos
  generalize u * u % pF = U at *
  by_cases h1 : y * y % pF = U
  · rw [if_pos h1, if_pos ⟨h1, fun h => absurd h.1 (by decide)⟩]
    rfl
  · rw [if_neg h1, ht]
    rcases key with h | h
    · exact absurd h h1
    · rw [if_pos ⟨(neg_neg hyl hU).2 h, fun h => absurd h.1 (by decide)⟩]
      rfl
end Go.Proofs.YtinigkpidhbgcaaDoor
