/- Roots of quotients mod p as plain arithmetic: two ways to find one find the same. -/
import Derived.Test.YtinigkpidhbgcaaDoorPrimeUse
namespace Go.Proofs.YtinigkpidhbgcaaDoor
/-- A root of -1. -/
def iM : Nat := 19681161376707505956807079304988542015446066515923890162744021073123829784752
theorem iM_pow : 2 ^ 14474011154664524427946373126085988481658748083205070504932198000989141204987 % pF = iM := by
  rw [← pm_eq pF 2 253 14474011154664524427946373126085988481658748083205070504932198000989141204987 (by decide)]
  kernel_rfl
theorem iM_sq : iM * iM % pF = pF - 1 := by kernel_rfl
/-- The even one of a number and its negative. -/
def evn (x : Nat) : Nat := if x % 2 = 1 then (0 + pF - x) % pF else x
/-- The first way: with u times v to the 7th to the power k. -/
def rootX (k u v : Nat) : Nat := (u * (v * v % pF * v % pF) % pF * (v * v % pF * v % pF) % pF * v % pF) ^ k % pF * u % pF * (v * v % pF * v % pF) % pF
def rootP (k u v : Nat) : Option Nat :=
  if rootX k u v * rootX k u v % pF * v % pF = u then some (evn (rootX k u v))
  else if rootX k u v * rootX k u v % pF * v % pF = (0 + pF - u) % pF then some (evn (rootX k u v * iM % pF)) else none
/-- The second way: the quotient to the power k + 1. -/
def quoR (u v : Nat) : Nat := u * (v ^ (pF - 2) % pF) % pF
def rootY (k u v : Nat) : Nat := quoR u v ^ (k + 1) % pF
def rootZ (k u v : Nat) : Nat := if rootY k u v * rootY k u v % pF = quoR u v then rootY k u v else rootY k u v * iM % pF
def rootR (k u v : Nat) : Option Nat := if rootZ k u v * rootZ k u v % pF = quoR u v ∧ ¬(v = 0 ∧ u ≠ 0) then some (evn (rootZ k u v)) else none
theorem pF_pos : 0 < pF := by decide
theorem mulm (a b : Nat) : a % pF * b % pF = a * b % pF := by rw [Nat.mul_mod, Nat.mod_mod, ← Nat.mul_mod]
theorem mulm' (a b : Nat) : a * (b % pF) % pF = a * b % pF := by rw [Nat.mul_mod, Nat.mod_mod, ← Nat.mul_mod]
theorem powm (a n : Nat) : (a % pF) ^ n % pF = a ^ n % pF := (Nat.pow_mod a n pF).symm
/-- Where v is not 0 both ways come to the same number. -/
theorem rootX_eq {k u v : Nat} (hk : 8 * k + 5 = pF) (hv0 : v ≠ 0) (hv : v < pF) : rootX k u v = rootY k u v := by
  have hf := prime_p.fermat1 (not_dvd hv0 hv)
  have hw := inv_mul hv0 hv
  unfold rootX rootY quoR
  generalize v ^ (pF - 2) % pF = w at hw ⊢
  rw [show pF - 1 = 8 * k + 4 by omega, pF_one] at hf
  clear hk hv hv0
  have e1 : (u * (v * v % pF * v % pF) % pF * (v * v % pF * v % pF) % pF * v % pF) ^ k % pF = (u * v ^ 7) ^ k % pF := by
    have : u * (v * v % pF * v % pF) % pF * (v * v % pF * v % pF) % pF * v % pF = u * v ^ 7 % pF := by
      simp only [mulm, mulm']
      congr 1
      simp only [Nat.pow_succ, Nat.pow_zero, Nat.one_mul]
      ac_rfl
    rw [this, powm]
  rw [e1]
  have e2 : (u * v ^ 7) ^ k % pF * u % pF * (v * v % pF * v % pF) % pF = u ^ (k + 1) * v ^ (7 * k + 3) % pF := by
    simp only [mulm, mulm']
    congr 1
    rw [Nat.mul_pow, ← Nat.pow_mul, Nat.pow_add v (7 * k) 3, Nat.pow_succ u k]
    simp only [Nat.pow_succ, Nat.pow_zero, Nat.one_mul]
    ac_rfl
  rw [e2, powm, Nat.mul_pow]
  have e3 : v ^ (7 * k + 3) % pF = w ^ (k + 1) % pF := by
    have h1 : v ^ (7 * k + 3) * (v * w) ^ (k + 1) % pF = v ^ (7 * k + 3) % pF := by
      rw [Nat.mul_mod, Nat.pow_mod (v * w), hw, Nat.one_pow, pF_one, Nat.mul_one, Nat.mod_mod]
    have h2 : v ^ (7 * k + 3) * (v * w) ^ (k + 1) = v ^ (8 * k + 4) * w ^ (k + 1) := by
      rw [Nat.mul_pow, ← Nat.mul_assoc, ← Nat.pow_add]
      congr 2
      omega
    rw [← h1, h2, Nat.mul_mod, hf, Nat.one_mul, Nat.mod_mod]
  rw [Nat.mul_mod, e3, ← Nat.mul_mod]
theorem sq_iff {x u v w : Nat} (hu : u < pF) (hw : v * w % pF = 1) : x * x % pF * v % pF = u ↔ x * x % pF = u * w % pF := by
  constructor
  · intro h
    have e : x * x % pF * v % pF * w % pF = x * x % pF := by
      rw [mulm, Nat.mul_assoc, Nat.mul_mod, hw, Nat.mul_one, Nat.mod_mod, Nat.mod_mod]
    rw [← e, h]
  · intro h
    rw [h, mulm, Nat.mul_assoc, Nat.mul_comm w v, Nat.mul_mod, hw, Nat.mul_one, Nat.mod_mod, Nat.mod_eq_of_lt hu]
theorem neg_lt (u : Nat) : (0 + pF - u) % pF < pF := Nat.mod_lt _ pF_pos
theorem neg_mul (u w : Nat) (hu : u < pF) : (0 + pF - u) % pF * w % pF = (0 + pF - u * w % pF) % pF := by
  rw [Nat.zero_add, mulm, Nat.sub_mul]
  have h1 : u * w ≤ pF * w := Nat.mul_le_mul_right _ (Nat.le_of_lt hu)
  have hd := Nat.div_add_mod (u * w) pF
  have hm : u * w % pF < pF := Nat.mod_lt _ pF_pos
  generalize u * w = T at *
  generalize T % pF = m at *
  generalize T / pF = d at *
  by_cases h0 : m = 0
  · have e : pF * w - T = pF * (w - d) := by rw [Nat.mul_sub]; omega
    rw [e, Nat.mul_mod_right, h0, Nat.sub_zero, Nat.mod_self]
  · have hdw : d < w := by
      rcases Nat.lt_or_ge d w with h | h
      · exact h
      · have := Nat.mul_le_mul_left pF h
        omega
    have e : pF * w - T = (pF - m) + pF * (w - d - 1) := by
      have h3 : pF * (w - d - 1) = pF * w - pF * d - pF := by rw [Nat.mul_sub, Nat.mul_sub, Nat.mul_one]
      have h4 : pF * d + pF ≤ pF * w := by
        have := Nat.mul_le_mul_left pF (show d + 1 ≤ w by omega)
        rwa [Nat.mul_succ] at this
      omega
    rw [e, Nat.add_mul_mod_self_left]
theorem neg_neg {a b : Nat} (ha : a < pF) (hb : b < pF) : (0 + pF - a) % pF = b ↔ a = (0 + pF - b) % pF := by
  unfold pF at *
  omega
theorem times_sq {i : Nat} (hi : i * i % pF = pF - 1) (x : Nat) : x * i % pF * (x * i % pF) % pF = (0 + pF - x * x % pF) % pF := by
  have e : x * i % pF * (x * i % pF) % pF = (i * i % pF) * (x * x % pF) % pF := by
    simp only [mulm, mulm']
    congr 1
    ac_rfl
  have h1 : (0 + pF - 1) % pF = pF - 1 := by decide
  have h2 := neg_mul 1 (x * x % pF) (by decide)
  rw [h1, Nat.one_mul, Nat.mod_mod] at h2
  rw [e, hi, h2]
/-- Both ways find the same. -/
theorem root_same {k u v : Nat} (hk : 8 * k + 5 = pF) (hu : u < pF) (hv : v < pF) : rootP k u v = rootR k u v := by
  by_cases hv0 : v = 0
  · subst hv0
    have hX : rootX k u 0 = 0 := by unfold rootX; simp only [Nat.mul_zero, Nat.zero_mod]
    have hq : quoR u 0 = 0 := by unfold quoR; rw [zero_inv, Nat.mul_zero, Nat.zero_mod]
    have hY : rootY k u 0 = 0 := by unfold rootY; rw [hq, Nat.zero_pow (Nat.succ_pos k), Nat.zero_mod]
    have hZ : rootZ k u 0 = 0 := by unfold rootZ; rw [hY, hq, if_pos (by rw [Nat.mul_zero, Nat.zero_mod])]
    unfold rootP rootR
    rw [hX, hZ, hq]
    have e0 : 0 * 0 % pF * 0 % pF = 0 := rfl
    have e1 : 0 * 0 % pF = 0 := rfl
    by_cases hu0 : u = 0
    · subst hu0
      rw [if_pos e0, if_pos ⟨e1, fun h => h.2 rfl⟩]
    · rw [if_neg (fun h => hu0 (e0 ▸ h).symm), if_neg (fun h => by rw [e0] at h; unfold pF at *; omega), if_neg (fun h => h.2 ⟨rfl, hu0⟩)]
  · have hw := inv_mul hv0 hv
    have hXY := rootX_eq (u := u) hk hv0 hv
    have hYl : rootY k u v < pF := Nat.mod_lt _ pF_pos
    unfold rootP rootR rootZ
    rw [hXY]
    have hql : quoR u v < pF := Nat.mod_lt _ pF_pos
    have s1 := sq_iff (x := rootY k u v) hu hw
    have s2 := sq_iff (x := rootY k u v) (neg_lt u) hw
    have hqe : u * (v ^ (pF - 2) % pF) % pF = quoR u v := rfl
    rw [neg_mul u _ hu] at s2
    rw [hqe] at s1 s2
    generalize rootY k u v = y at *
    generalize quoR u v = q at *
    have ht := times_sq iM_sq y
    have hyl : y * y % pF < pF := Nat.mod_lt _ pF_pos
    by_cases h1 : y * y % pF = q
    · rw [if_pos (s1.2 h1), if_pos h1, if_pos ⟨h1, fun h => hv0 h.1⟩]
    · rw [if_neg (fun h => h1 (s1.1 h)), if_neg h1]
      by_cases h2 : y * y % pF = (0 + pF - q) % pF
      · rw [if_pos (s2.2 h2), if_pos ⟨by rw [ht]; exact (neg_neg hyl hql).2 h2, fun h => hv0 h.1⟩]
      · rw [if_neg (fun h => h2 (s2.1 h)), if_neg (fun h => h2 ((neg_neg hyl hql).1 (by rw [← ht]; exact h.1)))]
end Go.Proofs.YtinigkpidhbgcaaDoor
