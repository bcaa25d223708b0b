/- The points of a complete Edwards curve mod p: a group; and what the ladder makes of them. -/
import Derived.Test.YtjbjbnooocbleaaEdA
namespace Go.Proofs.Ytjbjbnooocbleaa
section
variable {n : Nat} [NeZero n]
theorem g_one {D : Fin n} (e : 1 - D*0*0 = 0) : (1 : Fin n) = 0 := by grind
theorem g_z1 {D x y : Fin n} : 1 + D*x*0*y*1 = 1 := by grind
theorem g_z2 {D x y : Fin n} : 1 - D*x*0*y*1 = 1 := by grind
theorem g_z3 {x y : Fin n} : (x*1 + 0*y)*1 = x := by grind
theorem g_z4 {x y : Fin n} : (y*1 - x*0)*1 = y := by grind
end
abbrev Fp := Fin pF
instance : NeZero pF := ⟨by decide⟩
def fi (a : Fp) : Fp := ⟨finv a.val, finv_lt _⟩
theorem fi_mul {a : Fp} (h : a ≠ 0) : a * fi a = 1 := by
  refine Fin.ext ?_
  rw [Fin.val_mul]
  exact inv_mul (fun e => h (Fin.ext e)) a.isLt
theorem fp_zero {a b : Fp} (h : a * b = 0) : a = 0 ∨ b = 0 := by
  by_cases ha : a = 0
  · exact .inl ha
  · right
    have h1 := fi_mul ha
    generalize fi a = i at *
    grind
theorem fp_ne {a b : Fp} (ha : a ≠ 0) (hb : b ≠ 0) : a * b ≠ 0 := fun h => (fp_zero h).elim ha hb
theorem fp_unit {a b : Fp} (h : a * b = 1) : a ≠ 0 := fun e => by
  rw [e] at h
  have : (0 : Fp) = 1 := by grind
  exact absurd this (by decide)
/-- No number's square. -/
def NS (D : Fp) : Prop := ∀ z : Fp, z * z ≠ D
def On (D : Fp) (P : Fp × Fp) : Prop := P.1^2 + P.2^2 = 1 + D*P.1^2*P.2^2
def tt (D : Fp) (P Q : Fp × Fp) : Fp := D*P.1*Q.1*P.2*Q.2
theorem ns_one {D y : Fp} (h : NS D) : 1 - D*y*y ≠ 0 := fun e => by
  have hy : y ≠ 0 := fun h0 => by
    rw [h0] at e
    exact absurd (g_one e) (by decide)
  have h1 := fi_mul hy
  refine h (fi y) ?_
  generalize fi y = i at *
  grind
theorem two_ne : (2 : Fp) ≠ 0 := by decide
theorem complete {D : Fp} (hD : NS D) {P Q : Fp × Fp} (hP : On D P) (hQ : On D Q) : tt D P Q * tt D P Q ≠ 1 := fun h => by
  obtain ⟨x1, y1⟩ := P
  obtain ⟨x2, y2⟩ := Q
  unfold On at hP hQ
  unfold tt at h
  simp only at hP hQ h
  obtain ⟨t, ht⟩ : ∃ t, t = D*x1*x2*y1*y2 := ⟨_, rfl⟩
  rw [← ht] at h
  obtain ⟨s1, s2⟩ := ed_sq hP hQ ht h
  have key : ∀ a w : Fp, a^2 = D*w^2 → w = 0 := fun a w hw => Classical.byContradiction fun hne => by
    have h1 := fi_mul hne
    refine hD (a * fi w) ?_
    generalize fi w = i at *
    grind
  have k1 := key _ _ s1
  have k2 := key _ _ s2
  clear s1 s2 key hP hQ
  have u1 : x1*y1 ≠ 0 := fp_unit (b := D*x2*y2*t) (by rw [ht] at h ⊢; clear k1 k2 ht; grind)
  have u2 : x2*y2 ≠ 0 := fp_unit (b := D*x1*y1*t) (by rw [ht] at h ⊢; clear k1 k2 ht; grind)
  have a1 := (fp_zero k1).resolve_left u1
  have a2 := (fp_zero k2).resolve_left u1
  have b1 : 2 * x2 = 0 := by clear h ht k1 k2 u1 u2; grind
  have b2 := (fp_zero b1).resolve_left two_ne
  rw [b2] at u2
  exact u2 (by grind)
theorem com_p {D : Fp} (hD : NS D) {P Q : Fp × Fp} (hP : On D P) (hQ : On D Q) : 1 + tt D P Q ≠ 0 := fun h => complete hD hP hQ (by generalize tt D P Q = t at *; grind)
theorem com_m {D : Fp} (hD : NS D) {P Q : Fp × Fp} (hP : On D P) (hQ : On D Q) : 1 - tt D P Q ≠ 0 := fun h => complete hD hP hQ (by generalize tt D P Q = t at *; grind)
/-- The sum. -/
def eadd (D : Fp) (P Q : Fp × Fp) : Fp × Fp := ((P.1*Q.2 + Q.1*P.2) * fi (1 + D*P.1*Q.1*P.2*Q.2), (P.2*Q.2 - P.1*Q.1) * fi (1 - D*P.1*Q.1*P.2*Q.2))
theorem eadd_on {D : Fp} (hD : NS D) {P Q : Fp × Fp} (hP : On D P) (hQ : On D Q) : On D (eadd D P Q) :=
  ed_closed hP hQ (fi_mul (com_p hD hP hQ)) (fi_mul (com_m hD hP hQ))
theorem eadd_assoc {D : Fp} (hD : NS D) {P Q R : Fp × Fp} (hP : On D P) (hQ : On D Q) (hR : On D R) : eadd D (eadd D P Q) R = eadd D P (eadd D Q R) := by
  have i1 := fi_mul (com_p hD hP hQ)
  have j1 := fi_mul (com_m hD hP hQ)
  have i2 := fi_mul (com_p hD hQ hR)
  have j2 := fi_mul (com_m hD hQ hR)
  have i3 := fi_mul (com_p hD (eadd_on hD hP hQ) hR)
  have j3 := fi_mul (com_m hD (eadd_on hD hP hQ) hR)
  have i4 := fi_mul (com_p hD hP (eadd_on hD hQ hR))
  have j4 := fi_mul (com_m hD hP (eadd_on hD hQ hR))
  refine Prod.ext ?_ ?_
  · exact ed_cross (ed_up_x i1 j1 i2 j2 (ed_assoc_x hP hQ hR)) i3 i4
  · exact ed_cross (ed_up_y i1 j1 i2 j2 (ed_assoc_y hP hQ hR)) j3 j4
theorem eadd_comm (D : Fp) (P Q : Fp × Fp) : eadd D P Q = eadd D Q P := by
  unfold eadd
  have e1 : P.1*Q.2 + Q.1*P.2 = Q.1*P.2 + P.1*Q.2 := by grind
  have e2 : D*P.1*Q.1*P.2*Q.2 = D*Q.1*P.1*Q.2*P.2 := by grind
  have e3 : P.2*Q.2 - P.1*Q.1 = Q.2*P.2 - Q.1*P.1 := by grind
  rw [e1, e2, e3]
def ezero : Fp × Fp := (0, 1)
theorem ezero_on (D : Fp) : On D ezero := by unfold On ezero; simp only; grind
theorem fi_one : fi 1 = 1 := by
  have := fi_mul (a := 1) (by decide)
  generalize fi 1 = i at *
  grind
theorem eadd_zero (D : Fp) (P : Fp × Fp) : eadd D P ezero = P := by
  unfold eadd ezero
  simp only
  rw [g_z1, g_z2, fi_one]
  refine Prod.ext ?_ ?_
  · exact g_z3
  · exact g_z4
theorem zero_eadd (D : Fp) (P : Fp × Fp) : eadd D ezero P = P := by rw [eadd_comm, eadd_zero]
def eneg (P : Fp × Fp) : Fp × Fp := (0 - P.1, P.2)
theorem eneg_on {D : Fp} {P : Fp × Fp} (h : On D P) : On D (eneg P) := by unfold On eneg at *; simp only; grind
theorem eneg_add {D : Fp} (hD : NS D) {P : Fp × Fp} (h : On D P) : eadd D (eneg P) P = ezero := by
  have i1 := fi_mul (com_p hD (eneg_on h) h)
  have j1 := fi_mul (com_m hD (eneg_on h) h)
  refine Prod.ext ?_ ?_
  · show ((0 - P.1)*P.2 + P.1*P.2) * fi (1 + D*(0 - P.1)*P.1*P.2*P.2) = 0
    have : (0 - P.1)*P.2 + P.1*P.2 = 0 := by grind
    rw [this]; grind
  · show (P.2*P.2 - (0 - P.1)*P.1) * fi (1 - D*(0 - P.1)*P.1*P.2*P.2) = 1
    have e : 1 - tt D (eneg P) P = P.2*P.2 - (0 - P.1)*P.1 := by
      unfold tt eneg On at *; simp only; clear i1 j1; grind
    rw [← e]
    exact j1
/-- So many times a point. -/
def emul (D : Fp) : Nat → Fp × Fp → Fp × Fp
  | 0, _ => ezero
  | n + 1, P => eadd D (emul D n P) P
theorem emul_on {D : Fp} (hD : NS D) {P : Fp × Fp} (h : On D P) : ∀ n, On D (emul D n P)
  | 0 => ezero_on D
  | n + 1 => eadd_on hD (emul_on hD h n) h
theorem emul_add {D : Fp} (hD : NS D) {P : Fp × Fp} (h : On D P) (m : Nat) : ∀ n, emul D (m + n) P = eadd D (emul D m P) (emul D n P)
  | 0 => (eadd_zero D _).symm
  | n + 1 => by
    show eadd D (emul D (m + n) P) P = _
    rw [emul_add hD h m n, eadd_assoc hD (emul_on hD h m) (emul_on hD h n) h]
    rfl
theorem emul_mul {D : Fp} (hD : NS D) {P : Fp × Fp} (h : On D P) (m : Nat) : ∀ n, emul D n (emul D m P) = emul D (m * n) P
  | 0 => rfl
  | n + 1 => by
    show eadd D (emul D n (emul D m P)) (emul D m P) = _
    rw [emul_mul hD h m n, ← emul_add hD h]
    rfl
theorem emul_comm {D : Fp} (hD : NS D) {P : Fp × Fp} (h : On D P) (m n : Nat) : emul D n (emul D m P) = emul D m (emul D n P) := by
  rw [emul_mul hD h, emul_mul hD h, Nat.mul_comm]
end Go.Proofs.Ytjbjbnooocbleaa
