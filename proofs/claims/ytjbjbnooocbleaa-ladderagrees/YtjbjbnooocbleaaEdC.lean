/- The ladder as multiples of a point. -/
import Derived.Test.YtjbjbnooocbleaaEdB
namespace Go.Proofs.Ytjbjbnooocbleaa
section
variable {n : Nat} [NeZero n]
theorem g_e {e X S w : Fin n} (he : e*e = 1) (h : e*X = S*w) : X = e*S*w := by grind
theorem g_sq {D y z : Fin n} : 1 - D*y*y*z*z = 1 - D*(y*z)*(y*z) := by grind
theorem g_d1 {D : Fin n} : 1 - D = 1 - D*1*1 := by grind
theorem g_rel {D q1 q2 r1 r2 p f : Fin n} (h : (q2*r2 - (0-q1)*r1)*f = p) (hf : (1 - D*(0-q1)*r1*q2*r2)*f = 1) : p*(1 + D*q1*r1*q2*r2) = q2*r2 + q1*r1 := by
  have e1 : 1 - D*(0-q1)*r1*q2*r2 = 1 + D*q1*r1*q2*r2 := by clear h hf; grind
  have e2 : q2*r2 - (0-q1)*r1 = q2*r2 + q1*r1 := by clear h hf e1; grind
  rw [e1] at hf
  rw [e2] at h
  generalize 1 + D*q1*r1*q2*r2 = a at *
  generalize q2*r2 + q1*r1 = b at *
  clear e1 e2
  grind
theorem g_swap {D q1 q2 r1 r2 p : Fin n} (h : p*(1 + D*q1*r1*q2*r2) = q2*r2 + q1*r1) : p*(1 + D*r1*q1*r2*q2) = r2*q2 + r1*q1 := by
  have e1 : D*r1*q1*r2*q2 = D*q1*r1*q2*r2 := by clear h; grind
  rw [e1, h]; clear e1 h; grind
theorem g_val {e s si X Z y f g : Fin n} (hs : s*si = 1) (hX : X = e*s*(1+y)) (hZ : Z = s*(1-y)) (hf : Z*f = 1) (hg : (1-y)*g = 1) : X*f = e*(1+y)*g := by
  have h1 : s*f*(1-y) = 1 := by rw [hZ] at hf; clear hX hZ hg; grind
  have h2 : s*f = g := by clear hf hX hZ hs; generalize s*f = a at *; generalize 1-y = b at *; grind
  rw [hX, ← h2]; clear h1 h2 hf hg hX hZ hs; grind
theorem g_b0 {e f : Fin n} (he : e*e = 1) (hf : 2*f = 1) : 1 = e*(e*f)*(1+1) := by grind
theorem g_b1 {e f : Fin n} (he : e*e = 1) (hf : 2*f = 1) : (e*f)*(e*2) = 1 := by grind
theorem g_b2 {s : Fin n} : 0 = s*(1-1) := by grind
theorem g_b3 {u e y f : Fin n} (hu : u*(1-y) = e*(1+y)) (hf : (1-y)*f = 1) : u = e*f*(1+y) := by
  generalize 1-y = a at *
  generalize 1+y = b at *
  grind
theorem g_b4 {a f : Fin n} (hf : a*f = 1) : 1 = f*a := by grind
end
theorem ne_of_mul {a b : Fp} (h : a*b = 1) : a ≠ 0 := fp_unit h
/-- x and z of a point, times whatever is not 0. -/
def RepP (e y X Z : Fp) : Prop := ∃ s si : Fp, s*si = 1 ∧ X = e*s*(1+y) ∧ Z = s*(1-y)
theorem RepP.mk' {e y X Z S : Fp} (he : e*e = 1) (hS : S ≠ 0) (h1 : e*X = S*(1+y)) (h2 : Z = S*(1-y)) : RepP e y X Z := ⟨S, fi S, fi_mul hS, g_e he h1, h2⟩
theorem rep_dbl {e A D k : Fp} (he : e*e = 1) (hD : NS D) (hDA : D*(A+2*e) = A-2*e) (hA : A+2*e ≠ 0) (hk : 4*k = A-2) {Q : Fp × Fp} (hQ : On D Q) {X Z : Fp} (h : RepP e Q.2 X Z) :
    RepP e (eadd D Q Q).2 (((X+Z)*(X+Z))*((X-Z)*(X-Z))) ((((X+Z)*(X+Z)) - ((X-Z)*(X-Z)))*(((X+Z)*(X+Z)) + k*(((X+Z)*(X+Z)) - ((X-Z)*(X-Z))))) := by
  obtain ⟨s, si, hs, hX, hZ⟩ := h
  have hj := fi_mul (com_m hD hQ hQ)
  have r := ed_dbl (j := fi (1 - D*Q.1*Q.1*Q.2*Q.2)) he hQ hDA hj hX hZ k hk
  have hs0 := fp_unit hs
  refine RepP.mk' he ?_ r.1 r.2
  exact fp_ne (fp_ne (fp_ne (fp_ne (fp_ne (fp_ne (fp_ne two_ne hs0) hs0) hs0) hs0) hA) (ns_one hD)) (com_m hD hQ hQ)
theorem sixteen_ne : (16 : Fp) ≠ 0 := by decide
theorem rep_diff {e D u y1 : Fp} (he : e*e = 1) (hD : NS D) {Q R : Fp × Fp} (hQ : On D Q) (hR : On D R) (hy : y1*(1 + D*Q.1*R.1*Q.2*R.2) = Q.2*R.2 + Q.1*R.1) (hu : u*(1-y1) = e*(1+y1)) (hy1 : 1 + y1 ≠ 0) {X2 Z2 X3 Z3 : Fp} (h2 : RepP e Q.2 X2 Z2) (h3 : RepP e R.2 X3 Z3) :
    RepP e (eadd D Q R).2 (((X3-Z3)*(X2+Z2) + (X3+Z3)*(X2-Z2))*((X3-Z3)*(X2+Z2) + (X3+Z3)*(X2-Z2))) (u*(((X3-Z3)*(X2+Z2) - (X3+Z3)*(X2-Z2))*((X3-Z3)*(X2+Z2) - (X3+Z3)*(X2-Z2)))) := by
  obtain ⟨s, si, hs, hX2, hZ2⟩ := h2
  obtain ⟨r, ri, hr, hX3, hZ3⟩ := h3
  have hj := fi_mul (com_m hD hQ hR)
  have d1 : (1 - D : Fp) ≠ 0 := by rw [g_d1]; exact ns_one hD
  have d2 : (1 - D*Q.2*Q.2*R.2*R.2 : Fp) ≠ 0 := by rw [g_sq]; exact ns_one hD
  have hq := fp_ne d1 d2
  have hk := fi_mul hq
  have rr := ed_diff (j := fi (1 - D*Q.1*R.1*Q.2*R.2)) he hQ hR hy hj hk hu hX2 hZ2 hX3 hZ3 _ rfl
  have hs0 := fp_unit hs
  have hr0 := fp_unit hr
  have he0 := fp_unit he
  have hk0 : fi ((1-D)*(1 - D*Q.2*Q.2*R.2*R.2)) ≠ 0 := fun h0 => by
    rw [h0] at hk
    exact absurd hk (by rw [Fin.mul_zero]; decide)
  refine RepP.mk' he ?_ rr.1 rr.2
  exact fp_ne (fp_ne (fp_ne (fp_ne (fp_ne (fp_ne (fp_ne (fp_ne (fp_ne sixteen_ne he0) hs0) hs0) hr0) hr0) (fp_ne (com_p hD hQ hR) hy1)) (com_m hD hQ hR)) (fp_ne (ns_one hD) (ns_one hD))) hk0
theorem back_rel {D : Fp} (hD : NS D) {P Q R : Fp × Fp} (hQ : On D Q) (hR : On D R) (e : eadd D (eneg Q) R = P) : P.2*(1 + D*Q.1*R.1*Q.2*R.2) = Q.2*R.2 + Q.1*R.1 := by
  have h2 := congrArg Prod.snd e
  have h3 := fi_mul (com_m hD (eneg_on hQ) hR)
  unfold eadd eneg at h2
  unfold tt eneg at h3
  simp only at h2 h3
  exact g_rel h2 h3
/-- What a point's neighbours have to do with each other. -/
theorem next_rel {D : Fp} (hD : NS D) {P Q R : Fp × Fp} (hP : On D P) (hQ : On D Q) (e : R = eadd D Q P) : P.2*(1 + D*Q.1*R.1*Q.2*R.2) = Q.2*R.2 + Q.1*R.1 :=
  back_rel hD hQ (by rw [e]; exact eadd_on hD hQ hP) (by rw [e, ← eadd_assoc hD (eneg_on hQ) hQ hP, eneg_add hD hQ, zero_eadd])
/-- Numbers as members of the field. -/
def cF (a : Nat) : Fp := ⟨a % pF, Nat.mod_lt _ (by decide)⟩
theorem cF_add (a b : Nat) : cF (fadd a b) = cF a + cF b := Fin.ext (by rw [Fin.val_add]; show (a + b) % pF % pF = (a % pF + b % pF) % pF; rw [Nat.mod_mod, ← Nat.add_mod])
theorem cF_mul (a b : Nat) : cF (fmul a b) = cF a * cF b := Fin.ext (by rw [Fin.val_mul]; show (a * b) % pF % pF = (a % pF * (b % pF)) % pF; rw [Nat.mod_mod, ← Nat.mul_mod])
theorem cF_sub (a b : Nat) (hb : b < pF) : cF (fsub a b) = cF a - cF b := Fin.ext (by
  rw [Fin.sub_def]
  show (a + pF - b) % pF % pF = (pF - b % pF + a % pF) % pF
  rw [Nat.mod_mod, Nat.mod_eq_of_lt hb, Nat.add_mod_mod, show a + pF - b = pF - b + a by omega])
theorem cF_inv (a : Nat) (ha : a < pF) : cF (finv a) = fi (cF a) := Fin.ext (by
  show finv a % pF = finv (a % pF)
  rw [Nat.mod_eq_of_lt (finv_lt a), Nat.mod_eq_of_lt ha])
theorem cF_inj {a b : Nat} (ha : a < pF) (hb : b < pF) (h : cF a = cF b) : a = b := by
  have := congrArg Fin.val h
  change a % pF = b % pF at this
  rwa [Nat.mod_eq_of_lt ha, Nat.mod_eq_of_lt hb] at this
/-- The number that the bits from the highest on tell. -/
def nOf (ks : Nat → Nat) : Nat → Nat
  | 0 => 0
  | j + 1 => 2 * nOf ks j + (if bitN ks (254 - j) then 1 else 0)
/-- A point with that u: on the curve (e = 1) or on its twist. -/
structure HasU (e D : Fp) (P : Fp × Fp) (u : Nat) : Prop where
  ee : e*e = 1
  ns : NS D
  da : D*(486662+2*e) = 486662-2*e
  ne : (486662+2*e : Fp) ≠ 0
  on : On D P
  hu : cF u*(1-P.2) = e*(1+P.2)
  y1 : 1 + P.2 ≠ 0
  y2 : 1 - P.2 ≠ 0
theorem four_k : 4*cF 121665 = (486662 : Fp) - 2 := by decide
theorem stepL_rep {e D : Fp} {P : Fp × Fp} {u : Nat} (h : HasU e D P u) {Q R : Fp × Fp} (hQ : On D Q) (hR : On D R) (hy : P.2*(1 + D*Q.1*R.1*Q.2*R.2) = Q.2*R.2 + Q.1*R.1) {s : L4} (hs : s.Ok) (h2 : RepP e Q.2 (cF s.xl) (cF s.zl)) (h3 : RepP e R.2 (cF s.xh) (cF s.zh)) :
    RepP e (eadd D Q Q).2 (cF (stepL u s).xl) (cF (stepL u s).zl) ∧ RepP e (eadd D Q R).2 (cF (stepL u s).xh) (cF (stepL u s).zh) := by
  have a := rep_dbl h.ee h.ns h.da h.ne four_k hQ h2
  have b := rep_diff h.ee h.ns hQ hR hy h.hu h.y1 h2 h3
  unfold stepL ee
  simp only [cF_mul, cF_add, cF_sub _ _ hs.zl, cF_sub _ _ hs.zh, cF_sub _ _ (fmul_lt _ _)]
  exact ⟨a, b⟩
theorem climb_rep {e D : Fp} {P : Fp × Fp} {u : Nat} (h : HasU e D P u) (hu : u < pF) (ks : Nat → Nat) : ∀ j, RepP e (emul D (nOf ks j) P).2 (cF (climbL u ks j).xl) (cF (climbL u ks j).zl) ∧ RepP e (emul D (nOf ks j + 1) P).2 (cF (climbL u ks j).xh) (cF (climbL u ks j).zh)
  | 0 => by
    have f2 := fi_mul two_ne
    refine ⟨⟨e * fi 2, e*2, g_b1 h.ee f2, g_b0 h.ee f2, g_b2⟩, ?_⟩
    have e1 : emul D (nOf ks 0 + 1) P = P := zero_eadd D P
    rw [e1]
    have f := fi_mul h.y2
    exact ⟨fi (1 - P.2), 1 - P.2, by rw [Fin.mul_comm]; exact f, g_b3 h.hu f, g_b4 f⟩
  | j + 1 => by
    have ih := climb_rep h hu ks j
    have hok := climbL_ok u hu ks j
    have o1 := emul_on h.ns h.on (nOf ks j)
    have o2 := emul_on h.ns h.on (nOf ks j + 1)
    have rel := next_rel (R := emul D (nOf ks j + 1) P) h.ns h.on o1 rfl
    have e2 : eadd D (emul D (nOf ks j) P) (emul D (nOf ks j) P) = emul D (2 * nOf ks j) P := by rw [← emul_add h.ns h.on, Nat.two_mul]
    have e3 : eadd D (emul D (nOf ks j) P) (emul D (nOf ks j + 1) P) = emul D (2 * nOf ks j + 1) P := by rw [← emul_add h.ns h.on]; congr 1; omega
    have e4 : eadd D (emul D (nOf ks j + 1) P) (emul D (nOf ks j) P) = emul D (2 * nOf ks j + 1) P := by rw [← emul_add h.ns h.on]; congr 1; omega
    have e5 : eadd D (emul D (nOf ks j + 1) P) (emul D (nOf ks j + 1) P) = emul D (2 * nOf ks j + 1 + 1) P := by rw [← emul_add h.ns h.on]; congr 1; omega
    unfold climbL nOf rungL
    by_cases hb : bitN ks (254 - j) = true
    · rw [if_pos hb, if_pos hb]
      have r := stepL_rep h o2 o1 (g_swap rel) (s := (climbL u ks j).flip) ⟨hok.xh, hok.zh, hok.xl, hok.zl⟩ ih.2 ih.1
      rw [e4, e5] at r
      exact ⟨r.2, r.1⟩
    · rw [if_neg hb, if_neg hb]
      have r := stepL_rep h o1 o2 rel hok ih.1 ih.2
      rw [e2, e3] at r
      exact r
theorem fi_zero : fi 0 = 0 := Fin.ext (finv_zero rfl)
/-- A point's u; 0 of the point that has none. -/
def uOf (e : Fp) (y : Fp) : Fp := e*(1+y)*fi (1-y)
theorem mulL_u {e D : Fp} {P : Fp × Fp} {u : Nat} (h : HasU e D P u) (hu : u < pF) (ks : Nat → Nat) : cF (mulL ks u) = uOf e (emul D (nOf ks 255) P).2 := by
  obtain ⟨s, si, hs, hX, hZ⟩ := (climb_rep h hu ks 255).1
  unfold mulL uOf
  rw [cF_mul, cF_inv _ (climbL_ok u hu ks 255).zl]
  generalize cF (climbL u ks 255).xl = X at *
  generalize cF (climbL u ks 255).zl = Z at *
  generalize (emul D (nOf ks 255) P).2 = y at *
  by_cases hy : 1 - y = 0
  · rw [hy, Fin.mul_zero] at hZ
    rw [hy, hZ, fi_zero, Fin.mul_zero, Fin.mul_zero]
  · have hz : Z ≠ 0 := by rw [hZ]; exact fp_ne (fp_unit hs) hy
    exact g_val hs hX hZ (fi_mul hz) (fi_mul hy)
end Go.Proofs.Ytjbjbnooocbleaa
