/- Each u but 0 has a point; multiples of multiples do not care about order. -/
import Derived.Test.YtjbjbnooocbleaaEdD
namespace Go.Proofs.Ytjbjbnooocbleaa
def kQ : Nat := 7237005577332262213973186563042994240829374041602535252466099000494570602493
theorem kQ_eq : 8 * kQ + 5 = pF := by decide
theorem c0_euler : 236839902240 ^ (4 * kQ + 2) % pF = pF - 1 := by
  have h := pm_eq pF 236839902240 255 (4 * kQ + 2) (by decide)
  exact h.symm.trans (by kernel_rfl)
theorem fp_val (a b : Fp) : (a * b).val = a.val * b.val % pF := Fin.val_mul a b
theorem pow_sq_one {z h : Nat} (hh : 2 * h + 1 = pF) (hz : ¬pF ∣ z) : (z * z % pF) ^ h % pF = 1 := by
  rw [powm, ← Nat.pow_two, ← Nat.pow_mul, show 2 * h = pF - 1 by omega, prime_p.fermat1 hz]; decide
theorem ns_c0 : NS (236839902240 : Fp) := fun z hz => by
  have hv := congrArg Fin.val hz
  rw [fp_val] at hv
  have hz0 : ¬pF ∣ z.val := fun hd => by
    have h0 : z.val = 0 := by
      rcases Nat.eq_zero_or_pos z.val with h | h
      · exact h
      · have := Nat.le_of_dvd h hd; have := z.isLt; omega
    rw [h0] at hv
    exact absurd hv (by decide)
  have h1 := pow_sq_one (h := 4 * kQ + 2) (by decide) hz0
  rw [hv] at h1
  have h2 : (236839902240 : Fp).val = 236839902240 := by decide
  rw [h2, c0_euler] at h1
  exact absurd h1 (by decide)
theorem pm_one : (pF - 1) * (pF - 1) % pF = 1 := by kernel_rfl
theorem dich (c : Fp) (hc : c ≠ 0) : (∃ r : Fp, r * r = c) ∨ (∃ r : Fp, r * r = c * 236839902240) := by
  have hd : ¬pF ∣ c.val := fun hd => by
    rcases Nat.eq_zero_or_pos c.val with h | h
    · exact hc (Fin.ext h)
    · have := Nat.le_of_dvd h hd; have := c.isLt; omega
  have up : ∀ d : Fp, d.val ^ (4 * kQ + 2) % pF = 1 → ∃ r : Fp, r * r = d := fun d h => by
    obtain ⟨r, hr, he⟩ := root_nat kQ_eq d.isLt h
    exact ⟨⟨r, hr⟩, Fin.ext (by rw [fp_val]; exact he)⟩
  rcases euler_or (h := 4 * kQ + 2) (by decide) hd with h | h
  · exact .inl (up c h)
  · right
    refine up _ ?_
    have h2 : (236839902240 : Fp).val = 236839902240 := by decide
    rw [fp_val, h2, powm, Nat.mul_pow, Nat.mul_mod, h, c0_euler]
    exact pm_one
section
variable {n : Nat} [NeZero n]
theorem g_on {u r a D g gi v : Fin n} (hv : (u+1)*v = 1) (hg : g*gi = 1) (hgd : g = u*(u*u+(a-2)*u+1)) (hr : r*r = a*g) (hD : D*a = a-4) : (u*r*gi)^2 + ((u-1)*v)^2 = 1 + D*(u*r*gi)^2*((u-1)*v)^2 := by
  have q : (u*r*gi)^2 = u*u*a*gi := by clear hv hgd hD; grind
  have q2 : D*(u*r*gi)^2 = u*u*(a-4)*gi := by rw [q]; clear hv hgd hr q hg; grind
  have q3 : u*(u*u+(a-2)*u+1)*gi = 1 := by rw [← hgd]; exact hg
  rw [q2, q]
  clear q q2 hr hD hg hgd
  have q4 : (u*u*a*gi + ((u-1)*v)^2)*((u+1)*(u+1)) = (1 + u*u*(a-4)*gi*((u-1)*v)^2)*((u+1)*(u+1)) := by grind
  generalize u*u*a*gi + ((u-1)*v)^2 = L at *
  generalize 1 + u*u*(a-4)*gi*((u-1)*v)^2 = R at *
  clear q3
  generalize u+1 = w at *
  grind
theorem g_y {u v : Fin n} (hv : (u+1)*v = 1) : 1 - (u-1)*v = 2*v ∧ 1 + (u-1)*v = 2*u*v := by constructor <;> grind
theorem g_hu {e c U v : Fin n} (he : e*e = 1) (hU : U = e*c) (hv : (U+1)*v = 1) : c*(1-(U-1)*v) = e*(1+(U-1)*v) := by
  rw [(g_y hv).1, (g_y hv).2, hU]; clear hv hU; grind
theorem g_ns {z D a b c : Fin n} (hz : z*z = D) (hD : D*a = b) (hc : a*b = c) : (z*a)*(z*a) = c := by grind
theorem g_r {r a b c g i : Fin n} (hr : r*r = a*g*c) (hc : a*b = c) (hi : a*i = 1) : (r*i)*(r*i) = b*g := by grind
theorem g_quad {u A c : Fin n} (h : u*u + A*u + 1 = 0) (hc : A*A - 4 = c) : (2*u+A)*(2*u+A) = c := by grind
end
theorem hasU_of {e D c U r a G : Fp} {u : Nat} (hc : cF u = c) (he : e*e = 1) (hU : U = e*c) (hU0 : U ≠ 0) (hU1 : U + 1 ≠ 0) (hG : G = U*(U*U+(a-2)*U+1)) (hG0 : G ≠ 0) (hr : r*r = a*G) (hD : D*a = a-4) (hns : NS D) (hda : D*(486662+2*e) = 486662-2*e) (hne : (486662+2*e : Fp) ≠ 0) :
    HasU e D (U*r*fi G, (U-1)*fi (U+1)) u := by
  have hv := fi_mul hU1
  have y := g_y hv
  have hv0 : fi (U+1) ≠ 0 := fun h0 => by
    rw [h0, Fin.mul_zero] at hv
    exact absurd hv (by decide)
  refine ⟨he, hns, hda, hne, g_on hv (fi_mul hG0) hG hr hD, ?_, ?_, ?_⟩
  · rw [hc]; exact g_hu he hU hv
  · show 1 + (U-1)*fi (U+1) ≠ 0
    rw [y.2]; exact fp_ne (fp_ne two_ne hU0) hv0
  · show 1 - (U-1)*fi (U+1) ≠ 0
    rw [y.1]; exact fp_ne two_ne hv0
theorem am_ne : (486660 : Fp) ≠ 0 := by decide
theorem ap_ne : (486664 : Fp) ≠ 0 := by decide
section
variable {n : Nat} [NeZero n]
theorem g_G1 {c : Fin n} : c*(c*c+486662*c+1) = c*(c*c+(486664-2)*c+1) := by grind
theorem g_D1 {D : Fin n} (h : D*486664 = 486660) : D*486664 = 486664-4 ∧ D*(486662+2*1) = 486662-2*1 := by constructor <;> grind
theorem g_u1 {c : Fin n} (h : c + 1 = 0) : c*(c*c+486662*c+1) = 486660 := by grind
theorem g_u2 {c : Fin n} (h : (0-1)*c + 1 = 0) : c*(c*c+486662*c+1) = 486664 := by grind
theorem g_G2 {c r : Fin n} (hr : r*r = 486660*(c*(c*c+486662*c+1))) : r*r = (0-486660)*(((0-1)*c)*(((0-1)*c)*((0-1)*c)+((0-486660)-2)*((0-1)*c)+1)) := by grind
theorem g_G3 {c : Fin n} (h : ((0-1)*c)*(((0-1)*c)*((0-1)*c)+((0-486660)-2)*((0-1)*c)+1) = 0) : c*(c*c+486662*c+1) = 0 := by grind
theorem g_D2 {D : Fin n} (h : D*486660 = 486664) : D*(0-486660) = (0-486660)-4 ∧ D*(486662+2*(0-1)) = 486662-2*(0-1) := by constructor <;> grind
theorem g_m1 : (0-1)*(0-1) = (1 : Fin n) := by grind
theorem g_m2 {c : Fin n} (h : (0-1)*c = 0) : c = 0 := by grind
theorem g_m3 : (486662 + 2*(0-1) : Fin n) = 486660 := by grind
theorem g_m4 : (486662 + 2*1 : Fin n) = 486664 := by grind
theorem g_y0 {y : Fin n} (h : 1 - y = 0) : y = 1 := by grind
theorem g_y1 {y : Fin n} (h : 1 + y = 0) : y = 0 - 1 := by grind
theorem g_h1 {D y z : Fin n} : 1 - D*0*0*y*z = 1 := by grind
theorem g_h2 {D y z : Fin n} : 1 + D*0*0*y*z = 1 := by grind
theorem g_h3 {y z : Fin n} : (0*z + 0*y)*1 = 0 := by grind
theorem g_h4 {y z : Fin n} (h : y*y = 1) (k : z*z = 1) : ((y*z - 0*0)*1)*((y*z - 0*0)*1) = 1 := by grind
theorem g_u {e y f : Fin n} (h : (1-y)*f = 1) : e*(1+y)*f*(1-y) = e*(1+y) := by grind
theorem g_inv {a b i : Fin n} (h : a*i = 1) : b*i*a = b := by grind
end
theorem c0_prod : (486664 : Fp) * 486660 = 236839902240 := by decide
theorem c0_prod2 : (486660 : Fp) * 486664 = 236839902240 := by decide
theorem c0_quad : (486662 : Fp) * 486662 - 4 = 236839902240 := by decide
/-- Each u but 0 has a point. -/
theorem has_point (u : Nat) (hu : u < pF) (h0 : u ≠ 0) : ∃ e D P, HasU e D P u := by
  obtain ⟨c, hc⟩ : ∃ c, cF u = c := ⟨_, rfl⟩
  have c0 : c ≠ 0 := fun h => h0 (cF_inj hu (by decide) (by rw [hc, h]; decide))
  have hq : c*c + 486662*c + 1 ≠ 0 := fun h => ns_c0 _ (g_quad h c0_quad)
  have hg : c*(c*c+486662*c+1) ≠ 0 := fp_ne c0 hq
  have mk1 : ∀ r : Fp, r*r = 486664*(c*(c*c+486662*c+1)) → ∃ e D P, HasU e D P u := fun r hr => by
    have hD : (486660 * fi 486664 : Fp)*486664 = 486660 := g_inv (fi_mul ap_ne)
    have hns : NS (486660 * fi 486664 : Fp) := fun z hz => ns_c0 _ (g_ns hz hD c0_prod)
    have d := g_D1 hD
    have h1 : c + 1 ≠ 0 := fun h => by
      rw [g_u1 h, c0_prod] at hr
      exact ns_c0 r hr
    rw [g_G1] at hr hg
    exact ⟨1, _, _, hasU_of (G := c*(c*c+(486664-2)*c+1)) hc (Fin.mul_one 1) (Fin.one_mul c).symm c0 h1 rfl hg hr d.1 hns d.2 (by rw [g_m4]; exact ap_ne)⟩
  have mk2 : ∀ r : Fp, r*r = 486660*(c*(c*c+486662*c+1)) → ∃ e D P, HasU e D P u := fun r hr => by
    have hD : (486664 * fi 486660 : Fp)*486660 = 486664 := g_inv (fi_mul am_ne)
    have hns : NS (486664 * fi 486660 : Fp) := fun z hz => ns_c0 _ (g_ns hz hD c0_prod2)
    have d := g_D2 hD
    have h1 : (0-1)*c + 1 ≠ 0 := fun h => by
      rw [g_u2 h, c0_prod2] at hr
      exact ns_c0 r hr
    exact ⟨0-1, _, _, hasU_of (U := (0-1)*c) hc g_m1 rfl (fun h => c0 (g_m2 h)) h1 rfl (fun h => hg (g_G3 h)) (g_G2 hr) d.1 hns d.2 (by rw [g_m3]; exact am_ne)⟩
  rcases dich (486664*(c*(c*c+486662*c+1))) (fp_ne ap_ne hg) with ⟨r, hr⟩ | ⟨r, hr⟩
  · exact mk1 r hr
  · exact mk2 (r * fi 486664) (g_r hr c0_prod (fi_mul ap_ne))
/-- The points whose u is 0. -/
theorem uOf_zero {e D : Fp} (he : e*e = 1) (hD : NS D) {Q : Fp × Fp} (hQ : On D Q) (h : uOf e Q.2 = 0) : Q = (0, 1) ∨ Q = (0, 0-1) := by
  have hx : ∀ y : Fp, y*y = 1 → Q.2 = y → Q.1 = 0 := fun y hy hq => by
    have e1 : (1 - D*1*1)*(Q.1*Q.1) = 0 := by
      have := hQ
      unfold On at this
      rw [hq] at this
      clear hQ h hq he hD
      generalize Q.1 = x at *
      grind
    have := (fp_zero e1).resolve_left (ns_one hD)
    exact (fp_zero this).elim id id
  unfold uOf at h
  by_cases h1 : 1 - Q.2 = 0
  · left
    have hy : Q.2 = 1 := g_y0 h1
    exact Prod.ext (hx 1 (by decide) hy) hy
  · right
    have hf : fi (1 - Q.2) ≠ 0 := fun h0 => by
      have := fi_mul h1
      rw [h0, Fin.mul_zero] at this
      exact absurd this (by decide)
    have h2 := (fp_zero h).resolve_right hf
    have h3 := (fp_zero h2).resolve_left (fp_unit he)
    have hy : Q.2 = 0 - 1 := g_y1 h3
    exact Prod.ext (hx (0-1) g_m1 hy) hy
theorem eadd_half {D : Fp} {P Q : Fp × Fp} (hP : P.1 = 0 ∧ P.2*P.2 = 1) (hQ : Q.1 = 0 ∧ Q.2*Q.2 = 1) : (eadd D P Q).1 = 0 ∧ (eadd D P Q).2*(eadd D P Q).2 = 1 := by
  unfold eadd
  simp only
  rw [hP.1, hQ.1]
  have e1 : (1 - D*0*0*P.2*Q.2 : Fp) = 1 := g_h1
  have e2 : (1 + D*0*0*P.2*Q.2 : Fp) = 1 := g_h2
  rw [e1, e2, fi_one]
  exact ⟨g_h3, g_h4 hP.2 hQ.2⟩
theorem emul_half {D : Fp} {P : Fp × Fp} (hP : P.1 = 0 ∧ P.2*P.2 = 1) : ∀ n, (emul D n P).1 = 0 ∧ (emul D n P).2*(emul D n P).2 = 1
  | 0 => ⟨rfl, (by decide : (1 : Fp)*1 = 1)⟩
  | n + 1 => eadd_half (emul_half hP n) hP
theorem uOf_half {e y : Fp} (h : y*y = 1) : uOf e y = 0 := by
  unfold uOf
  have h1 : (1 - y)*(1 + y) = 0 := by grind
  rcases fp_zero h1 with h2 | h2
  · rw [h2, fi_zero, Fin.mul_zero]
  · rw [h2, Fin.mul_zero, Fin.zero_mul]
theorem mulL_less (ks : Nat → Nat) (u : Nat) : mulL ks u < pF := fmul_lt _ _
/-- A multiple that has a u other than 0 is a point with that u. -/
theorem HasU.next {e D : Fp} {P : Fp × Fp} {u : Nat} (h : HasU e D P u) (hu : u < pF) (ks : Nat → Nat) (h0 : mulL ks u ≠ 0) : HasU e D (emul D (nOf ks 255) P) (mulL ks u) := by
  have hm := mulL_u h hu ks
  have hc0 : cF (mulL ks u) ≠ 0 := fun e0 => h0 (cF_inj (mulL_less _ _) (by decide) (by rw [e0]; decide))
  have hon := emul_on h.ns h.on (nOf ks 255)
  generalize emul D (nOf ks 255) P = Q at *
  have h1 : 1 - Q.2 ≠ 0 := fun e0 => hc0 (by rw [hm]; unfold uOf; rw [e0, fi_zero, Fin.mul_zero])
  have h2 : 1 + Q.2 ≠ 0 := fun e0 => hc0 (by rw [hm]; unfold uOf; rw [e0, Fin.mul_zero, Fin.zero_mul])
  refine ⟨h.ee, h.ns, h.da, h.ne, hon, ?_, h2, h1⟩
  rw [hm]
  exact g_u (fi_mul h1)
/-- So many times so many is the same both ways. -/
theorem mulL_comm (ka kb : Nat → Nat) (u : Nat) (hu : u < pF) : mulL kb (mulL ka u) = mulL ka (mulL kb u) := by
  by_cases h0 : u = 0
  · simp only [h0, mulL_zero]
  obtain ⟨e, D, P, h⟩ := has_point u hu h0
  have zero : ∀ ks : Nat → Nat, mulL ks u = 0 → (emul D (nOf ks 255) P).1 = 0 ∧ (emul D (nOf ks 255) P).2*(emul D (nOf ks 255) P).2 = 1 := fun ks hz => by
    have hm := mulL_u h hu ks
    rw [hz, show cF 0 = 0 by decide] at hm
    rcases uOf_zero h.ee h.ns (emul_on h.ns h.on _) hm.symm with e1 | e1
    · rw [e1]; exact ⟨rfl, by decide⟩
    · rw [e1]; exact ⟨rfl, g_m1⟩
  by_cases ha : mulL ka u = 0
  · by_cases hb : mulL kb u = 0
    · simp only [ha, hb, mulL_zero]
    · rw [ha, mulL_zero]
      have hm := mulL_u (h.next hu kb hb) (mulL_less _ _) ka
      rw [emul_comm h.ns h.on, uOf_half (emul_half (zero ka ha) _).2] at hm
      exact (cF_inj (mulL_less _ _) (by decide) (by rw [hm]; decide)).symm
  · by_cases hb : mulL kb u = 0
    · rw [hb, mulL_zero]
      have hm := mulL_u (h.next hu ka ha) (mulL_less _ _) kb
      rw [emul_comm h.ns h.on, uOf_half (emul_half (zero kb hb) _).2] at hm
      exact cF_inj (mulL_less _ _) (by decide) (by rw [hm]; decide)
    · have m1 := mulL_u (h.next hu ka ha) (mulL_less _ _) kb
      have m2 := mulL_u (h.next hu kb hb) (mulL_less _ _) ka
      rw [emul_comm h.ns h.on, ← m2] at m1
      exact cF_inj (mulL_less _ _) (mulL_less _ _) m1
end Go.Proofs.Ytjbjbnooocbleaa
