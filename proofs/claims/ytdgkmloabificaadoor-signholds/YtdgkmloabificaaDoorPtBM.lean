/- What the proof stands on: PtB, PtC, RQ, RRatio, REnc6, Api, Know, Lent, Sums, RootRef, RootFit, RootQ, RootQA, RRatioA, RDec6, PtD7, SqMath. -/
import Derived.Test.YtdgkmloabificaaDoorBaseM
import Derived.Test.YtdgkmloabificaaDoorBothM
import Derived.WideShapes
namespace Go.Proofs.YtdgkmloabificaaDoor
def kQ : Nat := 7237005577332262213973186563042994240829374041602535252466099000494570602493
theorem c0_euler : 236839902240 ^ (4 * kQ + 2) % pF = pF - 1 := by
 have h := pm_eq pF 236839902240 255 (4 * kQ + 2) (by decide)
 exact h.symm.trans (by kernel_rfl)
theorem fp_val (a b : Fp) : (a * b).val = a.val * b.val % pF := Fin.val_mul a b
theorem pow_sq_one {z h : Nat} (hh : 2 * h + 1 = pF) (hz : ¬pF ∣ z) : (z * z % pF) ^ h % pF = 1 := by
 rw [powm, ← Nat.pow_two, ← Nat.pow_mul, show 2 * h = pF - 1 by omega, prime_p.fermat1 hz]; decide
theorem ns_c0 : NS (236839902240 : Fp) := fun z hz => by
 have hv := congrArg Fin.val hz
 rw [fp_val] at hv
 have hz0 : ¬pF ∣ z.val := fun hd => by
  have h0 : z.val = 0 := by
   rcases Nat.eq_zero_or_pos z.val with h | h
   · exact h
   · have := Nat.le_of_dvd h hd; have := z.isLt; omega
  rw [h0] at hv
  exact absurd hv (by decide)
 have h1 := pow_sq_one (h := 4 * kQ + 2) (by decide) hz0
 rw [hv] at h1
 have h2 : (236839902240 : Fp).val = 236839902240 := by decide
 rw [h2, c0_euler] at h1
 exact absurd h1 (by decide)
theorem g_ns {n : Nat} [NeZero n] {z D a b c : Fin n} (hz : z*z = D) (hD : D*a = b) (hc : a*b = c) : (z*a)*(z*a) = c := by grind
/-- The curve's number, with the sign that the group of PtA wants: 121665 by 121666. -/
def dE : Fp := 121665 * fi 121666
theorem dE_ne : (121666 : Fp) ≠ 0 := by decide
theorem dE_mul : dE * 121666 = 121665 := by
 unfold dE
 have h := fi_mul dE_ne
 generalize fi (121666 : Fp) = i at *
 have e : (121665 : Fp) * i * 121666 = 121665 * (121666 * i) := by rw [Fin.mul_assoc, Fin.mul_comm i]
 rw [e, h, Fin.mul_one]
theorem four_mul {n : Nat} [NeZero n] {D a b : Fin n} (h : D * a = b) : D * (4 * a) = 4 * b := by grind
theorem dE_mul4 : dE * 486664 = 486660 := by
 have h := four_mul dE_mul
 rwa [show (4 : Fp) * 121666 = 486664 from by decide, show (4 : Fp) * 121665 = 486660 from by decide] at h
theorem ns_dE : NS dE := fun z hz => ns_c0 (z * 486664) (g_ns hz dE_mul4 (by decide))
/-- A root of -1. -/
def iI : Fp := cF iM
theorem iI_sq : iI * iI = 0 - 1 := by decide
/-- Four numbers that stand for a point. -/
structure Ext (X Y Z T : Fp) (P : Fp × Fp) : Prop where
 z : Z ≠ 0
 x : iI * X = P.1 * Z
 y : Y = P.2 * Z
 t : T * Z = X * Y
section
variable {n : Nat} [NeZero n]
theorem x_of {i X p Z : Fin n} (hi : i*i = 0-1) (h : i*X = p*Z) : X = (0-1)*i*p*Z := by
 have e : i*(i*X) = i*(p*Z) := by rw [h]
 clear h
 grind
theorem t_of {i X Y Z T p q k : Fin n} (hk : Z*k = 1) (hx : X = (0-1)*i*p*Z) (hy : Y = q*Z) (ht : T*Z = X*Y) : T = (0-1)*i*p*q*Z := by
 have e : T*Z*k = X*Y*k := by rw [ht]
 have e1 : T*Z*k = T := by clear e ht hx hy; grind
 rw [e1, hx, hy] at e
 rw [e]; clear e e1 ht hx hy; grind
theorem e_x {i f g h A p q k : Fin n} (hf : i*f = k*A) (hh : h = k*p) (hq : p*q = 1) : i*(f*g) = (A*q)*(g*h) := by
 have e1 : i*(f*g) = (i*f)*g := by clear hf hh hq; grind
 have e2 : (A*q)*(g*h) = A*k*g*(p*q) := by rw [hh]; clear e1 hf hh hq; grind
 rw [e1, e2, hf, hq]; clear e1 e2 hf hh hq; grind
theorem e_y {g h s B p q k : Fin n} (hs : s = k*B) (hg : g = k*p) (hq : p*q = 1) : h*s = (B*q)*(g*h) := by
 have e2 : (B*q)*(g*h) = B*k*h*(p*q) := by rw [hg]; clear hg hq hs; grind
 rw [e2, hs, hq]; clear e2 hs hg hq; grind
theorem e_t {f g h s : Fin n} : f*s*(g*h) = (f*g)*(h*s) := by grind
end
/-- Whatever way a sum is found: if its four parts are these, times something that is not 0. -/
theorem ext_of {D : Fp} (hD : NS D) {P Q : Fp × Fp} (hP : On D P) (hQ : On D Q) {f g h s k : Fp} (hk : k ≠ 0) (hf : iI*f = k*(P.1*Q.2 + Q.1*P.2)) (hg : g = k*(1 - D*P.1*Q.1*P.2*Q.2)) (hh : h = k*(1 + D*P.1*Q.1*P.2*Q.2)) (hs : s = k*(P.2*Q.2 - P.1*Q.1)) :
 Ext (f*g) (h*s) (g*h) (f*s) (eadd D P Q) :=
 ⟨fp_ne (by rw [hg]; exact fp_ne hk (com_m hD hP hQ)) (by rw [hh]; exact fp_ne hk (com_p hD hP hQ)), e_x hf hh (fi_mul (com_p hD hP hQ)), e_y hs hg (fi_mul (com_m hD hP hQ)), e_t⟩
section
variable {n : Nat} [NeZero n]
theorem s_f {i X1 Y1 Z1 X2 Y2 Z2 p1 p2 q1 q2 : Fin n} (hx1 : i*X1 = p1*Z1) (hy1 : Y1 = p2*Z1) (hx2 : i*X2 = q1*Z2) (hy2 : Y2 = q2*Z2) : i*(X1*Y2 + Y1*X2) = Z1*Z2*(p1*q2 + q1*p2) := by
 have e : i*(X1*Y2 + Y1*X2) = (i*X1)*Y2 + (i*X2)*Y1 := by clear hx1 hy1 hx2 hy2; grind
 rw [e, hx1, hx2, hy1, hy2]; clear e hx1 hy1 hx2 hy2; grind
theorem s_t {i T1 T2 Z1 Z2 p1 p2 q1 q2 d D : Fin n} (hi : i*i = 0-1) (hd : d = 0 - D) (h1 : T1 = (0-1)*i*p1*p2*Z1) (h2 : T2 = (0-1)*i*q1*q2*Z2) : T1*T2*d = Z1*Z2*(D*p1*q1*p2*q2) := by
 have e : T1*T2*d = (i*i)*(p1*p2*q1*q2*Z1*Z2*d) := by rw [h1, h2]; clear h1 h2 hd hi; grind
 rw [e, hi, hd]; clear e h1 h2 hi hd; grind
theorem s_s {i X1 Y1 Z1 X2 Y2 Z2 p1 p2 q1 q2 : Fin n} (hi : i*i = 0-1) (hx1 : X1 = (0-1)*i*p1*Z1) (hy1 : Y1 = p2*Z1) (hx2 : X2 = (0-1)*i*q1*Z2) (hy2 : Y2 = q2*Z2) : Y1*Y2 + X1*X2 = Z1*Z2*(p2*q2 - p1*q1) := by
 have e : X1*X2 = (i*i)*(p1*q1*Z1*Z2) := by rw [hx1, hx2]; clear hx1 hx2 hy1 hy2 hi; grind
 rw [e, hi, hy1, hy2]; clear e hx1 hx2 hy1 hy2 hi; grind
theorem s_fac {a b : Fin n} : a - a*b = a*(1-b) ∧ a + a*b = a*(1+b) := by constructor <;> grind
theorem s_f2 {X1 Y1 X2 Y2 : Fin n} : (X1+Y1)*(X2+Y2) - X1*X2 - Y1*Y2 = X1*Y2 + Y1*X2 := by grind
theorem s_dbl1 {i X Y Z p q : Fin n} (hi : i*i = 0-1) (hx : X = (0-1)*i*p*Z) (hy : Y = q*Z) : Y*Y - X*X = Z*Z*(p*p + q*q) := by
 have e : X*X = (i*i)*(p*p*Z*Z) := by rw [hx]; clear hx hy hi; grind
 rw [e, hi, hy]; clear e hx hy hi; grind
theorem s_on {D p q : Fin n} (h : p^2 + q^2 = 1 + D*p^2*q^2) : p*p + q*q = 1 + D*p*p*q*q := by grind
end
theorem Ext.k {X Y Z T : Fp} {P : Fp × Fp} (h : Ext X Y Z T P) : X = (0-1)*iI*P.1*Z ∧ T = (0-1)*iI*P.1*P.2*Z :=
 ⟨x_of iI_sq h.x, t_of (fi_mul h.z) (x_of iI_sq h.x) h.y h.t⟩
/-- The sum of the document's answer (and of most programs). -/
theorem ext_add {D d : Fp} (hD : NS D) (hd : d = 0 - D) {P Q : Fp × Fp} (hP : On D P) (hQ : On D Q) {X1 Y1 Z1 T1 X2 Y2 Z2 T2 : Fp} (h1 : Ext X1 Y1 Z1 T1 P) (h2 : Ext X2 Y2 Z2 T2 Q) :
 Ext (((X1+Y1)*(X2+Y2) - X1*X2 - Y1*Y2) * (Z1*Z2 - T1*T2*d)) ((Z1*Z2 + T1*T2*d) * (Y1*Y2 + X1*X2)) ((Z1*Z2 - T1*T2*d) * (Z1*Z2 + T1*T2*d)) (((X1+Y1)*(X2+Y2) - X1*X2 - Y1*Y2) * (Y1*Y2 + X1*X2)) (eadd D P Q) := by
 have k1 := h1.k
 have k2 := h2.k
 have hT := s_t iI_sq hd k1.2 k2.2
 refine ext_of hD hP hQ (fp_ne h1.z h2.z) ?_ ?_ ?_ ?_
 · rw [s_f2]; exact s_f h1.x h1.y h2.x h2.y
 · rw [hT]; exact s_fac.1
 · rw [hT]; exact s_fac.2
 · exact s_s iI_sq k1.1 h1.y k2.1 h2.y
theorem one_ne : (1 : Fp) ≠ 0 := by decide
theorem ext_zero : Ext 0 1 1 0 ezero := ⟨one_ne, by unfold ezero; decide, by unfold ezero; decide, by decide⟩
/-- x and y of a point. -/
def xOf (P : Fp × Fp) : Fp := (0-1)*iI*P.1
section
variable {n : Nat} [NeZero n]
theorem q_x {X a Z k : Fin n} (hk : Z*k = 1) (h : X = a*Z) : X*k = a := by
 have e : X*k = a*(Z*k) := by rw [h]; clear h hk; grind
 rw [e, hk]; clear e h hk; grind
theorem same_of {i a b : Fin n} (hi : i*i = 0-1) (h : (0-1)*i*a = (0-1)*i*b) : a = b := by
 have e : i*((0-1)*i*a) = i*((0-1)*i*b) := by rw [h]
 clear h
 have e1 : ∀ c : Fin n, i*((0-1)*i*c) = (0-1)*((i*i)*c) := fun c => by clear e hi; grind
 rw [e1, e1, hi] at e
 clear e1
 grind
theorem cross {X1 Z1 X2 Z2 a b : Fin n} (h1 : X1 = a*Z1) (h2 : X2 = b*Z2) : X1*Z2 = a*(Z1*Z2) ∧ X2*Z1 = b*(Z1*Z2) := by rw [h1, h2]; constructor <;> grind
end
theorem Ext.affine {X Y Z T : Fp} {P : Fp × Fp} (h : Ext X Y Z T P) : X * fi Z = xOf P ∧ Y * fi Z = P.2 :=
 ⟨q_x (fi_mul h.z) h.k.1, q_x (fi_mul h.z) h.y⟩
theorem fp_cancel {a b c : Fp} (hc : c ≠ 0) (h : a*c = b*c) : a = b := by
 have h1 := fi_mul hc
 have e : ∀ x : Fp, x*c*fi c = x := fun x => by rw [Fin.mul_assoc, h1, Fin.mul_one]
 rw [← e a, h, e b]
theorem ext_same {X1 Y1 Z1 T1 X2 Y2 Z2 T2 : Fp} {P Q : Fp × Fp} (h1 : Ext X1 Y1 Z1 T1 P) (h2 : Ext X2 Y2 Z2 T2 Q) : (X1*Z2 = X2*Z1 ∧ Y1*Z2 = Y2*Z1) ↔ P = Q := by
 have hz := fp_ne h1.z h2.z
 have cx := cross (a := xOf P) (b := xOf Q) h1.k.1 h2.k.1
 have cy := cross h1.y h2.y
 constructor
 · intro ⟨hx, hy⟩
   rw [cx.1, cx.2] at hx
   rw [cy.1, cy.2] at hy
   exact Prod.ext (same_of iI_sq (fp_cancel hz hx)) (fp_cancel hz hy)
 · intro e
   rw [cx.1, cx.2, cy.1, cy.2, e]
   exact ⟨rfl, rfl⟩
end Go.Proofs.YtdgkmloabificaaDoor
namespace Go.Proofs.YtdgkmloabificaaDoor
section
variable {n : Nat} [NeZero n]
theorem on_sq {D p q y : Fin n} (h1 : p^2 + y^2 = 1 + D*p^2*y^2) (h2 : q^2 + y^2 = 1 + D*q^2*y^2) : ((p-q)*(p+q))*(1 - D*y*y) = 0 := by grind
theorem sub_zero' {a b : Fin n} (h : a - b = 0) : a = b := by grind
theorem add_zero' {a b : Fin n} (h : a + b = 0) : a = 0 - b := by grind
theorem neg_x {i a b : Fin n} (h : a = 0 - b) : (0-1)*i*a + (0-1)*i*b = 0 := by rw [h]; clear h; grind
theorem on_back {i x y D d : Fin n} (hi : i*i = 0-1) (hd : d = 0 - D) (h : x*x*(d*(y*y) + 1) = y*y - 1) : (i*x)^2 + y^2 = 1 + D*(i*x)^2*y^2 := by
 have e : (i*x)^2 = (i*i)*(x*x) := by clear h hi hd; grind
 rw [e, hi]; rw [hd] at h; clear e hi hd; grind
theorem x_back {i x : Fin n} (hi : i*i = 0-1) : (0-1)*i*(i*x) = x := by
 have e : (0-1)*i*(i*x) = (0-1)*((i*i)*x) := by clear hi; grind
 rw [e, hi]; clear e hi; grind
end
theorem fp_add_zero {a b : Fp} (h : a + b = 0) (hp : a.val % 2 = b.val % 2) : a = 0 := by
 have hv := congrArg Fin.val h
 rw [Fin.val_add] at hv
 have ha := a.isLt
 have hb := b.isLt
 have hodd : pF % 2 = 1 := by decide
 refine Fin.ext ?_
 show a.val = 0
 change (a.val + b.val) % pF = 0 at hv
 generalize a.val = x at *
 generalize b.val = y at *
 clear h a b
 generalize pF = p at *
 rcases Nat.lt_or_ge (x + y) p with h1 | h1
 · rw [Nat.mod_eq_of_lt h1] at hv; omega
 · have : (x + y - p) % p = 0 := by rw [← Nat.mod_eq_sub_mod h1]; exact hv
   rw [Nat.mod_eq_of_lt (by omega)] at this
   omega
/-- Two points with the same y, whose x are both odd or both even, are one. -/
theorem enc_inj {D : Fp} (hD : NS D) {P Q : Fp × Fp} (hP : On D P) (hQ : On D Q) (hy : P.2 = Q.2) (hx : (xOf P).val % 2 = (xOf Q).val % 2) : P = Q := by
 obtain ⟨p, y⟩ := P
 obtain ⟨q, y'⟩ := Q
 simp only at hy
 subst hy
 unfold On at hP hQ
 simp only at hP hQ
 unfold xOf at hx
 simp only at hx
 have h := (fp_zero (on_sq hP hQ)).resolve_right (ns_one hD)
 rcases fp_zero h with h1 | h1
 · rw [sub_zero' h1]
 · have e := add_zero' h1
   have h0 := fp_add_zero (neg_x (i := iI) e) hx
   have hp : p = 0 := same_of iI_sq (h0.trans (by rw [Fin.mul_zero]))
   have hq : q = 0 := by
    have e2 : (0-1)*iI*q = 0 := by
     have := neg_x (i := iI) e
     rw [h0, Fin.zero_add] at this
     exact this
    exact same_of iI_sq (e2.trans (by rw [Fin.mul_zero]))
   rw [hp, hq]
/-- Four numbers below p. -/
structure N4 where
 X : Nat
 Y : Nat
 Z : Nat
 T : Nat
structure N4.Ok (p : N4) : Prop where
 X : p.X < pF
 Y : p.Y < pF
 Z : p.Z < pF
 T : p.T < pF
def Ext4 (p : N4) (P : Fp × Fp) : Prop := Ext (cF p.X) (cF p.Y) (cF p.Z) (cF p.T) P
/-- The document's d. -/
def dN : Nat := 37095705934669439343138083508754565189542113879843219016388785533085940283555
theorem dN_lt : dN < pF := by decide
theorem dN_eq : cF dN = 0 - dE := by
 have h : cF dN * 121666 = 0 - 121665 := by decide
 refine fp_cancel dE_ne ?_
 rw [h]
 have e : (0 - dE) * 121666 = 0 - dE * 121666 := by generalize dE = D; generalize (121666 : Fp) = k; grind
 rw [e, dE_mul]
def subXY (p q : N4) : Nat := fsub (fsub (fmul (fadd p.X p.Y) (fadd q.X q.Y)) (fmul p.X q.X)) (fmul p.Y q.Y)
/-- The sum. -/
def addN (d : Nat) (p q : N4) : N4 :=
 ⟨fmul (subXY p q) (fsub (fmul p.Z q.Z) (fmul (fmul p.T q.T) d)), fmul (fadd (fmul p.Z q.Z) (fmul (fmul p.T q.T) d)) (fadd (fmul p.Y q.Y) (fmul p.X q.X)),
  fmul (fsub (fmul p.Z q.Z) (fmul (fmul p.T q.T) d)) (fadd (fmul p.Z q.Z) (fmul (fmul p.T q.T) d)), fmul (subXY p q) (fadd (fmul p.Y q.Y) (fmul p.X q.X))⟩
theorem addN_ok (d : Nat) (p q : N4) : (addN d p q).Ok := ⟨fmul_lt _ _, fmul_lt _ _, fmul_lt _ _, fmul_lt _ _⟩
theorem addN_ext {p q : N4} {P Q : Fp × Fp} (hP : On dE P) (hQ : On dE Q) (h1 : Ext4 p P) (h2 : Ext4 q Q) : Ext4 (addN dN p q) (eadd dE P Q) := by
 unfold Ext4 addN subXY
 simp only [cF_mul, cF_add, cF_sub _ _ (fmul_lt _ _)]
 exact ext_add ns_dE dN_eq hP hQ h1 h2
theorem cF_zero : cF 0 = 0 := by decide
theorem cF_one : cF 1 = 1 := by decide
def zeroN : N4 := ⟨0, 1, 1, 0⟩
theorem zeroN_ok : zeroN.Ok := ⟨by decide, by decide, by decide, by decide⟩
theorem zeroN_ext : Ext4 zeroN ezero := by
 unfold Ext4 zeroN
 simp only [cF_zero, cF_one]
 exact ext_zero
/-- x and y as numbers. -/
theorem val_cF {a : Nat} (h : a < pF) : (cF a).val = a := Nat.mod_eq_of_lt h
theorem enc_xy {p : N4} {P : Fp × Fp} (hp : p.Ok) (h : Ext4 p P) : fmul p.X (finv p.Z) = (xOf P).val ∧ fmul p.Y (finv p.Z) = P.2.val := by
 have a := Ext.affine h
 rw [← cF_inv _ hp.Z, ← cF_mul, ← cF_mul] at a
 exact ⟨by rw [← a.1, val_cF (fmul_lt _ _)], by rw [← a.2, val_cF (fmul_lt _ _)]⟩
/-- A point's bytes. -/
def encB (P : Fp × Fp) (j : Nat) : Nat := if j = 31 then byt P.2.val 31 + 128 * ((xOf P).val % 2) else byt P.2.val j
/-- Points of x and y. -/
def ofXY (x y : Nat) : N4 := ⟨x, y, 1, fmul x y⟩
theorem ofXY_ok {x y : Nat} (hx : x < pF) (hy : y < pF) : (ofXY x y).Ok := ⟨hx, hy, (show 1 < pF by decide), fmul_lt _ _⟩
def ptXY (x y : Nat) : Fp × Fp := (iI * cF x, cF y)
theorem ofXY_ext (x y : Nat) : Ext4 (ofXY x y) (ptXY x y) := by
 unfold Ext4 ofXY
 simp only [cF_one, cF_mul]
 exact ⟨one_ne, by show iI * cF x = iI * cF x * 1; rw [Fin.mul_one], by show cF y = cF y * 1; rw [Fin.mul_one], by rw [Fin.mul_one]⟩
theorem ptXY_on {x y : Nat} (h : cF x * cF x * (cF dN * (cF y * cF y) + 1) = cF y * cF y - 1) : On dE (ptXY x y) := on_back iI_sq dN_eq h
theorem ptXY_x {x : Nat} (y : Nat) (hx : x < pF) : (xOf (ptXY x y)).val = x := by
 unfold xOf ptXY
 simp only
 rw [x_back iI_sq, val_cF hx]
theorem ptXY_y (x : Nat) {y : Nat} (hy : y < pF) : (ptXY x y).2.val = y := val_cF hy
/-- The number that 256 bits from the highest on tell, so many of them. -/
def nB (ks : Nat → Nat) : Nat → Nat
 | 0 => 0
 | j + 1 => 2 * nB ks j + ks ((255 - j) / 8) / 2 ^ ((255 - j) % 8) % 2
theorem ofB_bit (ks : Nat → Nat) (hk : ∀ j, ks j < 256) : ∀ n i, i < 8 * n → ofB ks n / 2 ^ i % 2 = ks (i / 8) / 2 ^ (i % 8) % 2
 | 0, i, h => by omega
 | n + 1, i, h => by
  have ih := ofB_bit ks hk n
  have hl := ofB_lt ks hk n
  unfold ofB
  have e256 : 256 ^ n = 2 ^ (8 * n) := by rw [Nat.pow_mul]
  by_cases hi : i < 8 * n
  · rw [← ih i hi, e256]
    obtain ⟨d, hd⟩ : ∃ d, 8 * n = i + (d + 1) := ⟨8 * n - i - 1, by omega⟩
    rw [hd, Nat.pow_add, Nat.mul_assoc, Nat.add_mul_div_left _ _ (Nat.two_pow_pos i), Nat.pow_succ, Nat.mul_comm (2 ^ d) 2, Nat.mul_assoc, Nat.add_mul_mod_self_left]
  · obtain ⟨d, rfl⟩ : ∃ d, i = 8 * n + d := ⟨i - 8 * n, by omega⟩
    have hd : d < 8 := by omega
    rw [show (8 * n + d) / 8 = n by omega, show (8 * n + d) % 8 = d by omega, Nat.pow_add, ← Nat.div_div_eq_div_mul, ← e256, Nat.add_mul_div_left _ _ (Nat.pow_pos (by decide)), Nat.div_eq_of_lt hl, Nat.zero_add]
theorem nB_eq (ks : Nat → Nat) (hk : ∀ j, ks j < 256) : ∀ j, j ≤ 256 → nB ks j = ofB ks 32 / 2 ^ (256 - j)
 | 0, _ => by
  have := ofB_lt ks hk 32
  rw [nB, Nat.div_eq_of_lt]
  exact Nat.lt_of_lt_of_le this (by decide)
 | j + 1, h => by
  have ih := nB_eq ks hk j (by omega)
  unfold nB
  rw [ih, ← ofB_bit ks hk 32 (255 - j) (by omega), show 256 - j = (255 - j) + 1 by omega, show 256 - (j + 1) = 255 - j by omega, Nat.pow_succ, ← Nat.div_div_eq_div_mul]
  omega
theorem nB_all (ks : Nat → Nat) (hk : ∀ j, ks j < 256) : nB ks 256 = ofB ks 32 := by
 rw [nB_eq ks hk 256 (Nat.le_refl _), Nat.sub_self, Nat.pow_zero, Nat.div_one]
/-- Bit by bit, from the highest on. -/
def mulN (d : Nat) (p : N4) (ks : Nat → Nat) : Nat → N4
 | 0 => zeroN
 | j + 1 => if ks ((255 - j) / 8) / 2 ^ ((255 - j) % 8) % 2 = 1 then addN d (addN d (mulN d p ks j) (mulN d p ks j)) p else addN d (mulN d p ks j) (mulN d p ks j)
theorem mulN_ext {p : N4} {P : Fp × Fp} (hP : On dE P) (h : Ext4 p P) (ks : Nat → Nat) : ∀ j, Ext4 (mulN dN p ks j) (emul dE (nB ks j) P)
 | 0 => zeroN_ext
 | j + 1 => by
  have ih := mulN_ext hP h ks j
  have on := emul_on ns_dE hP (nB ks j)
  have e2 : eadd dE (emul dE (nB ks j) P) (emul dE (nB ks j) P) = emul dE (2 * nB ks j) P := by rw [← emul_add ns_dE hP, Nat.two_mul]
  have d2 := addN_ext on on ih ih
  rw [e2] at d2
  unfold mulN nB
  by_cases hb : ks ((255 - j) / 8) / 2 ^ ((255 - j) % 8) % 2 = 1
  · rw [if_pos hb, hb]
    exact addN_ext (emul_on ns_dE hP _) hP d2 h
  · rw [if_neg hb, show ks ((255 - j) / 8) / 2 ^ ((255 - j) % 8) % 2 = 0 by omega]
    exact d2
end Go.Proofs.YtdgkmloabificaaDoor
namespace Go.Proofs.YtdgkmloabificaaDoor
open Go.RowKit
/-- A point's cells. -/
def q64 (X Y Z T : Nat → Int) : List Value := i16 X ++ (i16 Y ++ (i16 Z ++ i16 T))
theorem parts {w : World} {g : Nat} {X Y Z T : Nat → Int} (r : RW w g 0 (q64 X Y Z T)) : RW w g 0 (i16 X) ∧ RW w g 16 (i16 Y) ∧ RW w g 32 (i16 Z) ∧ RW w g 48 (i16 T) := by
 have h1 := RW.right r
 rw [i16_len] at h1
 have h2 := RW.right h1
 rw [i16_len] at h2
 have h3 := RW.right h2
 rw [i16_len] at h3
 exact ⟨RW.left r, RW.left h1, RW.left h2, h3⟩
theorem yields_build4 {P : Program} {ops : Array Oper} {S : World → Prop} {o : Oper} {a : Act} (hw : Region.wanted o (yielded ops a.tmps) = true) (t : TypeId) (x y z u : Operand) (ho : o.op = .build t #[(0, x), (1, y), (2, z), (3, u)]) (a0 a1 a2 a3 : Value) (h0 : a.eval x = a0) (h1 : a.eval y = a1) (h2 : a.eval z = a2) (h3 : a.eval u = a3) (cells : Array Value)
 (hf : P.built t [(0, a0), (1, a1), (2, a2), (3, a3)] = some cells) : YieldsIf P ops S o (.agg cells) a := by
 refine .inl ⟨hw, fun w _ => ?_⟩
 unfold execOp
 simp only [ho, List.map_toArray, List.map_cons, List.map_nil, h0, h1, h2, h3]
 rw [Sem.run_bind, run_build w t _ cells hf]
 rfl
end Go.Proofs.YtdgkmloabificaaDoor
namespace Go.Proofs.YtdgkmloabificaaDoor
open Go.RowKit
theorem byt0_mod (n : Nat) : byt n 0 % 2 = n % 2 := by unfold byt; simp only [Nat.pow_zero, Nat.div_one]; omega
end Go.Proofs.YtdgkmloabificaaDoor
namespace Go.Proofs.YtdgkmloabificaaDoor
open Go.RowKit
/-- New bytes with whatever room behind. -/
def NewC (w w' : World) (v : Value) (n : Nat) (X : Nat → Nat) : Prop := ∃ g cap, v = .slice (some ⟨g, 0, none⟩) n cap ∧ n ≤ cap ∧ w.heap.size ≤ g ∧ RowAt .u8 w' g 0 n X
theorem NewC.bytes {w w' : World} {v : Value} {n : Nat} {X : Nat → Nat} (h : NewC w w' v n X) (h0 : 0 < n) : BytesIn w' v n X := by
 obtain ⟨g, cap, rfl, hc, -, hr⟩ := h
 exact .inr ⟨g, 0, cap, rfl, block_lt_of_cell (hr 0 h0).1, hc, fun j hj => (hr j hj).1⟩
theorem enc_bit : ∀ a : Nat, a < 128 → ∀ b : Nat, b < 2 → bits .or .u8 (a : Int) (((128 * b : Nat)) : Int) = ((a + 128 * b : Nat) : Int) := by decide +kernel
theorem and1_u8 : ∀ b : Nat, b < 256 → bits .and .u8 (b : Int) 1 = ((b % 2 : Nat) : Int) := by decide +kernel
theorem byt31_lt {y : Nat} (h : y < pF) : byt y 31 < 128 := by
 unfold byt
 have : y / 256 ^ 31 < 128 := Nat.div_lt_of_lt_mul (Nat.lt_of_lt_of_le h (by decide))
 exact Nat.lt_of_le_of_lt (Nat.mod_le _ _) this
/-- Bytes of y, the last one's highest bit that of x. -/
def encXY (x y : Nat) (j : Nat) : Nat := if j = 31 then byt y 31 + 128 * (x % 2) else byt y j
end Go.Proofs.YtdgkmloabificaaDoor
namespace Go.Proofs.YtdgkmloabificaaDoor
open Go.RowKit
/-- New bytes: so many, in a block of their own. -/
def NewB (w w' : World) (v : Value) (n : Nat) (X : Nat → Nat) : Prop := ∃ g, v = .slice (some ⟨g, 0, none⟩) n n ∧ w.heap.size ≤ g ∧ RowAt .u8 w' g 0 n X
theorem NewB.bytes {w w' : World} {v : Value} {n : Nat} {X : Nat → Nat} (h : NewB w w' v n X) (h0 : 0 < n) : BytesIn w' v n X := by
 obtain ⟨g, rfl, -, hr⟩ := h
 exact .inr ⟨g, 0, n, rfl, block_lt_of_cell (hr 0 h0).1, Nat.le_refl _, fun j hj => (hr j hj).1⟩
end Go.Proofs.YtdgkmloabificaaDoor
namespace Go.Proofs.YtdgkmloabificaaDoor
open Go.RowKit
theorem NewB.still {w w' w2 : World} {v : Value} {n : Nat} {X : Nat → Nat} (h : NewB w w' v n X) (h0 : 0 < n) (hb : Below w'.heap.size w' w2) : NewB w w2 v n X := by
 obtain ⟨g, rfl, hg, hr⟩ := h
 exact ⟨g, rfl, hg, hr.below hb (block_lt_of_cell (hr 0 h0).1)⟩
theorem byt_all (n : Nat) : ∀ j, byt n j < 256 := fun j => byt_lt n j
theorem ofB_byt32 (n : Nat) (h : n < 115792089237316195423570985008687907853269984665640564039457584007913129639936) : ofB (byt n) 32 = n := by
 rw [ofB_byt, show (256 : Nat) ^ 32 = 115792089237316195423570985008687907853269984665640564039457584007913129639936 from rfl, Nat.mod_eq_of_lt h]
end Go.Proofs.YtdgkmloabificaaDoor
namespace Go.Proofs.YtdgkmloabificaaDoor
open Go.RowKit
/-- The room behind lent bytes. -/
def room (j : Nat) : Nat := if j = 0 then 201 else 202
end Go.Proofs.YtdgkmloabificaaDoor
namespace Go.Proofs.YtdgkmloabificaaDoor
open Go.RowKit
theorem ans_str {W : World} {v : Value} {n : Nat} {X : Nat → Nat} (h : BytesIn W v n X) (hX : ∀ j, X j < 256) : ∃ xo c, v = .slice xo n c ∧ ∀ W', Below W.heap.size W W' → (convert 22 9 v).run Tryd.prog W' = .ok (.string (strB n X)) W' := by
 have hc := h.conv hX
 obtain ⟨xo, c, rfl, -⟩ := h.src
 exact ⟨xo, c, rfl, hc⟩
/-- Bytes of an answer: a slice, its string in every later world. -/
structure Str (W : World) (v : Value) (S : ByteArray) : Prop where
 form : ∃ xo n c, v = .slice xo n c
 conv : ∀ W', Below W.heap.size W W' → (convert 22 9 v).run Tryd.prog W' = .ok (.string S) W'
theorem Str.of {W : World} {v : Value} {n : Nat} {X : Nat → Nat} (h : BytesIn W v n X) (hX : ∀ j, X j < 256) : Str W v (strB n X) := by
 obtain ⟨xo, c, rfl, hc⟩ := ans_str h hX
 exact ⟨⟨xo, n, c, rfl⟩, hc⟩
theorem Str.still {W W2 : World} {v : Value} {S : ByteArray} (h : Str W v S) (hb : Below W.heap.size W W2) : Str W2 v S := ⟨h.form, fun W' h2 => h.conv W' (hb.trans (h2.mono hb.size))⟩
theorem Str.nil (W : World) : Str W (.slice none 0 0) (strB 0 (fun _ => 0)) := ⟨⟨none, 0, 0, rfl⟩, fun W' _ => conv_nil W'⟩
end Go.Proofs.YtdgkmloabificaaDoor
namespace Go.Proofs.YtdgkmloabificaaDoor
open Go.RowKit
/-- A number of the reference in a block. -/
structure Box (w : World) (g : Nat) (L : Nat → Int) : Prop where
 row : IRow w g 16 L
 lt : g < w.heap.size
theorem Box.still {w w' : World} {g : Nat} {L : Nat → Int} (h : Box w g L) (hb : Below w.heap.size w w') : Box w' g L := ⟨h.row.below hb h.lt, Nat.lt_of_lt_of_le h.lt hb.size⟩
end Go.Proofs.YtdgkmloabificaaDoor
namespace Go.Proofs.YtdgkmloabificaaDoor
open Go.RowKit
theorem Box.out {w w' : World} {g b : Nat} {L : Nat → Int} (h : Box w b L) (ho : Out g 0 16 w w') (hne : b ≠ g) : Box w' b L :=
 ⟨fun j hj => ⟨(ho.cell' h.lt hne).trans (h.row j hj).1, (ho.frozen' h.lt hne).trans (h.row j hj).2⟩, Nat.lt_of_lt_of_le h.lt ho.size⟩
end Go.Proofs.YtdgkmloabificaaDoor
namespace Go.Proofs.YtdgkmloabificaaDoor
open Go.RowKit
/-- The variable that holds the root of -1. -/
structure IM (w : World) : Prop where
 range : w.rangeAt 5 0 (c4 iM)
 lt : 5 < w.heap.size
theorem IM.still {w w' : World} (h : IM w) (hb : Below w.heap.size w w') : IM w' :=
 ⟨fun j v hv => (hb.cell (p := ⟨5, 0 + j, none⟩) h.lt).trans (h.range j v hv), Nat.lt_of_lt_of_le h.lt hb.size⟩
theorem built1 (n : Nat) : Tryd.prog.built 43 [(0, .agg (c4 n).toArray)] = some (c4 n).toArray := by kernel_rfl
theorem built0 : Tryd.prog.built 43 [] = some (c4 0).toArray := by rw [c4_zero]; kernel_rfl
theorem infoLimbs : (Tryd.prog.info? 41).map (·.size) = some 4 := by kernel_rfl
theorem wpList_build1 {P : Program} {ops : Array Oper} {rest : List Oper} {o : Oper} {a : Act} {w : World} {Q : Exit → Act → World → Prop} (hg : o.guard = none) (t : TypeId) (i : Nat) (x : Operand) (ho : o.op = .build t #[(i, x)]) (u : Value) (hx : a.eval x = u) (cells : Array Value)
 (hf : P.built t [(i, u)] = some cells) (h : wpList P ops Q rest (a.put o.dst (.agg cells)) w) : wpList P ops Q (o :: rest) a w :=
 wpList_build hg t _ ho (by simp only [List.map_toArray, List.map_cons, List.map_nil, hx, hf]; rfl) (by simp only [List.map_toArray, List.map_cons, List.map_nil, hx, hf]; exact h)
theorem wpList_build0 {P : Program} {ops : Array Oper} {rest : List Oper} {o : Oper} {a : Act} {w : World} {Q : Exit → Act → World → Prop} (hg : o.guard = none) (t : TypeId) (ho : o.op = .build t #[]) (cells : Array Value)
 (hf : P.built t [] = some cells) (h : wpList P ops Q rest (a.put o.dst (.agg cells)) w) : wpList P ops Q (o :: rest) a w :=
 wpList_build hg t _ ho (by simp only [List.map_toArray, List.map_nil, hf]; rfl) (by simp only [List.map_toArray, List.map_nil, hf]; exact h)
theorem yields_build0 {P : Program} {ops : Array Oper} {S : World → Prop} {o : Oper} {a : Act} (hw : Region.wanted o (yielded ops a.tmps) = true) (t : TypeId) (ho : o.op = .build t #[]) (cells : Array Value)
 (hf : P.built t [] = some cells) : YieldsIf P ops S o (.agg cells) a := by
 refine .inl ⟨hw, fun w _ => ?_⟩
 unfold execOp
 simp only [ho, List.map_toArray, List.map_nil]
 rw [Sem.run_bind, run_build w t _ cells hf]
 rfl
theorem evn_odd {x : Nat} (h : (x % 2 == 1) = true) : evn x = (0 + pF - x) % pF := by unfold evn; rw [if_pos (by simpa using h)]
theorem evn_even {x : Nat} (h : (x % 2 == 1) = false) : evn x = x := by unfold evn; rw [if_neg (by simpa using h)]
abbrev qp1x5 : Oper := oN 6 (Op.alloc 43) 0 "number.go:87" #[]
abbrev qp1x2 : Oper := oN 12 (cF1 34 #[oT 10, oT 11] #[43, 43]) 43 "number.go:87" #[jD 0, jD 1]
abbrev qp1x4 : Oper := oN 14 (cF1 34 #[oT 12, oT 13] #[43, 43]) 43 "number.go:87" #[jD 2, jD 3, jC 2]
abbrev qp1x6 : Oper := oS (Op.store 43 (oT 6) (oT 14)) "number.go:87" #[jD 5, jD 4, jC 4, jP 0, jP 1, jP 2, jP 3, jP 4, jP 5]
abbrev qp2x7 : Oper := oN 7 (Op.alloc 43) 0 "number.go:88" #[]
abbrev qp2x2 : Oper := oN 17 (cF1 34 #[oT 15, oT 16] #[43, 43]) 43 "number.go:88" #[jD 0, jD 1]
abbrev qp2x4 : Oper := oN 19 (cF1 34 #[oT 17, oT 18] #[43, 43]) 43 "number.go:88" #[jD 2, jD 3, jC 2]
abbrev qp2x6 : Oper := oN 21 (cF1 34 #[oT 19, oT 20] #[43, 43]) 43 "number.go:88" #[jD 4, jD 5, jC 4]
abbrev qp2x8 : Oper := oS (Op.store 43 (oT 7) (oT 21)) "number.go:88" #[jD 7, jD 6, jC 6, jP 0, jP 1, jP 2, jP 3, jP 4, jP 5, jP 6, jP 7]
abbrev qp3x9 : Oper := oN 8 (Op.alloc 43) 0 "number.go:90" #[]
abbrev qp3x1 : Oper := oN 23 (cF1 56 #[oT 22] #[43]) 43 "number.go:90" #[jD 0]
abbrev qp3x4 : Oper := oN 26 (cF1 57 #[oT 23, Operand.const (Value.int IntKind.i64 2), oT 25] #[43, 3, 62]) 43 "number.go:90" #[jD 1, jD 3, jC 1]
abbrev qp3x6 : Oper := oN 28 (cF1 34 #[oT 26, oT 27] #[43, 43]) 43 "number.go:90" #[jD 4, jD 5, jC 4]
abbrev qp3x8 : Oper := oN 30 (cF1 34 #[oT 28, oT 29] #[43, 43]) 43 "number.go:90" #[jD 6, jD 7, jC 6]
abbrev qp3x10 : Oper := oS (Op.store 43 (oT 8) (oT 30)) "number.go:90" #[jD 9, jD 8, jC 8, jP 0, jP 1, jP 2, jP 3, jP 4, jP 5, jP 6, jP 7, jP 8, jP 9]
abbrev qp4x5 : Oper := oN 9 (Op.alloc 43) 0 "number.go:91" #[]
abbrev qp4x2 : Oper := oN 33 (cF1 34 #[oT 31, oT 32] #[43, 43]) 43 "number.go:91" #[jD 0, jD 1]
abbrev qp4x4 : Oper := oN 35 (cF1 34 #[oT 33, oT 34] #[43, 43]) 43 "number.go:91" #[jD 2, jD 3, jC 2]
abbrev qp4x6 : Oper := oS (Op.store 43 (oT 9) (oT 35)) "number.go:91" #[jD 5, jD 4, jC 4, jP 0, jP 1, jP 2, jP 3, jP 4, jP 5]
set_option maxRecDepth 20000 in
set_option maxHeartbeats 16000000 in
theorem rootq_raw (u v v2 v3 a1 a2 bs o t t2 x0 xx sq nu xi : Nat) (hu : u < pF) (hsq : sq < pF) (hnu : nu < pF) (hx0 : x0 < pF) (hxi : xi < pF)
 (k1 : ∀ W, Calls Tryd.prog 34 #[numV v, numV v] W fun e w' => e = .returned (numV v2) ∧ Below W.heap.size W w')
 (k2 : ∀ W, Calls Tryd.prog 34 #[numV v2, numV v] W fun e w' => e = .returned (numV v3) ∧ Below W.heap.size W w')
 (k3 : ∀ W, Calls Tryd.prog 34 #[numV u, numV v3] W fun e w' => e = .returned (numV a1) ∧ Below W.heap.size W w')
 (k4 : ∀ W, Calls Tryd.prog 34 #[numV a1, numV v3] W fun e w' => e = .returned (numV a2) ∧ Below W.heap.size W w')
 (k5 : ∀ W, Calls Tryd.prog 34 #[numV a2, numV v] W fun e w' => e = .returned (numV bs) ∧ Below W.heap.size W w')
 (k6 : ∀ W, Calls Tryd.prog 56 #[numV bs] W fun e w' => e = .returned (numV o) ∧ Below W.heap.size W w')
 (k7 : ∀ W, Calls Tryd.prog 57 #[numV o, .int .i64 2, .func (.func 34) #[numV bs] #[]] W fun e w' => e = .returned (numV t) ∧ Below W.heap.size W w')
 (k8 : ∀ W, Calls Tryd.prog 34 #[numV t, numV u] W fun e w' => e = .returned (numV t2) ∧ Below W.heap.size W w')
 (k9 : ∀ W, Calls Tryd.prog 34 #[numV t2, numV v3] W fun e w' => e = .returned (numV x0) ∧ Below W.heap.size W w')
 (k10 : ∀ W, Calls Tryd.prog 34 #[numV x0, numV x0] W fun e w' => e = .returned (numV xx) ∧ Below W.heap.size W w')
 (k11 : ∀ W, Calls Tryd.prog 34 #[numV xx, numV v] W fun e w' => e = .returned (numV sq) ∧ Below W.heap.size W w')
 (k12 : ∀ W, Calls Tryd.prog 42 #[numV 0, numV u] W fun e w' => e = .returned (numV nu) ∧ Below W.heap.size W w')
 (k13 : ∀ W, Calls Tryd.prog 34 #[numV x0, numV iM] W fun e w' => e = .returned (numV xi) ∧ Below W.heap.size W w')
 (k14 : ∀ W, ∀ z, z < pF → Calls Tryd.prog 90 #[numV z] W fun e w' => e = .returned (.bool (z % 2 == 1)) ∧ Below W.heap.size W w')
 (k15 : ∀ W, ∀ z, z < pF → Calls Tryd.prog 42 #[numV 0, numV z] W fun e w' => e = .returned (numV ((0 + pF - z) % pF)) ∧ Below W.heap.size W w')
 (w : World) (im : IM w) :
 Calls Tryd.prog 83 #[numV u, numV v] w fun e w' => e = .returned (.tuple #[numV (if sq = u then evn x0 else if sq = nu then evn xi else 0), .bool (if sq = u then true else decide (sq = nu))]) ∧ Below w.heap.size w w' := by
 obtain ⟨V1, g2, e1, hg2, b1, hU⟩ : ∃ V g, w.alloc (.cells (c4 u).toArray 43) = V ∧ w.heap.size = g ∧ Below w.heap.size w V ∧ RW V g 0 (c4 u) := ⟨_, _, rfl, rfl, (Below.refl _ _).alloc (Nat.le_refl _) _, RW.fresh w _ _⟩
 obtain ⟨V2, g3, e2, hg3, b2, hV⟩ : ∃ V g, V1.alloc (.cells (c4 v).toArray 43) = V ∧ V1.heap.size = g ∧ Below V1.heap.size V1 V ∧ RW V g 0 (c4 v) := ⟨_, _, rfl, rfl, (Below.refl _ _).alloc (Nat.le_refl _) _, RW.fresh V1 _ _⟩
 obtain ⟨W, g4, e3, hg4, b3, h4⟩ := fresh4 V2
 have t1 : V1.heap.size = w.heap.size + 1 := by rw [← e1]; simp
 have t2' : V2.heap.size = V1.heap.size + 1 := by rw [← e2]; simp
 have HW : Hid (W = ((w.alloc (.cells (c4 u).toArray 43)).alloc (.cells (c4 v).toArray 43)).alloc (.cells #[.int .u64 0, .int .u64 0, .int .u64 0, .int .u64 0] 43)) := Hid.mk' (by rw [← e3, ← e2, ← e1])
 have q2 : Hid (w.heap.size = g2) := Hid.mk' hg2
 have q3 : Hid (w.heap.size + 1 = g3) := Hid.mk' (by omega)
 have q4 : Hid (w.heap.size + 1 + 1 = g4) := Hid.mk' (by omega)
 replace hU := (hU.still b2).still b3
 replace hV := hV.still b3
 have hbW : Below w.heap.size w W := (b1.trans (b2.mono (by omega))).trans (b3.mono (by omega))
 replace im := im.still hbW
 have w4 : w.heap.size ≤ g4 := by omega
 have n24 : g2 ≠ g4 := by omega
 clear e1 e2 e3 hg2 hg3 hg4 b1 b2 b3 t1 t2' V1 V2
 obtain ⟨r, hr⟩ : ∃ r, r = (if sq = u then evn x0 else if sq = nu then evn xi else 0) := ⟨_, rfl⟩
 obtain ⟨ok, hok⟩ : ∃ ok, ok = (if sq = u then true else decide (sq = nu)) := ⟨_, rfl⟩
 rw [← hr, ← hok]
 have Hr0 := Hid.mk' hr
 have Hk0 := Hid.mk' hok
 clear hr hok
 rw [show numV u = .agg (c4 u).toArray from rfl, show numV v = .agg (c4 v).toArray from rfl]
 go_enter Tryd.func83, Tryd.ntmps83
 go_upto_region 1 with (fail)
 rw [← HW.out, q4.out, q3.out, q2.out]
 clear HW q2 q3 q4
 go_cut [6] from 10 (fun s6 wc => ∃ g106, s6 = .pointer (some ⟨g106, 0, none⟩) ∧ Below W.heap.size W wc ∧ W.heap.size ≤ g106 ∧ RW wc g106 0 (c4 v3))
 case first =>
  clear im k3 k4 k5 k6 k7 k8 k9 k10 k11 k12 k13 k14 k15
  have hdrew : Below W.heap.size W W.drew := (Below.refl _ _).drew
  replace hU := hU.still hdrew
  replace hV := hV.still hdrew
  replace h4 := h4.still hdrew
  refine wp_region_noPanic ?_
  refine wp_region_held_drew (S := fun w' => Below W.drew.heap.size W.drew w') (by kernel_rfl) (Below.refl _ _) (fun hS => ?_)
  generalize W.drew = Vp1_ at *
  refine tkH 0 (oN 10 (Op.load 43 (oT 3)) 43 "number.go:87" #[]) (numV v) hS (ldN hV 3) ?_
  (try simp only [pS])
  refine tkH 1 (oN 11 (Op.load 43 (oT 3)) 43 "number.go:87" #[]) (numV v) hS (ldN hV 3) ?_
  (try simp only [pS])
  refine tkH 3 (oN 13 (Op.load 43 (oT 3)) 43 "number.go:87" #[]) (numV v) hS (ldN hV 3) ?_
  (try simp only [pS])
  refine wpAnyH_ready (rs := [2, 5]) (by kernel_rfl) (by simp) ?_
  refine AllReadyH.cons (o := qp1x2) rfl (fun K hK => ?_) (AllReadyH.cons (o := qp1x5) rfl (fun K hK => ?_) (AllReadyH.nil))
  · unfold qp1x2
    go_simp
    (go_at_call 34; refine (k1 _).mono ?_; rintro e wp1_1 ⟨rfl, hbp1_1⟩)
    (try go_simp)
    have hSp1_1 := below_next hS hbp1_1
    refine hK.out _ _ hSp1_1 (fun h => ?_)
    clear h hK K hbp1_1
    (try simp only [pS])
    refine wpAnyH_ready (rs := [4, 5]) (by kernel_rfl) (by simp) ?_
    refine AllReadyH.cons (o := qp1x4) rfl (fun K hK => ?_) (AllReadyH.cons (o := qp1x5) rfl (fun K hK => ?_) (AllReadyH.nil))
    · unfold qp1x4
      go_simp
      (go_at_call 34; refine (k2 _).mono ?_; rintro e wp1_2 ⟨rfl, hbp1_2⟩)
      (try go_simp)
      have hSp1_2 := below_next hSp1_1 hbp1_2
      refine hK.out _ _ hSp1_2 (fun h => ?_)
      clear h hK K hbp1_2
      (try simp only [pS])
      refine wpAnyH_ready (rs := [5]) (by kernel_rfl) (by simp) ?_
      refine AllReadyH.cons (o := qp1x5) rfl (fun K hK => ?_) (AllReadyH.nil)
      unfold qp1x5
      go_simp
      obtain ⟨wp1_3, gp1_3, hwp1_3, hgp1_3, hbp1_3, rp1_3⟩ := fresh4 wp1_2
      rw [hwp1_3, hgp1_3]
      have hSp1_3 := below_next hSp1_2 hbp1_3
      have Gp1_3 : Vp1_.heap.size ≤ gp1_3 := by have := hSp1_2.size; omega
      refine hK.out _ _ hSp1_3 (fun h => ?_)
      clear h hK K hbp1_3 hwp1_3 hgp1_3
      (try simp only [pS])
      refine wpAnyH_ready (rs := [6]) (by kernel_rfl) (by simp) ?_
      refine AllReadyH.cons (o := qp1x6) rfl (fun K hK => ?_) (AllReadyH.nil)
      unfold qp1x6
      rw [if_pos (by rfl)]
      refine num_store _ _ rfl gp1_3 0 v3 rfl rfl rp1_3 hSp1_3 Gp1_3 (fun wp1_4 r0 hSp1_4 far => ?_)
      refine hK.out _ _ hSp1_4 (fun h => ?_)
      clear h hK K far rp1_3
      have rp1_3 := r0
      clear r0
      (try dsimp only [Act.put])
      refine wpAnyH_done (by kernel_rfl) ?_ _
      refine NoPanic.normal ?_
      go_wp2
      go_meet
      case rel => exact ⟨gp1_3, rfl, below_next hdrew hSp1_4, Nat.le_trans hdrew.size Gp1_3, rp1_3⟩
    · unfold qp1x5
      go_simp
      obtain ⟨wp1_5, gp1_5, hwp1_5, hgp1_5, hbp1_5, rp1_5⟩ := fresh4 wp1_1
      rw [hwp1_5, hgp1_5]
      have hSp1_5 := below_next hSp1_1 hbp1_5
      have Gp1_5 : Vp1_.heap.size ≤ gp1_5 := by have := hSp1_1.size; omega
      refine hK.out _ _ hSp1_5 (fun h => ?_)
      clear h hK K hbp1_5 hwp1_5 hgp1_5
      (try simp only [pS])
      refine callH 4 (oN 14 (cF1 34 #[oT 12, oT 13] #[43, 43]) 43 "number.go:87" #[jD 2, jD 3, jC 2]) (k2 _) ?_
      (rintro e wp1_6 ⟨rfl, hbp1_6⟩)
      have hSp1_6 := below_next hSp1_5 hbp1_6
      replace rp1_5 := rp1_5.still hbp1_6
      refine ⟨_, rfl, hSp1_6, ?_⟩
      clear hbp1_6
      (try simp only [pS])
      refine wpAnyH_ready (rs := [6]) (by kernel_rfl) (by simp) ?_
      refine AllReadyH.cons (o := qp1x6) rfl (fun K hK => ?_) (AllReadyH.nil)
      unfold qp1x6
      rw [if_pos (by rfl)]
      refine num_store _ _ rfl gp1_5 0 v3 rfl rfl rp1_5 hSp1_6 Gp1_5 (fun wp1_7 r0 hSp1_7 far => ?_)
      refine hK.out _ _ hSp1_7 (fun h => ?_)
      clear h hK K far rp1_5
      have rp1_5 := r0
      clear r0
      (try dsimp only [Act.put])
      refine wpAnyH_done (by kernel_rfl) ?_ _
      refine NoPanic.normal ?_
      go_wp2
      go_meet
      case rel => exact ⟨gp1_5, rfl, below_next hdrew hSp1_7, Nat.le_trans hdrew.size Gp1_5, rp1_5⟩
  · unfold qp1x5
    go_simp
    obtain ⟨wp1_8, gp1_8, hwp1_8, hgp1_8, hbp1_8, rp1_8⟩ := fresh4 Vp1_
    rw [hwp1_8, hgp1_8]
    have hSp1_8 := below_next hS hbp1_8
    have Gp1_8 : Vp1_.heap.size ≤ gp1_8 := by have := hS.size; omega
    refine hK.out _ _ hSp1_8 (fun h => ?_)
    clear h hK K hbp1_8 hwp1_8 hgp1_8
    (try simp only [pS])
    refine callH 2 (oN 12 (cF1 34 #[oT 10, oT 11] #[43, 43]) 43 "number.go:87" #[jD 0, jD 1]) (k1 _) ?_
    (rintro e wp1_9 ⟨rfl, hbp1_9⟩)
    have hSp1_9 := below_next hSp1_8 hbp1_9
    replace rp1_8 := rp1_8.still hbp1_9
    refine ⟨_, rfl, hSp1_9, ?_⟩
    clear hbp1_9
    (try simp only [pS])
    refine callH 4 (oN 14 (cF1 34 #[oT 12, oT 13] #[43, 43]) 43 "number.go:87" #[jD 2, jD 3, jC 2]) (k2 _) ?_
    (rintro e wp1_10 ⟨rfl, hbp1_10⟩)
    have hSp1_10 := below_next hSp1_9 hbp1_10
    replace rp1_8 := rp1_8.still hbp1_10
    refine ⟨_, rfl, hSp1_10, ?_⟩
    clear hbp1_10
    (try simp only [pS])
    refine wpAnyH_ready (rs := [6]) (by kernel_rfl) (by simp) ?_
    refine AllReadyH.cons (o := qp1x6) rfl (fun K hK => ?_) (AllReadyH.nil)
    unfold qp1x6
    rw [if_pos (by rfl)]
    refine num_store _ _ rfl gp1_8 0 v3 rfl rfl rp1_8 hSp1_10 Gp1_8 (fun wp1_11 r0 hSp1_11 far => ?_)
    refine hK.out _ _ hSp1_11 (fun h => ?_)
    clear h hK K far rp1_8
    have rp1_8 := r0
    clear r0
    (try dsimp only [Act.put])
    refine wpAnyH_done (by kernel_rfl) ?_ _
    refine NoPanic.normal ?_
    go_wp2
    go_meet
    case rel => exact ⟨gp1_8, rfl, below_next hdrew hSp1_11, Nat.le_trans hdrew.size Gp1_8, rp1_8⟩
 case rest =>
 obtain ⟨g106, rfl, hb106, G106, h106⟩ := hcut
 have lt4 := h4.lt
 replace hU := hU.still hb106
 replace hV := hV.still hb106
 replace h4 := h4.still hb106
 replace im := im.still hb106
 obtain ⟨U1, hU1⟩ : ∃ W, W = wc := ⟨_, rfl⟩
 rw [← hU1]
 rw [← hU1] at hU hV h4 h106 im hb106
 replace hbW : Below w.heap.size w U1 := below_next hbW hb106
 have n4_106 : g106 ≠ g4 := by omega
 clear hU1 hb106 G106 lt4
 go_upto_region 2 with (fail)
 go_cut [7] from 10 (fun s7 wc => ∃ g107, s7 = .pointer (some ⟨g107, 0, none⟩) ∧ Below U1.heap.size U1 wc ∧ U1.heap.size ≤ g107 ∧ RW wc g107 0 (c4 bs))
 case first =>
  clear im k1 k2 k6 k7 k8 k9 k10 k11 k12 k13 k14 k15
  have hdrew : Below U1.heap.size U1 U1.drew := (Below.refl _ _).drew
  replace hU := hU.still hdrew
  replace hV := hV.still hdrew
  replace h4 := h4.still hdrew
  replace h106 := h106.still hdrew
  refine wp_region_noPanic ?_
  refine wp_region_held_drew (S := fun w' => Below U1.drew.heap.size U1.drew w') (by kernel_rfl) (Below.refl _ _) (fun hS => ?_)
  generalize U1.drew = Vp2_ at *
  refine tkH 0 (oN 15 (Op.load 43 (oT 2)) 43 "number.go:88" #[]) (numV u) hS (ldN hU 2) ?_
  (try simp only [pS])
  refine tkH 1 (oN 16 (Op.load 43 (oT 6)) 43 "number.go:88" #[]) (numV v3) hS (ldN h106 6) ?_
  (try simp only [pS])
  refine tkH 3 (oN 18 (Op.load 43 (oT 6)) 43 "number.go:88" #[]) (numV v3) hS (ldN h106 6) ?_
  (try simp only [pS])
  refine tkH 5 (oN 20 (Op.load 43 (oT 3)) 43 "number.go:88" #[]) (numV v) hS (ldN hV 3) ?_
  (try simp only [pS])
  refine wpAnyH_ready (rs := [2, 7]) (by kernel_rfl) (by simp) ?_
  refine AllReadyH.cons (o := qp2x2) rfl (fun K hK => ?_) (AllReadyH.cons (o := qp2x7) rfl (fun K hK => ?_) (AllReadyH.nil))
  · unfold qp2x2
    go_simp
    (go_at_call 34; refine (k3 _).mono ?_; rintro e wp2_1 ⟨rfl, hbp2_1⟩)
    (try go_simp)
    have hSp2_1 := below_next hS hbp2_1
    refine hK.out _ _ hSp2_1 (fun h => ?_)
    clear h hK K hbp2_1
    (try simp only [pS])
    refine wpAnyH_ready (rs := [4, 7]) (by kernel_rfl) (by simp) ?_
    refine AllReadyH.cons (o := qp2x4) rfl (fun K hK => ?_) (AllReadyH.cons (o := qp2x7) rfl (fun K hK => ?_) (AllReadyH.nil))
    · unfold qp2x4
      go_simp
      (go_at_call 34; refine (k4 _).mono ?_; rintro e wp2_2 ⟨rfl, hbp2_2⟩)
      (try go_simp)
      have hSp2_2 := below_next hSp2_1 hbp2_2
      refine hK.out _ _ hSp2_2 (fun h => ?_)
      clear h hK K hbp2_2
      (try simp only [pS])
      refine wpAnyH_ready (rs := [6, 7]) (by kernel_rfl) (by simp) ?_
      refine AllReadyH.cons (o := qp2x6) rfl (fun K hK => ?_) (AllReadyH.cons (o := qp2x7) rfl (fun K hK => ?_) (AllReadyH.nil))
      · unfold qp2x6
        go_simp
        (go_at_call 34; refine (k5 _).mono ?_; rintro e wp2_3 ⟨rfl, hbp2_3⟩)
        (try go_simp)
        have hSp2_3 := below_next hSp2_2 hbp2_3
        refine hK.out _ _ hSp2_3 (fun h => ?_)
        clear h hK K hbp2_3
        (try simp only [pS])
        refine wpAnyH_ready (rs := [7]) (by kernel_rfl) (by simp) ?_
        refine AllReadyH.cons (o := qp2x7) rfl (fun K hK => ?_) (AllReadyH.nil)
        unfold qp2x7
        go_simp
        obtain ⟨wp2_4, gp2_4, hwp2_4, hgp2_4, hbp2_4, rp2_4⟩ := fresh4 wp2_3
        rw [hwp2_4, hgp2_4]
        have hSp2_4 := below_next hSp2_3 hbp2_4
        have Gp2_4 : Vp2_.heap.size ≤ gp2_4 := by have := hSp2_3.size; omega
        refine hK.out _ _ hSp2_4 (fun h => ?_)
        clear h hK K hbp2_4 hwp2_4 hgp2_4
        (try simp only [pS])
        refine wpAnyH_ready (rs := [8]) (by kernel_rfl) (by simp) ?_
        refine AllReadyH.cons (o := qp2x8) rfl (fun K hK => ?_) (AllReadyH.nil)
        unfold qp2x8
        rw [if_pos (by rfl)]
        refine num_store _ _ rfl gp2_4 0 bs rfl rfl rp2_4 hSp2_4 Gp2_4 (fun wp2_5 r0 hSp2_5 far => ?_)
        refine hK.out _ _ hSp2_5 (fun h => ?_)
        clear h hK K far rp2_4
        have rp2_4 := r0
        clear r0
        (try dsimp only [Act.put])
        refine wpAnyH_done (by kernel_rfl) ?_ _
        refine NoPanic.normal ?_
        go_wp2
        go_meet
        case rel => exact ⟨gp2_4, rfl, below_next hdrew hSp2_5, Nat.le_trans hdrew.size Gp2_4, rp2_4⟩
      · unfold qp2x7
        go_simp
        obtain ⟨wp2_6, gp2_6, hwp2_6, hgp2_6, hbp2_6, rp2_6⟩ := fresh4 wp2_2
        rw [hwp2_6, hgp2_6]
        have hSp2_6 := below_next hSp2_2 hbp2_6
        have Gp2_6 : Vp2_.heap.size ≤ gp2_6 := by have := hSp2_2.size; omega
        refine hK.out _ _ hSp2_6 (fun h => ?_)
        clear h hK K hbp2_6 hwp2_6 hgp2_6
        (try simp only [pS])
        refine callH 6 (oN 21 (cF1 34 #[oT 19, oT 20] #[43, 43]) 43 "number.go:88" #[jD 4, jD 5, jC 4]) (k5 _) ?_
        (rintro e wp2_7 ⟨rfl, hbp2_7⟩)
        have hSp2_7 := below_next hSp2_6 hbp2_7
        replace rp2_6 := rp2_6.still hbp2_7
        refine ⟨_, rfl, hSp2_7, ?_⟩
        clear hbp2_7
        (try simp only [pS])
        refine wpAnyH_ready (rs := [8]) (by kernel_rfl) (by simp) ?_
        refine AllReadyH.cons (o := qp2x8) rfl (fun K hK => ?_) (AllReadyH.nil)
        unfold qp2x8
        rw [if_pos (by rfl)]
        refine num_store _ _ rfl gp2_6 0 bs rfl rfl rp2_6 hSp2_7 Gp2_6 (fun wp2_8 r0 hSp2_8 far => ?_)
        refine hK.out _ _ hSp2_8 (fun h => ?_)
        clear h hK K far rp2_6
        have rp2_6 := r0
        clear r0
        (try dsimp only [Act.put])
        refine wpAnyH_done (by kernel_rfl) ?_ _
        refine NoPanic.normal ?_
        go_wp2
        go_meet
        case rel => exact ⟨gp2_6, rfl, below_next hdrew hSp2_8, Nat.le_trans hdrew.size Gp2_6, rp2_6⟩
    · unfold qp2x7
      go_simp
      obtain ⟨wp2_9, gp2_9, hwp2_9, hgp2_9, hbp2_9, rp2_9⟩ := fresh4 wp2_1
      rw [hwp2_9, hgp2_9]
      have hSp2_9 := below_next hSp2_1 hbp2_9
      have Gp2_9 : Vp2_.heap.size ≤ gp2_9 := by have := hSp2_1.size; omega
      refine hK.out _ _ hSp2_9 (fun h => ?_)
      clear h hK K hbp2_9 hwp2_9 hgp2_9
      (try simp only [pS])
      refine callH 4 (oN 19 (cF1 34 #[oT 17, oT 18] #[43, 43]) 43 "number.go:88" #[jD 2, jD 3, jC 2]) (k4 _) ?_
      (rintro e wp2_10 ⟨rfl, hbp2_10⟩)
      have hSp2_10 := below_next hSp2_9 hbp2_10
      replace rp2_9 := rp2_9.still hbp2_10
      refine ⟨_, rfl, hSp2_10, ?_⟩
      clear hbp2_10
      (try simp only [pS])
      refine callH 6 (oN 21 (cF1 34 #[oT 19, oT 20] #[43, 43]) 43 "number.go:88" #[jD 4, jD 5, jC 4]) (k5 _) ?_
      (rintro e wp2_11 ⟨rfl, hbp2_11⟩)
      have hSp2_11 := below_next hSp2_10 hbp2_11
      replace rp2_9 := rp2_9.still hbp2_11
      refine ⟨_, rfl, hSp2_11, ?_⟩
      clear hbp2_11
      (try simp only [pS])
      refine wpAnyH_ready (rs := [8]) (by kernel_rfl) (by simp) ?_
      refine AllReadyH.cons (o := qp2x8) rfl (fun K hK => ?_) (AllReadyH.nil)
      unfold qp2x8
      rw [if_pos (by rfl)]
      refine num_store _ _ rfl gp2_9 0 bs rfl rfl rp2_9 hSp2_11 Gp2_9 (fun wp2_12 r0 hSp2_12 far => ?_)
      refine hK.out _ _ hSp2_12 (fun h => ?_)
      clear h hK K far rp2_9
      have rp2_9 := r0
      clear r0
      (try dsimp only [Act.put])
      refine wpAnyH_done (by kernel_rfl) ?_ _
      refine NoPanic.normal ?_
      go_wp2
      go_meet
      case rel => exact ⟨gp2_9, rfl, below_next hdrew hSp2_12, Nat.le_trans hdrew.size Gp2_9, rp2_9⟩
  · unfold qp2x7
    go_simp
    obtain ⟨wp2_13, gp2_13, hwp2_13, hgp2_13, hbp2_13, rp2_13⟩ := fresh4 Vp2_
    rw [hwp2_13, hgp2_13]
    have hSp2_13 := below_next hS hbp2_13
    have Gp2_13 : Vp2_.heap.size ≤ gp2_13 := by have := hS.size; omega
    refine hK.out _ _ hSp2_13 (fun h => ?_)
    clear h hK K hbp2_13 hwp2_13 hgp2_13
    (try simp only [pS])
    refine callH 2 (oN 17 (cF1 34 #[oT 15, oT 16] #[43, 43]) 43 "number.go:88" #[jD 0, jD 1]) (k3 _) ?_
    (rintro e wp2_14 ⟨rfl, hbp2_14⟩)
    have hSp2_14 := below_next hSp2_13 hbp2_14
    replace rp2_13 := rp2_13.still hbp2_14
    refine ⟨_, rfl, hSp2_14, ?_⟩
    clear hbp2_14
    (try simp only [pS])
    refine callH 4 (oN 19 (cF1 34 #[oT 17, oT 18] #[43, 43]) 43 "number.go:88" #[jD 2, jD 3, jC 2]) (k4 _) ?_
    (rintro e wp2_15 ⟨rfl, hbp2_15⟩)
    have hSp2_15 := below_next hSp2_14 hbp2_15
    replace rp2_13 := rp2_13.still hbp2_15
    refine ⟨_, rfl, hSp2_15, ?_⟩
    clear hbp2_15
    (try simp only [pS])
    refine callH 6 (oN 21 (cF1 34 #[oT 19, oT 20] #[43, 43]) 43 "number.go:88" #[jD 4, jD 5, jC 4]) (k5 _) ?_
    (rintro e wp2_16 ⟨rfl, hbp2_16⟩)
    have hSp2_16 := below_next hSp2_15 hbp2_16
    replace rp2_13 := rp2_13.still hbp2_16
    refine ⟨_, rfl, hSp2_16, ?_⟩
    clear hbp2_16
    (try simp only [pS])
    refine wpAnyH_ready (rs := [8]) (by kernel_rfl) (by simp) ?_
    refine AllReadyH.cons (o := qp2x8) rfl (fun K hK => ?_) (AllReadyH.nil)
    unfold qp2x8
    rw [if_pos (by rfl)]
    refine num_store _ _ rfl gp2_13 0 bs rfl rfl rp2_13 hSp2_16 Gp2_13 (fun wp2_17 r0 hSp2_17 far => ?_)
    refine hK.out _ _ hSp2_17 (fun h => ?_)
    clear h hK K far rp2_13
    have rp2_13 := r0
    clear r0
    (try dsimp only [Act.put])
    refine wpAnyH_done (by kernel_rfl) ?_ _
    refine NoPanic.normal ?_
    go_wp2
    go_meet
    case rel => exact ⟨gp2_13, rfl, below_next hdrew hSp2_17, Nat.le_trans hdrew.size Gp2_13, rp2_13⟩
 case rest =>
 obtain ⟨g107, rfl, hb107, G107, h107⟩ := hcut
 have lt4 := h4.lt
 replace hU := hU.still hb107
 replace hV := hV.still hb107
 replace h4 := h4.still hb107
 replace h106 := h106.still hb107
 replace im := im.still hb107
 obtain ⟨U2, hU2⟩ : ∃ W, W = wc := ⟨_, rfl⟩
 rw [← hU2]
 rw [← hU2] at hU hV h4 h106 h107 im hb107
 replace hbW : Below w.heap.size w U2 := below_next hbW hb107
 have n4_107 : g107 ≠ g4 := by omega
 clear hU2 hb107 G107 lt4
 go_upto_region 3 with (fail)
 go_cut [8] from 10 (fun s8 wc => ∃ g108, s8 = .pointer (some ⟨g108, 0, none⟩) ∧ Below U2.heap.size U2 wc ∧ U2.heap.size ≤ g108 ∧ RW wc g108 0 (c4 x0))
 case first =>
  clear im k1 k2 k3 k4 k5 k10 k11 k12 k13 k14 k15
  have hdrew : Below U2.heap.size U2 U2.drew := (Below.refl _ _).drew
  replace hU := hU.still hdrew
  replace hV := hV.still hdrew
  replace h4 := h4.still hdrew
  replace h106 := h106.still hdrew
  replace h107 := h107.still hdrew
  refine wp_region_noPanic ?_
  refine wp_region_held_drew (S := fun w' => Below U2.drew.heap.size U2.drew w') (by kernel_rfl) (Below.refl _ _) (fun hS => ?_)
  generalize U2.drew = Vp3_ at *
  refine tkH 0 (oN 22 (Op.load 43 (oT 7)) 43 "number.go:90" #[]) (numV bs) hS (ldN h107 7) ?_
  (try simp only [pS])
  refine tkH 2 (oN 24 (Op.load 43 (oT 7)) 43 "number.go:90" #[]) (numV bs) hS (ldN h107 7) ?_
  (try simp only [pS])
  refine tkH 3 (oN 25 (Op.makeFunc (Fn.func 34) #[oT 24] #[]) 62 "number.go:90" #[jD 2]) ?vp3_1 hS (Or.inl ⟨by rfl, ?hp3_1⟩) ?rp3_1
  case hp3_1 =>
   intro w hSw
   go_simp
   try with_reducible rfl
  (try simp only [pS])
  refine tkH 5 (oN 27 (Op.load 43 (oT 2)) 43 "number.go:90" #[]) (numV u) hS (ldN hU 2) ?_
  (try simp only [pS])
  refine tkH 7 (oN 29 (Op.load 43 (oT 6)) 43 "number.go:90" #[]) (numV v3) hS (ldN h106 6) ?_
  (try simp only [pS])
  refine wpAnyH_ready (rs := [1, 9]) (by kernel_rfl) (by simp) ?_
  refine AllReadyH.cons (o := qp3x1) rfl (fun K hK => ?_) (AllReadyH.cons (o := qp3x9) rfl (fun K hK => ?_) (AllReadyH.nil))
  · unfold qp3x1
    go_simp
    (go_at_call 56; refine (k6 _).mono ?_; rintro e wp3_2 ⟨rfl, hbp3_2⟩)
    (try go_simp)
    have hSp3_2 := below_next hS hbp3_2
    refine hK.out _ _ hSp3_2 (fun h => ?_)
    clear h hK K hbp3_2
    (try simp only [pS])
    refine wpAnyH_ready (rs := [4, 9]) (by kernel_rfl) (by simp) ?_
    refine AllReadyH.cons (o := qp3x4) rfl (fun K hK => ?_) (AllReadyH.cons (o := qp3x9) rfl (fun K hK => ?_) (AllReadyH.nil))
    · unfold qp3x4
      go_simp
      (go_at_call 57; refine (k7 _).mono ?_; rintro e wp3_3 ⟨rfl, hbp3_3⟩)
      (try go_simp)
      have hSp3_3 := below_next hSp3_2 hbp3_3
      refine hK.out _ _ hSp3_3 (fun h => ?_)
      clear h hK K hbp3_3
      (try simp only [pS])
      refine wpAnyH_ready (rs := [6, 9]) (by kernel_rfl) (by simp) ?_
      refine AllReadyH.cons (o := qp3x6) rfl (fun K hK => ?_) (AllReadyH.cons (o := qp3x9) rfl (fun K hK => ?_) (AllReadyH.nil))
      · unfold qp3x6
        go_simp
        (go_at_call 34; refine (k8 _).mono ?_; rintro e wp3_4 ⟨rfl, hbp3_4⟩)
        (try go_simp)
        have hSp3_4 := below_next hSp3_3 hbp3_4
        refine hK.out _ _ hSp3_4 (fun h => ?_)
        clear h hK K hbp3_4
        (try simp only [pS])
        refine wpAnyH_ready (rs := [8, 9]) (by kernel_rfl) (by simp) ?_
        refine AllReadyH.cons (o := qp3x8) rfl (fun K hK => ?_) (AllReadyH.cons (o := qp3x9) rfl (fun K hK => ?_) (AllReadyH.nil))
        · unfold qp3x8
          go_simp
          (go_at_call 34; refine (k9 _).mono ?_; rintro e wp3_5 ⟨rfl, hbp3_5⟩)
          (try go_simp)
          have hSp3_5 := below_next hSp3_4 hbp3_5
          refine hK.out _ _ hSp3_5 (fun h => ?_)
          clear h hK K hbp3_5
          (try simp only [pS])
          refine wpAnyH_ready (rs := [9]) (by kernel_rfl) (by simp) ?_
          refine AllReadyH.cons (o := qp3x9) rfl (fun K hK => ?_) (AllReadyH.nil)
          unfold qp3x9
          go_simp
          obtain ⟨wp3_6, gp3_6, hwp3_6, hgp3_6, hbp3_6, rp3_6⟩ := fresh4 wp3_5
          rw [hwp3_6, hgp3_6]
          have hSp3_6 := below_next hSp3_5 hbp3_6
          have Gp3_6 : Vp3_.heap.size ≤ gp3_6 := by have := hSp3_5.size; omega
          refine hK.out _ _ hSp3_6 (fun h => ?_)
          clear h hK K hbp3_6 hwp3_6 hgp3_6
          (try simp only [pS])
          refine wpAnyH_ready (rs := [10]) (by kernel_rfl) (by simp) ?_
          refine AllReadyH.cons (o := qp3x10) rfl (fun K hK => ?_) (AllReadyH.nil)
          unfold qp3x10
          rw [if_pos (by rfl)]
          refine num_store _ _ rfl gp3_6 0 x0 rfl rfl rp3_6 hSp3_6 Gp3_6 (fun wp3_7 r0 hSp3_7 far => ?_)
          refine hK.out _ _ hSp3_7 (fun h => ?_)
          clear h hK K far rp3_6
          have rp3_6 := r0
          clear r0
          (try dsimp only [Act.put])
          refine wpAnyH_done (by kernel_rfl) ?_ _
          refine NoPanic.normal ?_
          go_wp2
          go_meet
          case rel => exact ⟨gp3_6, rfl, below_next hdrew hSp3_7, Nat.le_trans hdrew.size Gp3_6, rp3_6⟩
        · unfold qp3x9
          go_simp
          obtain ⟨wp3_8, gp3_8, hwp3_8, hgp3_8, hbp3_8, rp3_8⟩ := fresh4 wp3_4
          rw [hwp3_8, hgp3_8]
          have hSp3_8 := below_next hSp3_4 hbp3_8
          have Gp3_8 : Vp3_.heap.size ≤ gp3_8 := by have := hSp3_4.size; omega
          refine hK.out _ _ hSp3_8 (fun h => ?_)
          clear h hK K hbp3_8 hwp3_8 hgp3_8
          (try simp only [pS])
          refine callH 8 (oN 30 (cF1 34 #[oT 28, oT 29] #[43, 43]) 43 "number.go:90" #[jD 6, jD 7, jC 6]) (k9 _) ?_
          (rintro e wp3_9 ⟨rfl, hbp3_9⟩)
          have hSp3_9 := below_next hSp3_8 hbp3_9
          replace rp3_8 := rp3_8.still hbp3_9
          refine ⟨_, rfl, hSp3_9, ?_⟩
          clear hbp3_9
          (try simp only [pS])
          refine wpAnyH_ready (rs := [10]) (by kernel_rfl) (by simp) ?_
          refine AllReadyH.cons (o := qp3x10) rfl (fun K hK => ?_) (AllReadyH.nil)
          unfold qp3x10
          rw [if_pos (by rfl)]
          refine num_store _ _ rfl gp3_8 0 x0 rfl rfl rp3_8 hSp3_9 Gp3_8 (fun wp3_10 r0 hSp3_10 far => ?_)
          refine hK.out _ _ hSp3_10 (fun h => ?_)
          clear h hK K far rp3_8
          have rp3_8 := r0
          clear r0
          (try dsimp only [Act.put])
          refine wpAnyH_done (by kernel_rfl) ?_ _
          refine NoPanic.normal ?_
          go_wp2
          go_meet
          case rel => exact ⟨gp3_8, rfl, below_next hdrew hSp3_10, Nat.le_trans hdrew.size Gp3_8, rp3_8⟩
      · unfold qp3x9
        go_simp
        obtain ⟨wp3_11, gp3_11, hwp3_11, hgp3_11, hbp3_11, rp3_11⟩ := fresh4 wp3_3
        rw [hwp3_11, hgp3_11]
        have hSp3_11 := below_next hSp3_3 hbp3_11
        have Gp3_11 : Vp3_.heap.size ≤ gp3_11 := by have := hSp3_3.size; omega
        refine hK.out _ _ hSp3_11 (fun h => ?_)
        clear h hK K hbp3_11 hwp3_11 hgp3_11
        (try simp only [pS])
        refine callH 6 (oN 28 (cF1 34 #[oT 26, oT 27] #[43, 43]) 43 "number.go:90" #[jD 4, jD 5, jC 4]) (k8 _) ?_
        (rintro e wp3_12 ⟨rfl, hbp3_12⟩)
        have hSp3_12 := below_next hSp3_11 hbp3_12
        replace rp3_11 := rp3_11.still hbp3_12
        refine ⟨_, rfl, hSp3_12, ?_⟩
        clear hbp3_12
        (try simp only [pS])
        refine callH 8 (oN 30 (cF1 34 #[oT 28, oT 29] #[43, 43]) 43 "number.go:90" #[jD 6, jD 7, jC 6]) (k9 _) ?_
        (rintro e wp3_13 ⟨rfl, hbp3_13⟩)
        have hSp3_13 := below_next hSp3_12 hbp3_13
        replace rp3_11 := rp3_11.still hbp3_13
        refine ⟨_, rfl, hSp3_13, ?_⟩
        clear hbp3_13
        (try simp only [pS])
        refine wpAnyH_ready (rs := [10]) (by kernel_rfl) (by simp) ?_
        refine AllReadyH.cons (o := qp3x10) rfl (fun K hK => ?_) (AllReadyH.nil)
        unfold qp3x10
        rw [if_pos (by rfl)]
        refine num_store _ _ rfl gp3_11 0 x0 rfl rfl rp3_11 hSp3_13 Gp3_11 (fun wp3_14 r0 hSp3_14 far => ?_)
        refine hK.out _ _ hSp3_14 (fun h => ?_)
        clear h hK K far rp3_11
        have rp3_11 := r0
        clear r0
        (try dsimp only [Act.put])
        refine wpAnyH_done (by kernel_rfl) ?_ _
        refine NoPanic.normal ?_
        go_wp2
        go_meet
        case rel => exact ⟨gp3_11, rfl, below_next hdrew hSp3_14, Nat.le_trans hdrew.size Gp3_11, rp3_11⟩
    · unfold qp3x9
      go_simp
      obtain ⟨wp3_15, gp3_15, hwp3_15, hgp3_15, hbp3_15, rp3_15⟩ := fresh4 wp3_2
      rw [hwp3_15, hgp3_15]
      have hSp3_15 := below_next hSp3_2 hbp3_15
      have Gp3_15 : Vp3_.heap.size ≤ gp3_15 := by have := hSp3_2.size; omega
      refine hK.out _ _ hSp3_15 (fun h => ?_)
      clear h hK K hbp3_15 hwp3_15 hgp3_15
      (try simp only [pS])
      refine callH 4 (oN 26 (cF1 57 #[oT 23, Operand.const (Value.int IntKind.i64 2), oT 25] #[43, 3, 62]) 43 "number.go:90" #[jD 1, jD 3, jC 1]) (k7 _) ?_
      (rintro e wp3_16 ⟨rfl, hbp3_16⟩)
      have hSp3_16 := below_next hSp3_15 hbp3_16
      replace rp3_15 := rp3_15.still hbp3_16
      refine ⟨_, rfl, hSp3_16, ?_⟩
      clear hbp3_16
      (try simp only [pS])
      refine callH 6 (oN 28 (cF1 34 #[oT 26, oT 27] #[43, 43]) 43 "number.go:90" #[jD 4, jD 5, jC 4]) (k8 _) ?_
      (rintro e wp3_17 ⟨rfl, hbp3_17⟩)
      have hSp3_17 := below_next hSp3_16 hbp3_17
      replace rp3_15 := rp3_15.still hbp3_17
      refine ⟨_, rfl, hSp3_17, ?_⟩
      clear hbp3_17
      (try simp only [pS])
      refine callH 8 (oN 30 (cF1 34 #[oT 28, oT 29] #[43, 43]) 43 "number.go:90" #[jD 6, jD 7, jC 6]) (k9 _) ?_
      (rintro e wp3_18 ⟨rfl, hbp3_18⟩)
      have hSp3_18 := below_next hSp3_17 hbp3_18
      replace rp3_15 := rp3_15.still hbp3_18
      refine ⟨_, rfl, hSp3_18, ?_⟩
      clear hbp3_18
      (try simp only [pS])
      refine wpAnyH_ready (rs := [10]) (by kernel_rfl) (by simp) ?_
      refine AllReadyH.cons (o := qp3x10) rfl (fun K hK => ?_) (AllReadyH.nil)
      unfold qp3x10
      rw [if_pos (by rfl)]
      refine num_store _ _ rfl gp3_15 0 x0 rfl rfl rp3_15 hSp3_18 Gp3_15 (fun wp3_19 r0 hSp3_19 far => ?_)
      refine hK.out _ _ hSp3_19 (fun h => ?_)
      clear h hK K far rp3_15
      have rp3_15 := r0
      clear r0
      (try dsimp only [Act.put])
      refine wpAnyH_done (by kernel_rfl) ?_ _
      refine NoPanic.normal ?_
      go_wp2
      go_meet
      case rel => exact ⟨gp3_15, rfl, below_next hdrew hSp3_19, Nat.le_trans hdrew.size Gp3_15, rp3_15⟩
  · unfold qp3x9
    go_simp
    obtain ⟨wp3_20, gp3_20, hwp3_20, hgp3_20, hbp3_20, rp3_20⟩ := fresh4 Vp3_
    rw [hwp3_20, hgp3_20]
    have hSp3_20 := below_next hS hbp3_20
    have Gp3_20 : Vp3_.heap.size ≤ gp3_20 := by have := hS.size; omega
    refine hK.out _ _ hSp3_20 (fun h => ?_)
    clear h hK K hbp3_20 hwp3_20 hgp3_20
    (try simp only [pS])
    refine callH 1 (oN 23 (cF1 56 #[oT 22] #[43]) 43 "number.go:90" #[jD 0]) (k6 _) ?_
    (rintro e wp3_21 ⟨rfl, hbp3_21⟩)
    have hSp3_21 := below_next hSp3_20 hbp3_21
    replace rp3_20 := rp3_20.still hbp3_21
    refine ⟨_, rfl, hSp3_21, ?_⟩
    clear hbp3_21
    (try simp only [pS])
    refine callH 4 (oN 26 (cF1 57 #[oT 23, Operand.const (Value.int IntKind.i64 2), oT 25] #[43, 3, 62]) 43 "number.go:90" #[jD 1, jD 3, jC 1]) (k7 _) ?_
    (rintro e wp3_22 ⟨rfl, hbp3_22⟩)
    have hSp3_22 := below_next hSp3_21 hbp3_22
    replace rp3_20 := rp3_20.still hbp3_22
    refine ⟨_, rfl, hSp3_22, ?_⟩
    clear hbp3_22
    (try simp only [pS])
    refine callH 6 (oN 28 (cF1 34 #[oT 26, oT 27] #[43, 43]) 43 "number.go:90" #[jD 4, jD 5, jC 4]) (k8 _) ?_
    (rintro e wp3_23 ⟨rfl, hbp3_23⟩)
    have hSp3_23 := below_next hSp3_22 hbp3_23
    replace rp3_20 := rp3_20.still hbp3_23
    refine ⟨_, rfl, hSp3_23, ?_⟩
    clear hbp3_23
    (try simp only [pS])
    refine callH 8 (oN 30 (cF1 34 #[oT 28, oT 29] #[43, 43]) 43 "number.go:90" #[jD 6, jD 7, jC 6]) (k9 _) ?_
    (rintro e wp3_24 ⟨rfl, hbp3_24⟩)
    have hSp3_24 := below_next hSp3_23 hbp3_24
    replace rp3_20 := rp3_20.still hbp3_24
    refine ⟨_, rfl, hSp3_24, ?_⟩
    clear hbp3_24
    (try simp only [pS])
    refine wpAnyH_ready (rs := [10]) (by kernel_rfl) (by simp) ?_
    refine AllReadyH.cons (o := qp3x10) rfl (fun K hK => ?_) (AllReadyH.nil)
    unfold qp3x10
    rw [if_pos (by rfl)]
    refine num_store _ _ rfl gp3_20 0 x0 rfl rfl rp3_20 hSp3_24 Gp3_20 (fun wp3_25 r0 hSp3_25 far => ?_)
    refine hK.out _ _ hSp3_25 (fun h => ?_)
    clear h hK K far rp3_20
    have rp3_20 := r0
    clear r0
    (try dsimp only [Act.put])
    refine wpAnyH_done (by kernel_rfl) ?_ _
    refine NoPanic.normal ?_
    go_wp2
    go_meet
    case rel => exact ⟨gp3_20, rfl, below_next hdrew hSp3_25, Nat.le_trans hdrew.size Gp3_20, rp3_20⟩
 case rest =>
 obtain ⟨g108, rfl, hb108, G108, h108⟩ := hcut
 have lt4 := h4.lt
 replace hU := hU.still hb108
 replace hV := hV.still hb108
 replace h4 := h4.still hb108
 replace h106 := h106.still hb108
 replace h107 := h107.still hb108
 replace im := im.still hb108
 obtain ⟨U3, hU3⟩ : ∃ W, W = wc := ⟨_, rfl⟩
 rw [← hU3]
 rw [← hU3] at hU hV h4 h106 h107 h108 im hb108
 replace hbW : Below w.heap.size w U3 := below_next hbW hb108
 have n4_108 : g108 ≠ g4 := by omega
 have w108 : w.heap.size ≤ g108 := Nat.le_trans (Nat.le_trans w4 (Nat.le_of_lt lt4)) G108
 clear hU3 hb108 G108 lt4
 go_upto_region 4 with (fail)
 go_cut [9] from 10 (fun s9 wc => ∃ g109, s9 = .pointer (some ⟨g109, 0, none⟩) ∧ Below U3.heap.size U3 wc ∧ U3.heap.size ≤ g109 ∧ RW wc g109 0 (c4 sq))
 case first =>
  clear im k1 k2 k3 k4 k5 k6 k7 k8 k9 k12 k13 k14 k15
  have hdrew : Below U3.heap.size U3 U3.drew := (Below.refl _ _).drew
  replace hU := hU.still hdrew
  replace hV := hV.still hdrew
  replace h4 := h4.still hdrew
  replace h106 := h106.still hdrew
  replace h107 := h107.still hdrew
  replace h108 := h108.still hdrew
  refine wp_region_noPanic ?_
  refine wp_region_held_drew (S := fun w' => Below U3.drew.heap.size U3.drew w') (by kernel_rfl) (Below.refl _ _) (fun hS => ?_)
  generalize U3.drew = Vp4_ at *
  refine tkH 0 (oN 31 (Op.load 43 (oT 8)) 43 "number.go:91" #[]) (numV x0) hS (ldN h108 8) ?_
  (try simp only [pS])
  refine tkH 1 (oN 32 (Op.load 43 (oT 8)) 43 "number.go:91" #[]) (numV x0) hS (ldN h108 8) ?_
  (try simp only [pS])
  refine tkH 3 (oN 34 (Op.load 43 (oT 3)) 43 "number.go:91" #[]) (numV v) hS (ldN hV 3) ?_
  (try simp only [pS])
  refine wpAnyH_ready (rs := [2, 5]) (by kernel_rfl) (by simp) ?_
  refine AllReadyH.cons (o := qp4x2) rfl (fun K hK => ?_) (AllReadyH.cons (o := qp4x5) rfl (fun K hK => ?_) (AllReadyH.nil))
  · unfold qp4x2
    go_simp
    (go_at_call 34; refine (k10 _).mono ?_; rintro e wp4_1 ⟨rfl, hbp4_1⟩)
    (try go_simp)
    have hSp4_1 := below_next hS hbp4_1
    refine hK.out _ _ hSp4_1 (fun h => ?_)
    clear h hK K hbp4_1
    (try simp only [pS])
    refine wpAnyH_ready (rs := [4, 5]) (by kernel_rfl) (by simp) ?_
    refine AllReadyH.cons (o := qp4x4) rfl (fun K hK => ?_) (AllReadyH.cons (o := qp4x5) rfl (fun K hK => ?_) (AllReadyH.nil))
    · unfold qp4x4
      go_simp
      (go_at_call 34; refine (k11 _).mono ?_; rintro e wp4_2 ⟨rfl, hbp4_2⟩)
      (try go_simp)
      have hSp4_2 := below_next hSp4_1 hbp4_2
      refine hK.out _ _ hSp4_2 (fun h => ?_)
      clear h hK K hbp4_2
      (try simp only [pS])
      refine wpAnyH_ready (rs := [5]) (by kernel_rfl) (by simp) ?_
      refine AllReadyH.cons (o := qp4x5) rfl (fun K hK => ?_) (AllReadyH.nil)
      unfold qp4x5
      go_simp
      obtain ⟨wp4_3, gp4_3, hwp4_3, hgp4_3, hbp4_3, rp4_3⟩ := fresh4 wp4_2
      rw [hwp4_3, hgp4_3]
      have hSp4_3 := below_next hSp4_2 hbp4_3
      have Gp4_3 : Vp4_.heap.size ≤ gp4_3 := by have := hSp4_2.size; omega
      refine hK.out _ _ hSp4_3 (fun h => ?_)
      clear h hK K hbp4_3 hwp4_3 hgp4_3
      (try simp only [pS])
      refine wpAnyH_ready (rs := [6]) (by kernel_rfl) (by simp) ?_
      refine AllReadyH.cons (o := qp4x6) rfl (fun K hK => ?_) (AllReadyH.nil)
      unfold qp4x6
      rw [if_pos (by rfl)]
      refine num_store _ _ rfl gp4_3 0 sq rfl rfl rp4_3 hSp4_3 Gp4_3 (fun wp4_4 r0 hSp4_4 far => ?_)
      refine hK.out _ _ hSp4_4 (fun h => ?_)
      clear h hK K far rp4_3
      have rp4_3 := r0
      clear r0
      (try dsimp only [Act.put])
      refine wpAnyH_done (by kernel_rfl) ?_ _
      refine NoPanic.normal ?_
      go_wp2
      go_meet
      case rel => exact ⟨gp4_3, rfl, below_next hdrew hSp4_4, Nat.le_trans hdrew.size Gp4_3, rp4_3⟩
    · unfold qp4x5
      go_simp
      obtain ⟨wp4_5, gp4_5, hwp4_5, hgp4_5, hbp4_5, rp4_5⟩ := fresh4 wp4_1
      rw [hwp4_5, hgp4_5]
      have hSp4_5 := below_next hSp4_1 hbp4_5
      have Gp4_5 : Vp4_.heap.size ≤ gp4_5 := by have := hSp4_1.size; omega
      refine hK.out _ _ hSp4_5 (fun h => ?_)
      clear h hK K hbp4_5 hwp4_5 hgp4_5
      (try simp only [pS])
      refine callH 4 (oN 35 (cF1 34 #[oT 33, oT 34] #[43, 43]) 43 "number.go:91" #[jD 2, jD 3, jC 2]) (k11 _) ?_
      (rintro e wp4_6 ⟨rfl, hbp4_6⟩)
      have hSp4_6 := below_next hSp4_5 hbp4_6
      replace rp4_5 := rp4_5.still hbp4_6
      refine ⟨_, rfl, hSp4_6, ?_⟩
      clear hbp4_6
      (try simp only [pS])
      refine wpAnyH_ready (rs := [6]) (by kernel_rfl) (by simp) ?_
      refine AllReadyH.cons (o := qp4x6) rfl (fun K hK => ?_) (AllReadyH.nil)
      unfold qp4x6
      rw [if_pos (by rfl)]
      refine num_store _ _ rfl gp4_5 0 sq rfl rfl rp4_5 hSp4_6 Gp4_5 (fun wp4_7 r0 hSp4_7 far => ?_)
      refine hK.out _ _ hSp4_7 (fun h => ?_)
      clear h hK K far rp4_5
      have rp4_5 := r0
      clear r0
      (try dsimp only [Act.put])
      refine wpAnyH_done (by kernel_rfl) ?_ _
      refine NoPanic.normal ?_
      go_wp2
      go_meet
      case rel => exact ⟨gp4_5, rfl, below_next hdrew hSp4_7, Nat.le_trans hdrew.size Gp4_5, rp4_5⟩
  · unfold qp4x5
    go_simp
    obtain ⟨wp4_8, gp4_8, hwp4_8, hgp4_8, hbp4_8, rp4_8⟩ := fresh4 Vp4_
    rw [hwp4_8, hgp4_8]
    have hSp4_8 := below_next hS hbp4_8
    have Gp4_8 : Vp4_.heap.size ≤ gp4_8 := by have := hS.size; omega
    refine hK.out _ _ hSp4_8 (fun h => ?_)
    clear h hK K hbp4_8 hwp4_8 hgp4_8
    (try simp only [pS])
    refine callH 2 (oN 33 (cF1 34 #[oT 31, oT 32] #[43, 43]) 43 "number.go:91" #[jD 0, jD 1]) (k10 _) ?_
    (rintro e wp4_9 ⟨rfl, hbp4_9⟩)
    have hSp4_9 := below_next hSp4_8 hbp4_9
    replace rp4_8 := rp4_8.still hbp4_9
    refine ⟨_, rfl, hSp4_9, ?_⟩
    clear hbp4_9
    (try simp only [pS])
    refine callH 4 (oN 35 (cF1 34 #[oT 33, oT 34] #[43, 43]) 43 "number.go:91" #[jD 2, jD 3, jC 2]) (k11 _) ?_
    (rintro e wp4_10 ⟨rfl, hbp4_10⟩)
    have hSp4_10 := below_next hSp4_9 hbp4_10
    replace rp4_8 := rp4_8.still hbp4_10
    refine ⟨_, rfl, hSp4_10, ?_⟩
    clear hbp4_10
    (try simp only [pS])
    refine wpAnyH_ready (rs := [6]) (by kernel_rfl) (by simp) ?_
    refine AllReadyH.cons (o := qp4x6) rfl (fun K hK => ?_) (AllReadyH.nil)
    unfold qp4x6
    rw [if_pos (by rfl)]
    refine num_store _ _ rfl gp4_8 0 sq rfl rfl rp4_8 hSp4_10 Gp4_8 (fun wp4_11 r0 hSp4_11 far => ?_)
    refine hK.out _ _ hSp4_11 (fun h => ?_)
    clear h hK K far rp4_8
    have rp4_8 := r0
    clear r0
    (try dsimp only [Act.put])
    refine wpAnyH_done (by kernel_rfl) ?_ _
    refine NoPanic.normal ?_
    go_wp2
    go_meet
    case rel => exact ⟨gp4_8, rfl, below_next hdrew hSp4_11, Nat.le_trans hdrew.size Gp4_8, rp4_8⟩
 case rest =>
 obtain ⟨g109, rfl, hb109, G109, h109⟩ := hcut
 have lt4 := h4.lt
 replace hU := hU.still hb109
 replace hV := hV.still hb109
 replace h4 := h4.still hb109
 replace h106 := h106.still hb109
 replace h107 := h107.still hb109
 replace h108 := h108.still hb109
 replace im := im.still hb109
 obtain ⟨U4, hU4⟩ : ∃ W, W = wc := ⟨_, rfl⟩
 rw [← hU4]
 rw [← hU4] at hU hV h4 h106 h107 h108 h109 im hb109
 replace hbW : Below w.heap.size w U4 := below_next hbW hb109
 have n4_109 : g109 ≠ g4 := by omega
 clear hU4 hb109 G109 lt4
 go_upto_region 5 with (fail)
 clear k1 k2 k3 k4 k5 k6 k7 k8 k9 k10 k11 hV h106 h107
 have sqr := h109.range
 have ur := hU.range
 by_cases h1 : sq = u
 · have Hr : Hid (r = evn x0) := Hid.mk' (by rw [Hr0.out, if_pos h1])
   have Hk : Hid (ok = true) := Hid.mk' (by rw [Hk0.out, if_pos h1])
   clear Hr0 Hk0
   have d1 : decide (sq = u) = true := decide_eq_true h1
   clear h1 k12 k13
   go_upto_region 9 with (first
    | (refine wpList_load_mid rfl 43 _ rfl g109 0 rfl (c4 sq) _ sqr Tryd.underlying43 rfl info4 ?_)
    | (refine wpList_load_mid rfl 43 _ rfl g2 0 rfl (c4 u) _ ur Tryd.underlying43 rfl info4 ?_)
    | (refine wpList_neq rfl _ _ _ rfl sq u hsq hu rfl rfl true d1 ?_))
   clear sqr ur h109 hU
   have ko : ∀ W, Calls Tryd.prog 90 #[.agg (c4 x0).toArray] W fun e w' => e = .returned (.bool (x0 % 2 == 1)) ∧ Below W.heap.size W w' := fun W => k14 W x0 hx0
   have km : ∀ W, Calls Tryd.prog 42 #[.agg (c4 0).toArray, .agg (c4 x0).toArray] W fun e w' => e = .returned (.agg (c4 ((0 + pF - x0) % pF)).toArray) ∧ Below W.heap.size W w' := fun W => k15 W x0 hx0
   clear k14 k15
   cases hpar : (x0 % 2 == 1) with
   | false =>
    rw [hpar] at ko
    have Hr2 : Hid (r = x0) := Hid.mk' (by rw [Hr.out, evn_even hpar])
    clear km hpar Hr
    go_wp2_with (first
     | (refine wpList_load_mid rfl 43 _ rfl g108 0 rfl (c4 x0) _ h108.range Tryd.underlying43 rfl info4 ?_)
     | (go_at_call 90; refine (ko _).mono ?_; clear ko; rintro e w9 ⟨rfl, hb9⟩; (replace h108 := h108.still hb9); (replace h4 := h4.still hb9); (replace hbW := below_next hbW hb9); clear hb9; (have t4 : w9.there g4 0 (c4 x0).toArray.size := h4.there))
     | (with_reducible (refine id (?_ : wpList _ _ _ _ _ _)); refine wpList_store_mid rfl 43 _ _ rfl g4 0 (c4 x0).toArray rfl rfl t4 (info4a x0) (one4 x0) ?_))
    (try simp only [Exit.inBlock, Exit.then])
    exact bodyPost_ret (results_cell_tmp Tryd.results83 _ _ g4 0 (c4 x0) _ rfl (h4.stored (c4 x0) rfl).range Tryd.underlying43 rfl info4) rfl ⟨by rw [Hr2.out, Hk.out]; rfl, below_setCells w4 _ _ _ hbW⟩
   | true =>
    rw [hpar] at ko
    obtain ⟨y, hy⟩ : ∃ y, (0 + pF - x0) % pF = y := ⟨_, rfl⟩
    rw [hy] at km
    have Hr2 : Hid (r = y) := Hid.mk' (by rw [Hr.out, evn_odd hpar, hy])
    clear hpar hy Hr
    go_wp2_with (first
     | (refine wpList_load_mid rfl 43 _ rfl g108 0 rfl (c4 x0) _ h108.range Tryd.underlying43 rfl info4 ?_)
     | (refine wpList_load_mid rfl 43 _ rfl g108 0 rfl (c4 y) _ h108.range Tryd.underlying43 rfl info4 ?_)
     | (refine wpList_build0 rfl 43 rfl (c4 0).toArray built0 ?_)
     | (go_at_call 90; refine (ko _).mono ?_; clear ko; rintro e w9 ⟨rfl, hb9⟩; (replace h108 := h108.still hb9); (replace h4 := h4.still hb9); (replace hbW := below_next hbW hb9); clear hb9)
     | (go_at_call 42; refine (km _).mono ?_; clear km; rintro e w10 ⟨rfl, hb10⟩; (replace h108 := h108.still hb10); (replace h4 := h4.still hb10); (replace hbW := below_next hbW hb10); clear hb10; (have t8 : w10.there g108 0 (c4 y).toArray.size := h108.there); (obtain ⟨V8, hV8⟩ : ∃ V, V = w10.setCells g108 0 (c4 y) := ⟨_, rfl⟩); (replace h108 := h108.stored (c4 y) rfl); (replace h4 := h4.far g108 0 (c4 y) (.inl n4_108.symm)); (replace hbW := below_setCells w108 (c4 y) 0 _ hbW); rw [← hV8] at h108 h4 hbW; (have H8 := Hid.mk' hV8); clear hV8; (have t4 : V8.there g4 0 (c4 y).toArray.size := h4.there))
     | (with_reducible (refine id (?_ : wpList _ _ _ _ _ _)); refine wpList_store_mid rfl 43 _ _ rfl g108 0 (c4 y).toArray rfl rfl t8 (info4a y) (one4 y) ?_; rw [List.toList_toArray, ← H8.out]; clear t8)
     | (with_reducible (refine id (?_ : wpList _ _ _ _ _ _)); refine wpList_store_mid rfl 43 _ _ rfl g4 0 (c4 y).toArray rfl rfl t4 (info4a y) (one4 y) ?_))
    (try simp only [Exit.inBlock, Exit.then])
    exact bodyPost_ret (results_cell_tmp Tryd.results83 _ _ g4 0 (c4 y) _ rfl (h4.stored (c4 y) rfl).range Tryd.underlying43 rfl info4) rfl ⟨by rw [Hr2.out, Hk.out]; rfl, below_setCells w4 _ _ _ hbW⟩
 · have Hr1 : Hid (r = if sq = nu then evn xi else 0) := Hid.mk' (by rw [Hr0.out, if_neg h1])
   have Hk1 : Hid (ok = decide (sq = nu)) := Hid.mk' (by rw [Hk0.out, if_neg h1])
   clear Hr0 Hk0
   have d1 : decide (sq = u) = false := decide_eq_false h1
   clear h1
   go_upto_region 6 with (first
    | (refine wpList_load_mid rfl 43 _ rfl g109 0 rfl (c4 sq) _ sqr Tryd.underlying43 rfl info4 ?_)
    | (refine wpList_load_mid rfl 43 _ rfl g2 0 rfl (c4 u) _ ur Tryd.underlying43 rfl info4 ?_)
    | (refine wpList_neq rfl _ _ _ rfl sq u hsq hu rfl rfl false d1 ?_))
   clear sqr ur d1
   obtain ⟨z, hz⟩ : ∃ z, decide (sq = nu) = z := ⟨_, rfl⟩
   have Hk : Hid (ok = z) := Hid.mk' (by rw [Hk1.out, hz])
   clear Hk1
   (try simp only [Act.put, List.setIfInBounds_toArray, List.set_cons_zero, List.set_cons_succ, Bool.not_false])
   go_cut [43] from 10 (fun s43 wc => s43 = .bool (!z) ∧ Below U4.heap.size U4 wc)
   case first =>
    clear k13 k14 k15 im
    have hdrew : Below U4.heap.size U4 U4.drew := (Below.refl _ _).drew
    replace hU := hU.still hdrew
    replace h109 := h109.still hdrew
    refine wp_region_noPanic ?_
    refine wp_region_held_drew (S := fun w' => Below U4.drew.heap.size U4.drew w') (by kernel_rfl) (Below.refl _ _) (fun hS => ?_)
    generalize U4.drew = Vp6_ at *
    refine tkH 0 (oN 39 (Op.load 43 (oT 9)) 43 "number.go:93" #[]) (numV sq) hS (ldN h109 9) ?_
    (try simp only [pS])
    refine tkH 1 (oN 40 (Op.build 43 #[]) 43 "number.go:93" #[]) (numV 0) hS (yields_build0 (by rfl) 43 rfl _ built0) ?_
    (try simp only [pS])
    refine tkH 2 (oN 41 (Op.load 43 (oT 2)) 43 "number.go:93" #[]) (numV u) hS (ldN hU 2) ?_
    (try simp only [pS])
    refine callH 3 (oN 42 (cF1 42 #[oT 40, oT 41] #[43, 43]) 43 "number.go:93" #[jD 1, jD 2]) (k12 _) ?_
    (rintro e wp6_1 ⟨rfl, hbp6_1⟩)
    have hSp6_1 := below_next hS hbp6_1
    refine ⟨_, rfl, hSp6_1, ?_⟩
    clear hbp6_1
    (try simp only [pS])
    refine tkH 4 (oN 43 (Op.binOp BinOp.neq 43 (oT 39) (oT 42) 43) 4 "number.go:93" #[jD 0, jD 3]) (.bool (!z)) hSp6_1 (yields_neq (by rfl) _ _ _ rfl sq nu hsq hnu rfl rfl z hz) ?_
    (try simp only [pS])
    refine wpAnyH_done (by kernel_rfl) ?_ _
    refine NoPanic.normal ?_
    go_wp2
    go_meet
    case rel => exact ⟨rfl, below_next hdrew hSp6_1⟩
   case rest =>
   obtain ⟨rfl, hb6⟩ := hcut
   replace h108 := h108.still hb6
   replace h4 := h4.still hb6
   replace im := im.still hb6
   replace hbW := below_next hbW hb6
   clear hb6 h109 hU k12
   cases z with
   | false =>
    have Hr : Hid (r = 0) := Hid.mk' (by rw [Hr1.out, if_neg (of_decide_eq_false hz)])
    clear Hr1
    have t4 : wc.there g4 0 (c4 0).toArray.size := h4.there
    clear hz k13 k14 k15
    go_wp2_with (first
     | (refine wpList_build0 rfl 43 rfl (c4 0).toArray built0 ?_)
     | (with_reducible (refine id (?_ : wpList _ _ _ _ _ _)); refine wpList_store_mid rfl 43 _ _ rfl g4 0 (c4 0).toArray rfl rfl t4 (info4a 0) (one4 0) ?_))
    (try simp only [Exit.inBlock, Exit.then])
    exact bodyPost_ret (results_cell_tmp Tryd.results83 _ _ g4 0 (c4 0) _ rfl (h4.stored (c4 0) rfl).range Tryd.underlying43 rfl info4) rfl ⟨by rw [Hr.out, Hk.out]; rfl, below_setCells w4 _ _ _ hbW⟩
   | true =>
    have Hr : Hid (r = evn xi) := Hid.mk' (by rw [Hr1.out, if_pos (of_decide_eq_true hz)])
    clear hz Hr1
    have imr := im.range
    replace k13 : ∀ W, Calls Tryd.prog 34 #[.agg (c4 x0).toArray, .agg (c4 iM).toArray] W fun e w' => e = .returned (.agg (c4 xi).toArray) ∧ Below W.heap.size W w' := k13
    go_upto_region 9 with (first
     | (refine wpList_load_mid rfl 43 _ rfl g108 0 rfl (c4 x0) _ h108.range Tryd.underlying43 rfl info4 ?_)
     | (refine wpList_load_mid rfl 41 _ rfl 5 0 rfl (c4 iM) _ imr Tryd.underlying41 rfl infoLimbs ?_)
     | (refine wpList_build1 rfl 43 0 _ rfl (.agg (c4 iM).toArray) rfl (c4 iM).toArray (built1 iM) ?_)
     | (go_at_call 34; refine (k13 _).mono ?_; clear k13 imr; rintro e w8 ⟨rfl, hb8⟩; (replace h108 := h108.still hb8); (replace h4 := h4.still hb8); (replace hbW := below_next hbW hb8); clear hb8 im; (have t8 : w8.there g108 0 (c4 xi).toArray.size := h108.there); (obtain ⟨V7, hV7⟩ : ∃ V, V = w8.setCells g108 0 (c4 xi) := ⟨_, rfl⟩); (replace h108 := h108.stored (c4 xi) rfl); (replace h4 := h4.far g108 0 (c4 xi) (.inl n4_108.symm)); (replace hbW := below_setCells w108 (c4 xi) 0 _ hbW); rw [← hV7] at h108 h4 hbW; (have H7 := Hid.mk' hV7); clear hV7)
     | (with_reducible (refine id (?_ : wpList _ _ _ _ _ _)); refine wpList_store_mid rfl 43 _ _ rfl g108 0 (c4 xi).toArray rfl rfl t8 (info4a xi) (one4 xi) ?_; rw [List.toList_toArray, ← H7.out]; clear t8))
    have ko : ∀ W, Calls Tryd.prog 90 #[.agg (c4 xi).toArray] W fun e w' => e = .returned (.bool (xi % 2 == 1)) ∧ Below W.heap.size W w' := fun W => k14 W xi hxi
    have km : ∀ W, Calls Tryd.prog 42 #[.agg (c4 0).toArray, .agg (c4 xi).toArray] W fun e w' => e = .returned (.agg (c4 ((0 + pF - xi) % pF)).toArray) ∧ Below W.heap.size W w' := fun W => k15 W xi hxi
    clear k14 k15
    cases hpar : (xi % 2 == 1) with
    | false =>
     rw [hpar] at ko
     have Hr2 : Hid (r = xi) := Hid.mk' (by rw [Hr.out, evn_even hpar])
     clear km hpar Hr
     go_wp2_with (first
      | (refine wpList_load_mid rfl 43 _ rfl g108 0 rfl (c4 xi) _ h108.range Tryd.underlying43 rfl info4 ?_)
      | (go_at_call 90; refine (ko _).mono ?_; clear ko; rintro e w9 ⟨rfl, hb9⟩; (replace h108 := h108.still hb9); (replace h4 := h4.still hb9); (replace hbW := below_next hbW hb9); clear hb9; (have t4 : w9.there g4 0 (c4 xi).toArray.size := h4.there))
      | (with_reducible (refine id (?_ : wpList _ _ _ _ _ _)); refine wpList_store_mid rfl 43 _ _ rfl g4 0 (c4 xi).toArray rfl rfl t4 (info4a xi) (one4 xi) ?_))
     (try simp only [Exit.inBlock, Exit.then])
     exact bodyPost_ret (results_cell_tmp Tryd.results83 _ _ g4 0 (c4 xi) _ rfl (h4.stored (c4 xi) rfl).range Tryd.underlying43 rfl info4) rfl ⟨by rw [Hr2.out, Hk.out]; rfl, below_setCells w4 _ _ _ hbW⟩
    | true =>
     rw [hpar] at ko
     obtain ⟨y, hy⟩ : ∃ y, (0 + pF - xi) % pF = y := ⟨_, rfl⟩
     rw [hy] at km
     have Hr2 : Hid (r = y) := Hid.mk' (by rw [Hr.out, evn_odd hpar, hy])
     clear hpar hy Hr
     go_wp2_with (first
      | (refine wpList_load_mid rfl 43 _ rfl g108 0 rfl (c4 xi) _ h108.range Tryd.underlying43 rfl info4 ?_)
      | (refine wpList_load_mid rfl 43 _ rfl g108 0 rfl (c4 y) _ h108.range Tryd.underlying43 rfl info4 ?_)
      | (refine wpList_build0 rfl 43 rfl (c4 0).toArray built0 ?_)
      | (go_at_call 90; refine (ko _).mono ?_; clear ko; rintro e w9 ⟨rfl, hb9⟩; (replace h108 := h108.still hb9); (replace h4 := h4.still hb9); (replace hbW := below_next hbW hb9); clear hb9)
      | (go_at_call 42; refine (km _).mono ?_; clear km; rintro e w10 ⟨rfl, hb10⟩; (replace h108 := h108.still hb10); (replace h4 := h4.still hb10); (replace hbW := below_next hbW hb10); clear hb10; (have t8 : w10.there g108 0 (c4 y).toArray.size := h108.there); (obtain ⟨V8, hV8⟩ : ∃ V, V = w10.setCells g108 0 (c4 y) := ⟨_, rfl⟩); (replace h108 := h108.stored (c4 y) rfl); (replace h4 := h4.far g108 0 (c4 y) (.inl n4_108.symm)); (replace hbW := below_setCells w108 (c4 y) 0 _ hbW); rw [← hV8] at h108 h4 hbW; (have H8 := Hid.mk' hV8); clear hV8; (have t4 : V8.there g4 0 (c4 y).toArray.size := h4.there))
      | (with_reducible (refine id (?_ : wpList _ _ _ _ _ _)); refine wpList_store_mid rfl 43 _ _ rfl g108 0 (c4 y).toArray rfl rfl t8 (info4a y) (one4 y) ?_; rw [List.toList_toArray, ← H8.out]; clear t8)
      | (with_reducible (refine id (?_ : wpList _ _ _ _ _ _)); refine wpList_store_mid rfl 43 _ _ rfl g4 0 (c4 y).toArray rfl rfl t4 (info4a y) (one4 y) ?_))
     (try simp only [Exit.inBlock, Exit.then])
     exact bodyPost_ret (results_cell_tmp Tryd.results83 _ _ g4 0 (c4 y) _ rfl (h4.stored (c4 y) rfl).range Tryd.underlying43 rfl info4) rfl ⟨by rw [Hr2.out, Hk.out]; rfl, below_setCells w4 _ _ _ hbW⟩
end Go.Proofs.YtdgkmloabificaaDoor
namespace Go.Proofs.YtdgkmloabificaaDoor
open Go.RowKit
theorem lw0_mod (n : Nat) : lw n 0 % 2 = n % 2 := by unfold lw; simp only [Nat.pow_zero, Nat.div_one]; omega
theorem ofInt_w64 (a : Nat) (ha : a < 18446744073709551616) : (BitVec.ofInt 64 (a : Int)).toNat = a := by
 rw [BitVec.toNat_ofInt]
 omega
theorem u64_and1 (a : Nat) (ha : a < 18446744073709551616) : bits .and .u64 (a : Int) 1 = ((a % 2 : Nat) : Int) := by
 have hx : a &&& 1 ≤ a := Nat.and_le_left
 show IntKind.u64.wrap ((BitVec.ofInt 64 (a : Int) &&& BitVec.ofInt 64 ((1 : Nat) : Int)).toNat : Int) = _
 rw [BitVec.toNat_and, ofInt_w64 a ha, ofInt_w64 1 (by decide), IntKind.wrap_u64, ← Nat.and_one_is_mod]
 omega
set_option maxRecDepth 20000 in
theorem odd_any (n : Nat) (w : World) : Calls Tryd.prog 90 #[numV n] w fun e w' => e = .returned (.bool (n % 2 == 1)) ∧ Below w.heap.size w w' := by
 have e1 := u64_and1 (lw n 0) (lw_lt n 0)
 rw [lw0_mod] at e1
 obtain ⟨z, hz⟩ : ∃ z, z = (n % 2 == 1) := ⟨_, rfl⟩
 rw [← hz]
 unfold numV
 go_enter Tryd.func90, Tryd.ntmps90
 go_wp2
 go_ret
 refine ⟨?_, (Below.refl _ _).alloc (Nat.le_refl _) _⟩
 simp [hz]
 rcases Nat.mod_two_eq_zero_or_one n with h | h
 · have h2 : (n : Int) % 2 = 0 := by omega
   rw [h, h2]; rfl
 · have h2 : (n : Int) % 2 = 1 := by omega
   rw [h, h2]; rfl
/-- The exponent (p - 5) / 8. -/
def kP : Nat := 7237005577332262213973186563042994240829374041602535252466099000494570602493
theorem kP_eq : 8 * kP + 5 = pF := by decide
theorem rootq_any (u v : Nat) (hu : u < pF) (hv : v < pF) (w : World) (im : IM w) :
 Calls Tryd.prog 83 #[numV u, numV v] w fun e w' => e = .returned (.tuple #[numV ((rootP kP u v).getD 0), .bool (rootP kP u v).isSome]) ∧ Below w.heap.size w w' := by
 have hbs : ∀ b : Nat, b < pF → b ^ 1 % pF = b := fun b h => by rw [Nat.pow_one, Nat.mod_eq_of_lt h]
 have hl : ∀ a : Nat, a % pF < pF := fun a => Nat.mod_lt _ pF_pos
 obtain ⟨E, hE⟩ : ∃ E : Nat, 1809251394333065553493296640760748560207343510400633813116524750123642650623 = E := ⟨_, rfl⟩
 obtain ⟨kk, hkk⟩ : ∃ kk, kP = kk := ⟨_, rfl⟩
 have hsum : 1 + E * 2 ^ 2 = kk := by rw [← hE, ← hkk]; decide
 obtain ⟨v2, hv2⟩ : ∃ x, x = v * v % pF := ⟨_, rfl⟩
 obtain ⟨v3, hv3⟩ : ∃ x, x = v2 * v % pF := ⟨_, rfl⟩
 obtain ⟨a1, ha1⟩ : ∃ x, x = u * v3 % pF := ⟨_, rfl⟩
 obtain ⟨a2, ha2⟩ : ∃ x, x = a1 * v3 % pF := ⟨_, rfl⟩
 obtain ⟨b, hb⟩ : ∃ x, x = a2 * v % pF := ⟨_, rfl⟩
 obtain ⟨o, ho⟩ : ∃ x, x = b ^ E % pF := ⟨_, rfl⟩
 obtain ⟨t, ht⟩ : ∃ x, x = b ^ kk % pF := ⟨_, rfl⟩
 obtain ⟨t2, ht2⟩ : ∃ x, x = t * u % pF := ⟨_, rfl⟩
 obtain ⟨x0, hx0⟩ : ∃ x, x = t2 * v3 % pF := ⟨_, rfl⟩
 obtain ⟨xx, hxx⟩ : ∃ x, x = x0 * x0 % pF := ⟨_, rfl⟩
 obtain ⟨sq, hsq⟩ : ∃ x, x = xx * v % pF := ⟨_, rfl⟩
 obtain ⟨nu, hnu⟩ : ∃ x, x = (0 + pF - u) % pF := ⟨_, rfl⟩
 obtain ⟨xi, hxi⟩ : ∃ x, x = x0 * iM % pF := ⟨_, rfl⟩
 have lv2 : v2 < pF := by rw [hv2]; exact hl _
 have lv3 : v3 < pF := by rw [hv3]; exact hl _
 have la1 : a1 < pF := by rw [ha1]; exact hl _
 have la2 : a2 < pF := by rw [ha2]; exact hl _
 have lb : b < pF := by rw [hb]; exact hl _
 have lt : t < pF := by rw [ht]; exact hl _
 have lt2 : t2 < pF := by rw [ht2]; exact hl _
 have lx0 : x0 < pF := by rw [hx0]; exact hl _
 have lxx : xx < pF := by rw [hxx]; exact hl _
 have lsq : sq < pF := by rw [hsq]; exact hl _
 have lnu : nu < pF := by rw [hnu]; exact hl _
 have lxi : xi < pF := by rw [hxi]; exact hl _
 have hX : rootX kk u v = x0 := by
  unfold rootX
  rw [← hv2, ← hv3, ← ha1, ← ha2, ← hb, ← ht, ← ht2, ← hx0]
 have h := rootq_raw u v v2 v3 a1 a2 b o t t2 x0 xx sq nu xi hu lsq lnu lx0 lxi
  (fun W => by rw [hv2]; exact times_any v v hv hv W) (fun W => by rw [hv3]; exact times_any v2 v lv2 hv W) (fun W => by rw [ha1]; exact times_any u v3 hu lv3 W) (fun W => by rw [ha2]; exact times_any a1 v3 la1 lv3 W) (fun W => by rw [hb]; exact times_any a2 v la2 hv W)
  (fun W => by
    have h := ones250_any b W
    rw [hbs _ lb, hE, ← ho] at h
    exact h)
  (fun W => by
    have h := then_pow b E 1 2 kk hsum (by decide) W
    rw [hbs _ lb, ← ho, ← ht] at h
    exact h)
  (fun W => by rw [ht2]; exact times_any t u lt hu W) (fun W => by rw [hx0]; exact times_any t2 v3 lt2 lv3 W) (fun W => by rw [hxx]; exact times_any x0 x0 lx0 lx0 W) (fun W => by rw [hsq]; exact times_any xx v lxx hv W)
  (fun W => by rw [hnu]; exact minus_any 0 u (by decide) hu W) (fun W => by rw [hxi]; exact times_any x0 iM lx0 (by decide) W) (fun W z _ => odd_any z W) (fun W z hz => minus_any 0 z (by decide) hz W) w im
 have hP : rootP kk u v = if sq = u then some (evn x0) else if sq = nu then some (evn xi) else none := by
  unfold rootP
  rw [hX, ← hxx, ← hsq, ← hnu, ← hxi]
 rw [hkk, hP]
 refine h.mono fun e w' ⟨he, hb⟩ => ⟨he.trans ?_, hb⟩
 by_cases h1 : sq = u
 · simp only [if_pos h1]; rfl
 · simp only [if_neg h1]
   by_cases h2 : sq = nu
   · simp only [if_pos h2, decide_eq_true h2]; rfl
   · simp only [if_neg h2, decide_eq_false h2]; rfl
end Go.Proofs.YtdgkmloabificaaDoor
namespace Go.Proofs.YtdgkmloabificaaDoor
open Go.RowKit
theorem rootY_lt (k u v : Nat) : rootY k u v < pF := Nat.mod_lt _ pF_pos
theorem rootZ_lt (k u v : Nat) : rootZ k u v < pF := by
 unfold rootZ
 split
 · exact rootY_lt k u v
 · exact Nat.mod_lt _ pF_pos
end Go.Proofs.YtdgkmloabificaaDoor
namespace Go.Proofs.YtdgkmloabificaaDoor
open Go.RowKit
/-- The bytes without the highest bit. -/
def lo6 (bs : Nat → Nat) (j : Nat) : Nat := if j = 31 then bs 31 % 128 else bs j
theorem lo6_lt {bs : Nat → Nat} (h : ∀ j, bs j < 256) (j : Nat) : lo6 bs j < 256 := by
 unfold lo6; split
 · have := h 31; omega
 · exact h j
/-- What the bytes tell: a point, or none. -/
def decU (y : Nat) : Nat := fsub (fmul y y) 1
def decV (y : Nat) : Nat := fadd (fmul dN (fmul y y)) 1
def decN (bs : Nat → Nat) : Option N4 :=
 if ofB (lo6 bs) 32 < pF then
  match rootR kP (decU (ofB (lo6 bs) 32)) (decV (ofB (lo6 bs) 32)) with
  | none => none
  | some x => if bs 31 / 128 = 1 ∧ x = 0 then none else some (ofXY (if bs 31 / 128 = 1 then fsub 0 x else x) (ofB (lo6 bs) 32))
 else none
theorem opt_lt6 (c : Prop) [Decidable c] (x P : Nat) (h : x < P) (h0 : 0 < P) : (if c then some x else none : Option Nat).getD 0 < P := by
 split
 · exact h
 · exact h0
theorem evn_lt6 {x : Nat} (h : x < pF) : evn x < pF := by
 unfold evn
 split
 · exact Nat.mod_lt _ pF_pos
 · exact h
theorem rootR_lt6 (k u v : Nat) : (rootR k u v).getD 0 < pF := opt_lt6 _ _ pF (evn_lt6 (rootZ_lt k u v)) pF_pos
end Go.Proofs.YtdgkmloabificaaDoor
namespace Go.Proofs.YtdgkmloabificaaDoor
def ordN : Nat := 7237005577332262213973186563042994240857116359379907606001950938285454250989
theorem lprime0 : Prm 1224481 := prime_trial 1224481 1107 (by decide) (by decide) (by kernel_rfl)
theorem lprime1 : Prm 1257559732178653 :=
 pock (f := 1224481) (Q := 1027014492) (a := 2) lprime0 (by decide) (by decide)
  (by rw [← pm_eq 1257559732178653 2 256 (1257559732178653 - 1) (by decide)]; kernel_rfl)
  (by rw [← pm_eq 1257559732178653 2 256 1027014492 (by decide)]; kernel_rfl) (by decide)
theorem lprime2 : Prm 4434155615661930479 :=
 pock (f := 1257559732178653) (Q := 3526) (a := 2) lprime1 (by decide) (by decide)
  (by rw [← pm_eq 4434155615661930479 2 256 (4434155615661930479 - 1) (by decide)]; kernel_rfl)
  (by rw [← pm_eq 4434155615661930479 2 256 3526 (by decide)]; kernel_rfl) (by decide)
theorem lprime3 : Prm 172054593956031949258510691 :=
 pock (f := 4434155615661930479) (Q := 38802110) (a := 2) lprime2 (by decide) (by decide)
  (by rw [← pm_eq 172054593956031949258510691 2 256 (172054593956031949258510691 - 1) (by decide)]; kernel_rfl)
  (by rw [← pm_eq 172054593956031949258510691 2 256 38802110 (by decide)]; kernel_rfl) (by decide)
theorem lprime4 : Prm 19757330305831588566944191468367130476339 :=
 pock (f := 172054593956031949258510691) (Q := 114831751082918) (a := 2) lprime3 (by decide) (by decide)
  (by rw [← pm_eq 19757330305831588566944191468367130476339 2 256 (19757330305831588566944191468367130476339 - 1) (by decide)]; kernel_rfl)
  (by rw [← pm_eq 19757330305831588566944191468367130476339 2 256 114831751082918 (by decide)]; kernel_rfl) (by decide)
theorem lprime5 : Prm 276602624281642239937218680557139826668747 :=
 pock (f := 19757330305831588566944191468367130476339) (Q := 14) (a := 2) lprime4 (by decide) (by decide)
  (by rw [← pm_eq 276602624281642239937218680557139826668747 2 256 (276602624281642239937218680557139826668747 - 1) (by decide)]; kernel_rfl)
  (by rw [← pm_eq 276602624281642239937218680557139826668747 2 256 14 (by decide)]; kernel_rfl) (by decide)
theorem lprime6 : Prm 7237005577332262213973186563042994240857116359379907606001950938285454250989 :=
 pock (f := 276602624281642239937218680557139826668747) (Q := 26163907866482859529727157400808004) (a := 2) lprime5 (by decide) (by decide)
  (by rw [← pm_eq 7237005577332262213973186563042994240857116359379907606001950938285454250989 2 256 (7237005577332262213973186563042994240857116359379907606001950938285454250989 - 1) (by decide)]; kernel_rfl)
  (by rw [← pm_eq 7237005577332262213973186563042994240857116359379907606001950938285454250989 2 256 26163907866482859529727157400808004 (by decide)]; kernel_rfl) (by decide)
theorem ord_prime : Prm ordN := lprime6
/-- The base. -/
def xB : Nat := 15112221349535400772501151409588531511454012693041857206046113283949847762202
def yB : Nat := 46316835694926478169428394003475163141307993866256225615783033603165251855960
theorem xB_lt : xB < pF := by decide
theorem yB_lt : yB < pF := by decide
theorem base_on : On dE (ptXY xB yB) := ptXY_on (by decide)
/-- Four numbers are the point with these two. -/
def eqN (p : N4) (x y : Nat) : Bool := fmul x p.Z == p.X && fmul y p.Z == p.Y
theorem eqN_pt {p : N4} {P : Fp × Fp} {x y : Nat} (h : Ext4 p P) (he : eqN p x y = true) : P = ptXY x y := by
 unfold eqN at he
 rw [Bool.and_eq_true, beq_iff_eq, beq_iff_eq] at he
 refine (ext_same h (ofXY_ext x y)).1 ⟨?_, ?_⟩
 · show cF p.X * cF 1 = cF x * cF p.Z
   rw [← cF_mul, ← cF_mul, he.1]
   exact Fin.ext (by show fmul p.X 1 % pF = p.X % pF; unfold fmul; rw [Nat.mul_one, Nat.mod_mod])
 · show cF p.Y * cF 1 = cF y * cF p.Z
   rw [← cF_mul, ← cF_mul, he.2]
   exact Fin.ext (by show fmul p.Y 1 % pF = p.Y % pF; unfold fmul; rw [Nat.mul_one, Nat.mod_mod])
/-- So many bases, by reckoning. -/
theorem base_times {k x y : Nat} (hk : k < 256 ^ 32) (h : eqN (mulN dN (ofXY xB yB) (byt k) 256) x y = true) : emul dE k (ptXY xB yB) = ptXY x y := by
 have e := mulN_ext base_on (ofXY_ext xB yB) (byt k) 256
 rw [nB_all (byt k) (byt_lt k), ofB_byt, Nat.mod_eq_of_lt hk] at e
 exact eqN_pt e h
set_option maxRecDepth 100000 in
theorem ord_mul : eqN (mulN dN (ofXY xB yB) (byt ordN) 256) 0 1 = true := by kernel_rfl
theorem zero_pt : ptXY 0 1 = ezero := by unfold ptXY ezero; decide
/-- So many bases as the order says are nothing. -/
theorem base_ord : emul dE ordN (ptXY xB yB) = ezero := (base_times (by decide) ord_mul).trans zero_pt
theorem emul_none (D : Fp) : ∀ n, emul D n ezero = ezero
 | 0 => rfl
 | n + 1 => by
  show eadd D (emul D n ezero) ezero = ezero
  rw [emul_none D n, eadd_zero]
theorem base_mod (n : Nat) : emul dE (n % ordN) (ptXY xB yB) = emul dE n (ptXY xB yB) := by
 have h := emul_add ns_dE base_on (ordN * (n / ordN)) (n % ordN)
 rw [Nat.div_add_mod, ← emul_mul ns_dE base_on, base_ord, emul_none, zero_eadd] at h
 exact h.symm
end Go.Proofs.YtdgkmloabificaaDoor
namespace Go.Proofs.YtdgkmloabificaaDoor
theorem sub_sq {p x : Nat} (hx : x ≤ p) : (p - x) * (p - x) % p = x * x % p := by
 obtain ⟨d, rfl⟩ : ∃ d, p = x + d := ⟨p - x, by omega⟩
 rw [Nat.add_sub_cancel_left]
 have e : d * d + (x + d) * x = x * x + (x + d) * d := by
  rw [Nat.add_mul, Nat.add_mul, Nat.mul_comm d x]; omega
 have h1 : (d * d + (x + d) * x) % (x + d) = d * d % (x + d) := Nat.add_mul_mod_self_left _ _ _
 have h2 : (x * x + (x + d) * d) % (x + d) = x * x % (x + d) := Nat.add_mul_mod_self_left _ _ _
 rw [← h1, e, h2]
theorem evn_sq {x : Nat} (hx : x < pF) : evn x * evn x % pF = x * x % pF := by
 unfold evn
 split
 · rw [Nat.zero_add, ← Nat.mul_mod]
   exact sub_sq (Nat.le_of_lt hx)
 · rfl
theorem evn_two {x : Nat} (hx : x < pF) : evn x % 2 = 0 := by
 have hp : pF % 2 = 1 := by decide
 unfold evn
 by_cases h : x % 2 = 1
 · rw [if_pos h, Nat.zero_add, Nat.mod_eq_of_lt (a := pF - x) (b := pF) (by omega)]
   generalize pF = p at *
   omega
 · rw [if_neg h]
   omega
theorem rootX_lt (k u v : Nat) : rootX k u v < pF := Nat.mod_lt _ pF_pos
/-- What is found is a root, and even. -/
theorem root_is {k u v r : Nat} (hu : u < pF) (h : rootP k u v = some r) : r * r % pF * v % pF = u ∧ r % 2 = 0 := by
 unfold rootP at h
 have hX := rootX_lt k u v
 generalize rootX k u v = X at *
 by_cases h1 : X * X % pF * v % pF = u
 · rw [if_pos h1] at h
   obtain rfl := Option.some.inj h
   exact ⟨by rw [evn_sq hX]; exact h1, evn_two hX⟩
 · rw [if_neg h1] at h
   by_cases h2 : X * X % pF * v % pF = (0 + pF - u) % pF
   · rw [if_pos h2] at h
     obtain rfl := Option.some.inj h
     have hl : X * iM % pF < pF := Nat.mod_lt _ pF_pos
     refine ⟨?_, evn_two hl⟩
     rw [evn_sq hl, times_sq iM_sq, neg_mul _ v (Nat.mod_lt _ pF_pos), h2]
     exact (neg_neg (neg_lt u) hu).2 rfl
   · rw [if_neg h2] at h
     cases h
/-- The root of a square is found. -/
theorem half_pow {k u : Nat} (hk : 8 * k + 5 = pF) (h0 : u ≠ 0) (hu : u < pF) : u ^ (4 * k + 2) % pF = 1 ∨ u ^ (4 * k + 2) % pF = pF - 1 := by
 have hf := prime_p.fermat1 (not_dvd h0 hu)
 rw [show pF - 1 = (4 * k + 2) + (4 * k + 2) by omega, Nat.pow_add, pF_one, Nat.mul_mod] at hf
 have hl : u ^ (4 * k + 2) % pF < pF := Nat.mod_lt _ pF_pos
 generalize u ^ (4 * k + 2) % pF = s at *
 clear hk
 have hs0 : s ≠ 0 := fun h => by rw [h] at hf; exact absurd hf (by decide)
 have hd : pF ∣ (s - 1) * (s + 1) := by
  refine ⟨s * s / pF, ?_⟩
  have e : (s - 1) * (s + 1) = s * s - 1 := by
   obtain ⟨t, rfl⟩ : ∃ t, s = t + 1 := ⟨s - 1, by omega⟩
   rw [Nat.add_sub_cancel, Nat.mul_add t (t + 1) 1, Nat.mul_add t t 1, Nat.add_mul t 1 (t + 1), Nat.mul_add t t 1]; omega
  have h3 := Nat.div_add_mod (s * s) pF
  rw [e]
  generalize s * s = q at *
  generalize q / pF = d at *
  omega
 rcases prime_p.euclid hd with ⟨c, hc⟩ | ⟨c, hc⟩
 · left
   rcases Nat.eq_zero_or_pos c with h | h
   · rw [h, Nat.mul_zero] at hc; omega
   · have := Nat.le_mul_of_pos_right pF h; omega
 · right
   rcases Nat.lt_or_ge c 2 with h | h
   · rcases (show c = 0 ∨ c = 1 by omega) with rfl | rfl
     · omega
     · omega
   · have := Nat.mul_le_mul_left pF h; omega
theorem quo_one {U : Nat} (hU : U < pF) : quoR U 1 = U := by
 unfold quoR
 rw [Nat.one_pow, pF_one, Nat.mul_one, Nat.mod_eq_of_lt hU]
theorem root_found {k u : Nat} (hk : 8 * k + 5 = pF) (hu : u < pF) : (rootP k (u * u % pF) 1).isSome = true := by
 have hU : u * u % pF < pF := Nat.mod_lt _ pF_pos
 rw [root_same hk hU (by decide)]
 unfold rootR rootZ rootY
 rw [quo_one hU]
 have e : ∀ n, (u * u % pF) ^ n % pF = u ^ (2 * n) % pF := fun n => by
  rw [powm, ← Nat.pow_two, ← Nat.pow_mul]
 have hY : (u * u % pF) ^ (k + 1) % pF * ((u * u % pF) ^ (k + 1) % pF) % pF = u ^ (4 * k + 2) % pF * (u * u % pF) % pF := by
  rw [e, ← Nat.mul_mod, ← Nat.mul_mod, ← Nat.pow_add, ← Nat.pow_two, ← Nat.pow_add]
  congr 2
  omega
 have hYl : (u * u % pF) ^ (k + 1) % pF < pF := Nat.mod_lt _ pF_pos
 generalize (u * u % pF) ^ (k + 1) % pF = y at *
 have key : y * y % pF = u * u % pF ∨ y * y % pF = (0 + pF - u * u % pF) % pF := by
  by_cases h0 : u = 0
  · left
    rw [hY, h0, Nat.mul_zero, Nat.zero_mod, Nat.mul_zero, Nat.zero_mod]
  · rcases half_pow hk h0 hu with h | h
    · left
      rw [hY, h, Nat.one_mul, Nat.mod_mod]
    · right
      have h1 := neg_mul 1 (u * u % pF) (by decide)
      rw [show (0 + pF - 1) % pF = pF - 1 from by decide, Nat.one_mul, Nat.mod_mod] at h1
      rw [hY, h, h1]
 have ht := times_sq iM_sq y
 have hyl : y * y % pF < pF := Nat.mod_lt _ pF_pos
 generalize u * u % pF = U at *
 by_cases h1 : y * y % pF = U
 · rw [if_pos h1, if_pos ⟨h1, fun h => absurd h.1 (by decide)⟩]
   rfl
 · rw [if_neg h1, ht]
   rcases key with h | h
   · exact absurd h h1
   · rw [if_pos ⟨(neg_neg hyl hU).2 h, fun h => absurd h.1 (by decide)⟩]
     rfl
end Go.Proofs.YtdgkmloabificaaDoor
