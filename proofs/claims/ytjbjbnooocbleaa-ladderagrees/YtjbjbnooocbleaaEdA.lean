/- Sums of points of an Edwards curve, and the ladder's steps, as identities between polynomials. -/
import Derived.Test.YtjbjbnooocbleaaLCert
namespace Go.Proofs.Ytjbjbnooocbleaa
section
variable {n : Nat} [NeZero n]
theorem ed_closed {x1 y1 x2 y2 D i j : Fin n} (h1 : x1^2+y1^2=1+D*x1^2*y1^2) (h2 : x2^2+y2^2 = 1+D*x2^2*y2^2) (hi : (1+D*x1*x2*y1*y2)*i = 1) (hj : (1-D*x1*x2*y1*y2)*j = 1) :
    ((x1*y2+x2*y1)*i)^2+((y1*y2-x1*x2)*j)^2 = 1+D*((x1*y2+x2*y1)*i)^2*((y1*y2-x1*x2)*j)^2 := by
  have h : (x1*y2+x2*y1)^2*(1-D*x1*x2*y1*y2)^2 + (y1*y2-x1*x2)^2*(1+D*x1*x2*y1*y2)^2 = (1+D*x1*x2*y1*y2)^2*(1-D*x1*x2*y1*y2)^2 + D*(x1*y2+x2*y1)^2*(y1*y2-x1*x2)^2 := by grind
  generalize x1*y2+x2*y1 = a at *
  generalize y1*y2-x1*x2 = b at *
  generalize 1+D*x1*x2*y1*y2 = p at *
  generalize 1-D*x1*x2*y1*y2 = m at *
  grind
theorem ed_cross {a b c d e f : Fin n} (h : a * d = c * b) (hb : b * e = 1) (hd : d * f = 1) : a * e = c * f := by grind
theorem ed_assoc_x {x1 y1 x2 y2 x3 y3 D : Fin n} (h1 : x1^2+y1^2=1+D*x1^2*y1^2) (h2 : x2^2+y2^2 = 1+D*x2^2*y2^2) (h3 : x3^2+y3^2 = 1+D*x3^2*y3^2) :
  ((x1*y2+x2*y1)*y3*(1 - D*x1*x2*y1*y2) + x3*(y1*y2-x1*x2)*(1 + D*x1*x2*y1*y2)) * ((1 + D*x2*x3*y2*y3)*(1 - D*x2*x3*y2*y3) + D*x1*(x2*y3+x3*y2)*y1*(y2*y3-x2*x3)) = (x1*(y2*y3-x2*x3)*(1 + D*x2*x3*y2*y3) + (x2*y3+x3*y2)*y1*(1 - D*x2*x3*y2*y3)) * ((1 + D*x1*x2*y1*y2)*(1 - D*x1*x2*y1*y2) + D*(x1*y2+x2*y1)*x3*(y1*y2-x1*x2)*y3) := by
  grind (splits := 0)
theorem ed_assoc_y {x1 y1 x2 y2 x3 y3 D : Fin n} (h1 : x1^2+y1^2=1+D*x1^2*y1^2) (h2 : x2^2+y2^2 = 1+D*x2^2*y2^2) (h3 : x3^2+y3^2 = 1+D*x3^2*y3^2) :
  ((y1*y2-x1*x2)*y3*(1 + D*x1*x2*y1*y2) - (x1*y2+x2*y1)*x3*(1 - D*x1*x2*y1*y2)) * ((1 + D*x2*x3*y2*y3)*(1 - D*x2*x3*y2*y3) - D*x1*(x2*y3+x3*y2)*y1*(y2*y3-x2*x3)) = (y1*(y2*y3-x2*x3)*(1 + D*x2*x3*y2*y3) - x1*(x2*y3+x3*y2)*(1 - D*x2*x3*y2*y3)) * ((1 + D*x1*x2*y1*y2)*(1 - D*x1*x2*y1*y2) - D*(x1*y2+x2*y1)*x3*(y1*y2-x1*x2)*y3) := by
  grind (splits := 0)
/-- The way from the products to the sums. -/
theorem ed_up_x {a b p m i j c d q k r s x1 y1 x3 y3 D : Fin n} (hi : p*i=1) (hj : m*j=1) (hr : q*r = 1) (hs : k*s=1)
    (h : (a*y3*m + x3*b*p) * (q*k + D*x1*c*y1*d) = (x1*d*q + c*y1*k) * (p*m + D*a*x3*b*y3)) :
    ((a*i)*y3 + x3*(b*j)) * (1 + D*x1*(c*r)*y1*(d*s)) = (x1*(d*s) + (c*r)*y1) * (1 + D*(a*i)*x3*(b*j)*y3) := by
  have e1 : (a*i)*y3 + x3*(b*j) = (a*y3*m + x3*b*p)*(i*j) := by grind
  have e2 : 1 + D*x1*(c*r)*y1*(d*s) = (q*k + D*x1*c*y1*d)*(r*s) := by grind
  have e3 : x1*(d*s) + (c*r)*y1 = (x1*d*q + c*y1*k)*(r*s) := by grind
  have e4 : 1 + D*(a*i)*x3*(b*j)*y3 = (p*m + D*a*x3*b*y3)*(i*j) := by grind
  rw [e1, e2, e3, e4]
  generalize a*y3*m + x3*b*p = A at *
  generalize q*k + D*x1*c*y1*d = B at *
  generalize x1*d*q + c*y1*k = C at *
  generalize p*m + D*a*x3*b*y3 = E at *
  clear e1 e2 e3 e4
  grind
theorem ed_up_y {a b p m i j c d q k r s x1 y1 x3 y3 D : Fin n} (hi : p*i=1) (hj : m*j=1) (hr : q*r = 1) (hs : k*s=1)
    (h : (b*y3*p - a*x3*m) * (q*k - D*x1*c*y1*d) = (y1*d*q - x1*c*k) * (p*m - D*a*x3*b*y3)) :
    ((b*j)*y3 - (a*i)*x3) * (1 - D*x1*(c*r)*y1*(d*s)) = (y1*(d*s) - x1*(c*r)) * (1 - D*(a*i)*x3*(b*j)*y3) := by
  have e1 : (b*j)*y3 - (a*i)*x3 = (b*y3*p - a*x3*m)*(i*j) := by grind
  have e2 : 1 - D*x1*(c*r)*y1*(d*s) = (q*k - D*x1*c*y1*d)*(r*s) := by grind
  have e3 : y1*(d*s) - x1*(c*r) = (y1*d*q - x1*c*k)*(r*s) := by grind
  have e4 : 1 - D*(a*i)*x3*(b*j)*y3 = (p*m - D*a*x3*b*y3)*(i*j) := by grind
  rw [e1, e2, e3, e4]
  generalize b*y3*p - a*x3*m = A at *
  generalize q*k - D*x1*c*y1*d = B at *
  generalize y1*d*q - x1*c*k = C at *
  generalize p*m - D*a*x3*b*y3 = E at *
  clear e1 e2 e3 e4
  grind
/-- The squares behind completeness. -/
theorem ed_sq {x1 y1 x2 y2 D t : Fin n} (h1 : x1^2+y1^2=1+D*x1^2*y1^2) (h2 : x2^2+y2^2 = 1+D*x2^2*y2^2) (ht : t = D*x1*x2*y1*y2) (h : t*t = 1) :
    (x1 + t*y1)^2 = D*(x1*y1*(x2+y2))^2 ∧ (x1 - t*y1)^2 = D*(x1*y1*(x2-y2))^2 := by
  constructor <;> grind
/-- Doubling on the ladder. -/
theorem ed_dbl {e A D x y s j X Z : Fin n} (he : e*e = 1) (h1 : x^2+y^2=1+D*x^2*y^2) (hD : D*(A+2*e) = A-2*e) (hj : (1-D*x*x*y*y)*j = 1) (hX : X = e*s*(1+y)) (hZ : Z = s*(1-y)) (k : Fin n) (hk : 4*k = A - 2) :
    e*(((X+Z)*(X+Z))*((X-Z)*(X-Z))) = (2*s*s*s*s*(A+2*e)*(1-D*y*y)*(1-D*x*x*y*y))*(1+(y*y-x*x)*j) ∧
    (((X+Z)*(X+Z)) - ((X-Z)*(X-Z)))*(((X+Z)*(X+Z)) + k*(((X+Z)*(X+Z)) - ((X-Z)*(X-Z)))) = (2*s*s*s*s*(A+2*e)*(1-D*y*y)*(1-D*x*x*y*y))*(1-(y*y-x*x)*j) := by
  have e1 : (1-D*x*x*y*y)*(1+(y*y-x*x)*j) = 2 - 2*x*x := by grind
  have e2 : (1-D*x*x*y*y)*(1-(y*y-x*x)*j) = 2 - 2*y*y := by grind
  constructor
  · have : (2*s*s*s*s*(A+2*e)*(1-D*y*y)*(1-D*x*x*y*y))*(1+(y*y-x*x)*j) = (2*s*s*s*s*(A+2*e)*(1-D*y*y))*(2-2*x*x) := by rw [← e1]; grind
    rw [this, hX, hZ]; clear this e1 e2 hj
    grind
  · have : (2*s*s*s*s*(A+2*e)*(1-D*y*y)*(1-D*x*x*y*y))*(1-(y*y-x*x)*j) = (2*s*s*s*s*(A+2*e)*(1-D*y*y))*(2-2*y*y) := by rw [← e2]; grind
    rw [this, hX, hZ]; clear this e1 e2 hj
    grind
theorem ed_l1 {D x2 y2 x3 y3 : Fin n} (h2 : x2^2+y2^2 = 1+D*x2^2*y2^2) (h3 : x3^2+y3^2 = 1+D*x3^2*y3^2) :
    ((1-D*y2*y2)*(1-D*y3*y3))*(((1 - D*x2*x3*y2*y3) + (y2*y3 - x2*x3))*((1 + D*x2*x3*y2*y3) + (y2*y3 + x2*x3))) = ((1-D)*(1-D*y2*y2*y3*y3))*((y2+y3)*(y2+y3)) := by grind
theorem ed_l2 {D x2 y2 x3 y3 : Fin n} (h2 : x2^2+y2^2 = 1+D*x2^2*y2^2) (h3 : x3^2+y3^2 = 1+D*x3^2*y3^2) :
    ((1-D*y2*y2)*(1-D*y3*y3))*(((1 - D*x2*x3*y2*y3) - (y2*y3 - x2*x3))*((1 + D*x2*x3*y2*y3) - (y2*y3 + x2*x3))) = ((1-D)*(1-D*y2*y2*y3*y3))*((y3-y2)*(y3-y2)) := by grind
theorem ed_lift {m j b : Fin n} (h : m*j = 1) : m*(1+b*j) = m + b ∧ m*(1-b*j) = m - b := by constructor <;> grind
theorem ed_lift2 {y p c : Fin n} (h : y*p = c) : p*(1+y) = p + c ∧ p*(1-y) = p - c := by constructor <;> grind
theorem ed_b1 {e s r y2 y3 X2 Z2 X3 Z3 : Fin n} (he : e*e = 1) (hX2 : X2 = e*s*(1+y2)) (hZ2 : Z2 = s*(1-y2)) (hX3 : X3 = e*r*(1+y3)) (hZ3 : Z3 = r*(1-y3)) :
    (X3-Z3)*(X2+Z2) + (X3+Z3)*(X2-Z2) = 4*s*r*(y2+y3) ∧ (X3-Z3)*(X2+Z2) - (X3+Z3)*(X2-Z2) = 4*e*s*r*(y3-y2) := by
  rw [hX2, hZ2, hX3, hZ3]; constructor <;> grind
theorem ed_c1 {e s r k g m p y y1 q v S : Fin n} (hk : q*k = 1) (l : g*(m*(1+y)*(p*(1+y1))) = q*(v*v)) (hS : S = 16*e*s*s*r*r*(p*(1+y1))*m*g*k) : e*(4*s*r*v*(4*s*r*v)) = S*(1+y) := by
  have h : v*v = k*(g*(m*(1+y)*(p*(1+y1)))) := by rw [l]; clear l hS; grind
  have e1 : e*(4*s*r*v*(4*s*r*v)) = 16*e*s*s*r*r*(v*v) := by clear l hS h hk; grind
  rw [e1, h, hS]; clear e1 h l hS hk; grind
theorem ed_c2 {e s r k g m p y y1 q v u S : Fin n} (he : e*e = 1) (hk : q*k = 1) (hu : u*(1-y1) = e*(1+y1)) (l : g*(m*(1-y)*(p*(1-y1))) = q*(v*v)) (hS : S = 16*e*s*s*r*r*(p*(1+y1))*m*g*k) : u*(4*e*s*r*v*(4*e*s*r*v)) = S*(1-y) := by
  have h : v*v = k*(g*(m*(1-y)*(p*(1-y1)))) := by rw [l]; clear l hS hu; grind
  have e1 : u*(4*e*s*r*v*(4*e*s*r*v)) = 16*s*s*r*r*(u*(v*v)) := by clear l hS h hk hu; grind
  have e2 : u*(k*(g*(m*(1-y)*(p*(1-y1))))) = (u*(1-y1))*(k*g*m*(1-y)*p) := by clear e1 h l hS hu hk; grind
  rw [e1, h, e2, hu, hS]; clear e1 e2 h l hS hu hk; grind
/-- A sum whose difference is known, on the ladder. -/
theorem ed_diff {e D x2 y2 x3 y3 y1 s r j k u X2 Z2 X3 Z3 : Fin n} (he : e*e = 1) (h2 : x2^2+y2^2 = 1+D*x2^2*y2^2) (h3 : x3^2+y3^2 = 1+D*x3^2*y3^2)
    (hy : y1*(1 + D*x2*x3*y2*y3) = y2*y3 + x2*x3) (hj : (1 - D*x2*x3*y2*y3)*j = 1) (hk : ((1-D)*(1-D*y2*y2*y3*y3))*k = 1) (hu : u*(1-y1) = e*(1+y1))
    (hX2 : X2 = e*s*(1+y2)) (hZ2 : Z2 = s*(1-y2)) (hX3 : X3 = e*r*(1+y3)) (hZ3 : Z3 = r*(1-y3)) (S : Fin n)
    (hS : S = 16*e*s*s*r*r*((1 + D*x2*x3*y2*y3)*(1+y1))*(1 - D*x2*x3*y2*y3)*((1-D*y2*y2)*(1-D*y3*y3))*k) :
    e*(((X3-Z3)*(X2+Z2) + (X3+Z3)*(X2-Z2))*((X3-Z3)*(X2+Z2) + (X3+Z3)*(X2-Z2))) = S*(1+(y2*y3-x2*x3)*j) ∧
    u*(((X3-Z3)*(X2+Z2) - (X3+Z3)*(X2-Z2))*((X3-Z3)*(X2+Z2) - (X3+Z3)*(X2-Z2))) = S*(1-(y2*y3-x2*x3)*j) := by
  have l1 := ed_l1 h2 h3
  have l2 := ed_l2 h2 h3
  rw [← (ed_lift (b := y2*y3-x2*x3) hj).1, ← (ed_lift2 hy).1] at l1
  rw [← (ed_lift (b := y2*y3-x2*x3) hj).2, ← (ed_lift2 hy).2] at l2
  have b := ed_b1 he hX2 hZ2 hX3 hZ3
  rw [b.1, b.2]
  exact ⟨ed_c1 hk l1 hS, ed_c2 he hk hu l2 hS⟩
end
end Go.Proofs.Ytjbjbnooocbleaa
