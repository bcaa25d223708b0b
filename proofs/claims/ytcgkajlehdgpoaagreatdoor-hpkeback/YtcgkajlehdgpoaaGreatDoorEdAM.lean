/- What the proof stands on: EdA, EdB, EdC, EdD, EdE. -/
import Derived.Test.YtcgkajlehdgpoaaGreatDoorLProdM
import Derived.Test.YtcgkajlehdgpoaaGreatDoorPNumM
namespace Go.Proofs.YtcgkajlehdgpoaaGreatDoor
section
variable {n:Nat} [NeZero n]
theorem ed_closed {x1 y1 x2 y2 D i j:Fin n} (h1:x1^2+y1^2=1+D*x1^2*y1^2) (h2:x2^2+y2^2=1+D*x2^2*y2^2) (hi:(1+D*x1*x2*y1*y2)*i=1) (hj:(1-D*x1*x2*y1*y2)*j=1) :
 ((x1*y2+x2*y1)*i)^2+((y1*y2-x1*x2)*j)^2=1+D*((x1*y2+x2*y1)*i)^2*((y1*y2-x1*x2)*j)^2:=by
 have h:(x1*y2+x2*y1)^2*(1-D*x1*x2*y1*y2)^2+(y1*y2-x1*x2)^2*(1+D*x1*x2*y1*y2)^2=(1+D*x1*x2*y1*y2)^2*(1-D*x1*x2*y1*y2)^2+D*(x1*y2+x2*y1)^2*(y1*y2-x1*x2)^2:=by grind
 generalize x1*y2+x2*y1=a at *
 generalize y1*y2-x1*x2=b at *
 generalize 1+D*x1*x2*y1*y2=p at *
 generalize 1-D*x1*x2*y1*y2=m at *
 grind
theorem ed_cross {a b c d e f:Fin n} (h:a*d=c*b) (hb:b*e=1) (hd:d*f=1):a*e=c*f:=by grind
theorem ed_assoc_x {x1 y1 x2 y2 x3 y3 D:Fin n} (h1:x1^2+y1^2=1+D*x1^2*y1^2) (h2:x2^2+y2^2=1+D*x2^2*y2^2) (h3:x3^2+y3^2=1+D*x3^2*y3^2) :
 ((x1*y2+x2*y1)*y3*(1 - D*x1*x2*y1*y2)+x3*(y1*y2-x1*x2)*(1+D*x1*x2*y1*y2))*((1+D*x2*x3*y2*y3)*(1 - D*x2*x3*y2*y3)+D*x1*(x2*y3+x3*y2)*y1*(y2*y3-x2*x3))=(x1*(y2*y3-x2*x3)*(1+D*x2*x3*y2*y3)+(x2*y3+x3*y2)*y1*(1 - D*x2*x3*y2*y3))*((1+D*x1*x2*y1*y2)*(1 - D*x1*x2*y1*y2)+D*(x1*y2+x2*y1)*x3*(y1*y2-x1*x2)*y3):=by
 grind (splits:=0)
theorem ed_assoc_y {x1 y1 x2 y2 x3 y3 D:Fin n} (h1:x1^2+y1^2=1+D*x1^2*y1^2) (h2:x2^2+y2^2=1+D*x2^2*y2^2) (h3:x3^2+y3^2=1+D*x3^2*y3^2) :
 ((y1*y2-x1*x2)*y3*(1+D*x1*x2*y1*y2) - (x1*y2+x2*y1)*x3*(1 - D*x1*x2*y1*y2))*((1+D*x2*x3*y2*y3)*(1 - D*x2*x3*y2*y3) - D*x1*(x2*y3+x3*y2)*y1*(y2*y3-x2*x3))=(y1*(y2*y3-x2*x3)*(1+D*x2*x3*y2*y3) - x1*(x2*y3+x3*y2)*(1 - D*x2*x3*y2*y3))*((1+D*x1*x2*y1*y2)*(1 - D*x1*x2*y1*y2) - D*(x1*y2+x2*y1)*x3*(y1*y2-x1*x2)*y3):=by
 grind (splits:=0)
theorem ed_up_x {a b p m i j c d q k r s x1 y1 x3 y3 D:Fin n} (hi:p*i=1) (hj:m*j=1) (hr:q*r=1) (hs:k*s=1)
 (h:(a*y3*m+x3*b*p)*(q*k+D*x1*c*y1*d)=(x1*d*q+c*y1*k)*(p*m+D*a*x3*b*y3)) :
 ((a*i)*y3+x3*(b*j))*(1+D*x1*(c*r)*y1*(d*s))=(x1*(d*s)+(c*r)*y1)*(1+D*(a*i)*x3*(b*j)*y3):=by
 have e1:(a*i)*y3+x3*(b*j)=(a*y3*m+x3*b*p)*(i*j):=by grind
 have e2:1+D*x1*(c*r)*y1*(d*s)=(q*k+D*x1*c*y1*d)*(r*s):=by grind
 have e3:x1*(d*s)+(c*r)*y1=(x1*d*q+c*y1*k)*(r*s):=by grind
 have e4:1+D*(a*i)*x3*(b*j)*y3=(p*m+D*a*x3*b*y3)*(i*j):=by grind
 rw [e1,e2,e3,e4]
 generalize a*y3*m+x3*b*p=A at *
 generalize q*k+D*x1*c*y1*d=B at *
 generalize x1*d*q+c*y1*k=C at *
 generalize p*m+D*a*x3*b*y3=E at *
 clear e1 e2 e3 e4
 grind
theorem ed_up_y {a b p m i j c d q k r s x1 y1 x3 y3 D:Fin n} (hi:p*i=1) (hj:m*j=1) (hr:q*r=1) (hs:k*s=1)
 (h:(b*y3*p - a*x3*m)*(q*k - D*x1*c*y1*d)=(y1*d*q - x1*c*k)*(p*m - D*a*x3*b*y3)) :
 ((b*j)*y3 - (a*i)*x3)*(1 - D*x1*(c*r)*y1*(d*s))=(y1*(d*s) - x1*(c*r))*(1 - D*(a*i)*x3*(b*j)*y3):=by
 have e1:(b*j)*y3 - (a*i)*x3=(b*y3*p - a*x3*m)*(i*j):=by grind
 have e2:1 - D*x1*(c*r)*y1*(d*s)=(q*k - D*x1*c*y1*d)*(r*s):=by grind
 have e3:y1*(d*s) - x1*(c*r)=(y1*d*q - x1*c*k)*(r*s):=by grind
 have e4:1 - D*(a*i)*x3*(b*j)*y3=(p*m - D*a*x3*b*y3)*(i*j):=by grind
 rw [e1,e2,e3,e4]
 generalize b*y3*p - a*x3*m=A at *
 generalize q*k - D*x1*c*y1*d=B at *
 generalize y1*d*q - x1*c*k=C at *
 generalize p*m - D*a*x3*b*y3=E at *
 clear e1 e2 e3 e4
 grind
theorem ed_sq {x1 y1 x2 y2 D t:Fin n} (h1:x1^2+y1^2=1+D*x1^2*y1^2) (h2:x2^2+y2^2=1+D*x2^2*y2^2) (ht:t=D*x1*x2*y1*y2) (h:t*t=1) :
 (x1+t*y1)^2=D*(x1*y1*(x2+y2))^2∧(x1 - t*y1)^2=D*(x1*y1*(x2-y2))^2:=by
 constructor <;> grind
theorem ed_dbl {e A D x y s j X Z:Fin n} (he:e*e=1) (h1:x^2+y^2=1+D*x^2*y^2) (hD:D*(A+2*e)=A-2*e) (hj:(1-D*x*x*y*y)*j=1) (hX:X=e*s*(1+y)) (hZ:Z=s*(1-y)) (k:Fin n) (hk:4*k=A - 2) :
 e*(((X+Z)*(X+Z))*((X-Z)*(X-Z)))=(2*s*s*s*s*(A+2*e)*(1-D*y*y)*(1-D*x*x*y*y))*(1+(y*y-x*x)*j) ∧
 (((X+Z)*(X+Z)) - ((X-Z)*(X-Z)))*(((X+Z)*(X+Z))+k*(((X+Z)*(X+Z)) - ((X-Z)*(X-Z))))=(2*s*s*s*s*(A+2*e)*(1-D*y*y)*(1-D*x*x*y*y))*(1-(y*y-x*x)*j):=by
 have e1:(1-D*x*x*y*y)*(1+(y*y-x*x)*j)=2 - 2*x*x:=by grind
 have e2:(1-D*x*x*y*y)*(1-(y*y-x*x)*j)=2 - 2*y*y:=by grind
 constructor
 · have:(2*s*s*s*s*(A+2*e)*(1-D*y*y)*(1-D*x*x*y*y))*(1+(y*y-x*x)*j)=(2*s*s*s*s*(A+2*e)*(1-D*y*y))*(2-2*x*x):=by rw [←e1];grind
   rw [this,hX,hZ];clear this e1 e2 hj
   grind
 · have:(2*s*s*s*s*(A+2*e)*(1-D*y*y)*(1-D*x*x*y*y))*(1-(y*y-x*x)*j)=(2*s*s*s*s*(A+2*e)*(1-D*y*y))*(2-2*y*y):=by rw [←e2];grind
   rw [this,hX,hZ];clear this e1 e2 hj
   grind
theorem ed_l1 {D x2 y2 x3 y3:Fin n} (h2:x2^2+y2^2=1+D*x2^2*y2^2) (h3:x3^2+y3^2=1+D*x3^2*y3^2) :
 ((1-D*y2*y2)*(1-D*y3*y3))*(((1 - D*x2*x3*y2*y3)+(y2*y3 - x2*x3))*((1+D*x2*x3*y2*y3)+(y2*y3+x2*x3)))=((1-D)*(1-D*y2*y2*y3*y3))*((y2+y3)*(y2+y3)):=by grind
theorem ed_l2 {D x2 y2 x3 y3:Fin n} (h2:x2^2+y2^2=1+D*x2^2*y2^2) (h3:x3^2+y3^2=1+D*x3^2*y3^2) :
 ((1-D*y2*y2)*(1-D*y3*y3))*(((1 - D*x2*x3*y2*y3) - (y2*y3 - x2*x3))*((1+D*x2*x3*y2*y3) - (y2*y3+x2*x3)))=((1-D)*(1-D*y2*y2*y3*y3))*((y3-y2)*(y3-y2)):=by grind
theorem ed_lift {m j b:Fin n} (h:m*j=1):m*(1+b*j)=m+b∧m*(1-b*j)=m - b:=by constructor <;> grind
theorem ed_lift2 {y p c:Fin n} (h:y*p=c):p*(1+y)=p+c∧p*(1-y)=p - c:=by constructor <;> grind
theorem ed_b1 {e s r y2 y3 X2 Z2 X3 Z3:Fin n} (he:e*e=1) (hX2:X2=e*s*(1+y2)) (hZ2:Z2=s*(1-y2)) (hX3:X3=e*r*(1+y3)) (hZ3:Z3=r*(1-y3)) :
 (X3-Z3)*(X2+Z2)+(X3+Z3)*(X2-Z2)=4*s*r*(y2+y3)∧(X3-Z3)*(X2+Z2) - (X3+Z3)*(X2-Z2)=4*e*s*r*(y3-y2):=by
 rw [hX2,hZ2,hX3,hZ3];constructor <;> grind
theorem ed_c1 {e s r k g m p y y1 q v S:Fin n} (hk:q*k=1) (l:g*(m*(1+y)*(p*(1+y1)))=q*(v*v)) (hS:S=16*e*s*s*r*r*(p*(1+y1))*m*g*k):e*(4*s*r*v*(4*s*r*v))=S*(1+y):=by
 have h:v*v=k*(g*(m*(1+y)*(p*(1+y1)))):=by rw [l];clear l hS;grind
 have e1:e*(4*s*r*v*(4*s*r*v))=16*e*s*s*r*r*(v*v):=by clear l hS h hk;grind
 rw [e1,h,hS];clear e1 h l hS hk;grind
theorem ed_c2 {e s r k g m p y y1 q v u S:Fin n} (he:e*e=1) (hk:q*k=1) (hu:u*(1-y1)=e*(1+y1)) (l:g*(m*(1-y)*(p*(1-y1)))=q*(v*v)) (hS:S=16*e*s*s*r*r*(p*(1+y1))*m*g*k):u*(4*e*s*r*v*(4*e*s*r*v))=S*(1-y):=by
 have h:v*v=k*(g*(m*(1-y)*(p*(1-y1)))):=by rw [l];clear l hS hu;grind
 have e1:u*(4*e*s*r*v*(4*e*s*r*v))=16*s*s*r*r*(u*(v*v)):=by clear l hS h hk hu;grind
 have e2:u*(k*(g*(m*(1-y)*(p*(1-y1)))))=(u*(1-y1))*(k*g*m*(1-y)*p):=by clear e1 h l hS hu hk;grind
 rw [e1,h,e2,hu,hS];clear e1 e2 h l hS hu hk;grind
theorem ed_diff {e D x2 y2 x3 y3 y1 s r j k u X2 Z2 X3 Z3:Fin n} (he:e*e=1) (h2:x2^2+y2^2=1+D*x2^2*y2^2) (h3:x3^2+y3^2=1+D*x3^2*y3^2)
 (hy:y1*(1+D*x2*x3*y2*y3)=y2*y3+x2*x3) (hj:(1 - D*x2*x3*y2*y3)*j=1) (hk:((1-D)*(1-D*y2*y2*y3*y3))*k=1) (hu:u*(1-y1)=e*(1+y1))
 (hX2:X2=e*s*(1+y2)) (hZ2:Z2=s*(1-y2)) (hX3:X3=e*r*(1+y3)) (hZ3:Z3=r*(1-y3)) (S:Fin n)
 (hS:S=16*e*s*s*r*r*((1+D*x2*x3*y2*y3)*(1+y1))*(1 - D*x2*x3*y2*y3)*((1-D*y2*y2)*(1-D*y3*y3))*k) :
 e*(((X3-Z3)*(X2+Z2)+(X3+Z3)*(X2-Z2))*((X3-Z3)*(X2+Z2)+(X3+Z3)*(X2-Z2)))=S*(1+(y2*y3-x2*x3)*j) ∧
 u*(((X3-Z3)*(X2+Z2) - (X3+Z3)*(X2-Z2))*((X3-Z3)*(X2+Z2) - (X3+Z3)*(X2-Z2)))=S*(1-(y2*y3-x2*x3)*j):=by
 have l1:=ed_l1 h2 h3
 have l2:=ed_l2 h2 h3
 rw [←(ed_lift (b:=y2*y3-x2*x3) hj).1,←(ed_lift2 hy).1] at l1
 rw [←(ed_lift (b:=y2*y3-x2*x3) hj).2,←(ed_lift2 hy).2] at l2
 have b:=ed_b1 he hX2 hZ2 hX3 hZ3
 rw [b.1,b.2]
 exact ⟨ed_c1 hk l1 hS,ed_c2 he hk hu l2 hS⟩
end
end Go.Proofs.YtcgkajlehdgpoaaGreatDoor
namespace Go.Proofs.YtcgkajlehdgpoaaGreatDoor
section
variable {n:Nat} [NeZero n]
theorem g_one {D:Fin n} (e:1 - D*0*0=0):(1:Fin n)=0:=by grind
theorem g_z1 {D x y:Fin n}:1+D*x*0*y*1=1:=by grind
theorem g_z2 {D x y:Fin n}:1 - D*x*0*y*1=1:=by grind
theorem g_z3 {x y:Fin n}:(x*1+0*y)*1=x:=by grind
theorem g_z4 {x y:Fin n}:(y*1 - x*0)*1=y:=by grind
end
abbrev Fp:=Fin pF
instance:NeZero pF:=⟨by decide⟩
def fi (a:Fp):Fp:=⟨finv a.val,finv_lt _⟩
theorem fi_mul {a:Fp} (h:a≠0):a*fi a=1:=by
 refine Fin.ext ?_
 rw [Fin.val_mul]
 exact inv_mul (fun e=>h (Fin.ext e)) a.isLt
theorem fp_zero {a b:Fp} (h:a*b=0):a=0∨b=0:=by
 by_cases ha:a=0
 · exact .inl ha
 · right
   have h1:=fi_mul ha
   generalize fi a=i at *
   grind
theorem fp_ne {a b:Fp} (ha:a≠0) (hb:b≠0):a*b≠0:=fun h=>(fp_zero h).elim ha hb
theorem fp_unit {a b:Fp} (h:a*b=1):a≠0:=fun e=>by
 rw [e] at h
 have:(0:Fp)=1:=by grind
 exact absurd this (by decide)
def NS (D:Fp):Prop:=∀ z:Fp,z*z≠D
def On (D:Fp) (P:Fp × Fp):Prop:=P.1^2+P.2^2=1+D*P.1^2*P.2^2
def tt (D:Fp) (P Q:Fp × Fp):Fp:=D*P.1*Q.1*P.2*Q.2
theorem ns_one {D y:Fp} (h:NS D):1 - D*y*y≠0:=fun e=>by
 have hy:y≠0:=fun h0=>by
  rw [h0] at e
  exact absurd (g_one e) (by decide)
 have h1:=fi_mul hy
 refine h (fi y) ?_
 generalize fi y=i at *
 grind
theorem two_ne:(2:Fp)≠0:=by decide
theorem complete {D:Fp} (hD:NS D) {P Q:Fp × Fp} (hP:On D P) (hQ:On D Q):tt D P Q*tt D P Q≠1:=fun h=>by
 obtain ⟨x1,y1⟩:=P
 obtain ⟨x2,y2⟩:=Q
 unfold On at hP hQ
 unfold tt at h
 simp only at hP hQ h
 obtain ⟨t,ht⟩:∃ t,t=D*x1*x2*y1*y2:=⟨_,rfl⟩
 rw [←ht] at h
 obtain ⟨s1,s2⟩:=ed_sq hP hQ ht h
 have key:∀ a w:Fp,a^2=D*w^2→w=0:=fun a w hw=>Classical.byContradiction fun hne=>by
  have h1:=fi_mul hne
  refine hD (a*fi w) ?_
  generalize fi w=i at *
  grind
 have k1:=key _ _ s1
 have k2:=key _ _ s2
 clear s1 s2 key hP hQ
 have u1:x1*y1≠0:=fp_unit (b:=D*x2*y2*t) (by rw [ht] at h ⊢;clear k1 k2 ht;grind)
 have u2:x2*y2≠0:=fp_unit (b:=D*x1*y1*t) (by rw [ht] at h ⊢;clear k1 k2 ht;grind)
 have a1:=(fp_zero k1).resolve_left u1
 have a2:=(fp_zero k2).resolve_left u1
 have b1:2*x2=0:=by clear h ht k1 k2 u1 u2;grind
 have b2:=(fp_zero b1).resolve_left two_ne
 rw [b2] at u2
 exact u2 (by grind)
theorem com_p {D:Fp} (hD:NS D) {P Q:Fp × Fp} (hP:On D P) (hQ:On D Q):1+tt D P Q≠0:=fun h=>complete hD hP hQ (by generalize tt D P Q=t at *;grind)
theorem com_m {D:Fp} (hD:NS D) {P Q:Fp × Fp} (hP:On D P) (hQ:On D Q):1 - tt D P Q≠0:=fun h=>complete hD hP hQ (by generalize tt D P Q=t at *;grind)
def eadd (D:Fp) (P Q:Fp × Fp):Fp × Fp:=((P.1*Q.2+Q.1*P.2)*fi (1+D*P.1*Q.1*P.2*Q.2),(P.2*Q.2 - P.1*Q.1)*fi (1 - D*P.1*Q.1*P.2*Q.2))
theorem eadd_on {D:Fp} (hD:NS D) {P Q:Fp × Fp} (hP:On D P) (hQ:On D Q):On D (eadd D P Q) :=
 ed_closed hP hQ (fi_mul (com_p hD hP hQ)) (fi_mul (com_m hD hP hQ))
theorem eadd_assoc {D:Fp} (hD:NS D) {P Q R:Fp × Fp} (hP:On D P) (hQ:On D Q) (hR:On D R):eadd D (eadd D P Q) R=eadd D P (eadd D Q R):=by
 have i1:=fi_mul (com_p hD hP hQ)
 have j1:=fi_mul (com_m hD hP hQ)
 have i2:=fi_mul (com_p hD hQ hR)
 have j2:=fi_mul (com_m hD hQ hR)
 have i3:=fi_mul (com_p hD (eadd_on hD hP hQ) hR)
 have j3:=fi_mul (com_m hD (eadd_on hD hP hQ) hR)
 have i4:=fi_mul (com_p hD hP (eadd_on hD hQ hR))
 have j4:=fi_mul (com_m hD hP (eadd_on hD hQ hR))
 refine Prod.ext ?_ ?_
 · exact ed_cross (ed_up_x i1 j1 i2 j2 (ed_assoc_x hP hQ hR)) i3 i4
 · exact ed_cross (ed_up_y i1 j1 i2 j2 (ed_assoc_y hP hQ hR)) j3 j4
theorem eadd_comm (D:Fp) (P Q:Fp × Fp):eadd D P Q=eadd D Q P:=by
 unfold eadd
 have e1:P.1*Q.2+Q.1*P.2=Q.1*P.2+P.1*Q.2:=by grind
 have e2:D*P.1*Q.1*P.2*Q.2=D*Q.1*P.1*Q.2*P.2:=by grind
 have e3:P.2*Q.2 - P.1*Q.1=Q.2*P.2 - Q.1*P.1:=by grind
 rw [e1,e2,e3]
def ezero:Fp × Fp:=(0,1)
theorem ezero_on (D:Fp):On D ezero:=by unfold On ezero;simp only;grind
theorem fi_one:fi 1=1:=by
 have:=fi_mul (a:=1) (by decide)
 generalize fi 1=i at *
 grind
theorem eadd_zero (D:Fp) (P:Fp × Fp):eadd D P ezero=P:=by
 unfold eadd ezero
 simp only
 rw [g_z1,g_z2,fi_one]
 refine Prod.ext ?_ ?_
 · exact g_z3
 · exact g_z4
theorem zero_eadd (D:Fp) (P:Fp × Fp):eadd D ezero P=P:=by rw [eadd_comm,eadd_zero]
def eneg (P:Fp × Fp):Fp × Fp:=(0 - P.1,P.2)
theorem eneg_on {D:Fp} {P:Fp × Fp} (h:On D P):On D (eneg P):=by unfold On eneg at *;simp only;grind
theorem eneg_add {D:Fp} (hD:NS D) {P:Fp × Fp} (h:On D P):eadd D (eneg P) P=ezero:=by
 have i1:=fi_mul (com_p hD (eneg_on h) h)
 have j1:=fi_mul (com_m hD (eneg_on h) h)
 refine Prod.ext ?_ ?_
 · show ((0 - P.1)*P.2+P.1*P.2)*fi (1+D*(0 - P.1)*P.1*P.2*P.2)=0
   have:(0 - P.1)*P.2+P.1*P.2=0:=by grind
   rw [this];grind
 · show (P.2*P.2 - (0 - P.1)*P.1)*fi (1 - D*(0 - P.1)*P.1*P.2*P.2)=1
   have e:1 - tt D (eneg P) P=P.2*P.2 - (0 - P.1)*P.1:=by
    unfold tt eneg On at *;simp only;clear i1 j1;grind
   rw [←e]
   exact j1
def emul (D:Fp):Nat→Fp × Fp→Fp × Fp
 | 0,_=>ezero
 | n+1,P=>eadd D (emul D n P) P
theorem emul_on {D:Fp} (hD:NS D) {P:Fp × Fp} (h:On D P):∀ n,On D (emul D n P)
 | 0=>ezero_on D
 | n+1=>eadd_on hD (emul_on hD h n) h
theorem emul_add {D:Fp} (hD:NS D) {P:Fp × Fp} (h:On D P) (m:Nat):∀ n,emul D (m+n) P=eadd D (emul D m P) (emul D n P)
 | 0=>(eadd_zero D _).symm
 | n+1=>by
  show eadd D (emul D (m+n) P) P=_
  rw [emul_add hD h m n,eadd_assoc hD (emul_on hD h m) (emul_on hD h n) h]
  rfl
theorem emul_mul {D:Fp} (hD:NS D) {P:Fp × Fp} (h:On D P) (m:Nat):∀ n,emul D n (emul D m P)=emul D (m*n) P
 | 0=>rfl
 | n+1=>by
  show eadd D (emul D n (emul D m P)) (emul D m P)=_
  rw [emul_mul hD h m n,←emul_add hD h]
  rfl
theorem emul_comm {D:Fp} (hD:NS D) {P:Fp × Fp} (h:On D P) (m n:Nat):emul D n (emul D m P)=emul D m (emul D n P):=by
 rw [emul_mul hD h,emul_mul hD h,Nat.mul_comm]
end Go.Proofs.YtcgkajlehdgpoaaGreatDoor
namespace Go.Proofs.YtcgkajlehdgpoaaGreatDoor
section
variable {n:Nat} [NeZero n]
theorem g_e {e X S w:Fin n} (he:e*e=1) (h:e*X=S*w):X=e*S*w:=by grind
theorem g_sq {D y z:Fin n}:1 - D*y*y*z*z=1 - D*(y*z)*(y*z):=by grind
theorem g_d1 {D:Fin n}:1 - D=1 - D*1*1:=by grind
theorem g_rel {D q1 q2 r1 r2 p f:Fin n} (h:(q2*r2 - (0-q1)*r1)*f=p) (hf:(1 - D*(0-q1)*r1*q2*r2)*f=1):p*(1+D*q1*r1*q2*r2)=q2*r2+q1*r1:=by
 have e1:1 - D*(0-q1)*r1*q2*r2=1+D*q1*r1*q2*r2:=by clear h hf;grind
 have e2:q2*r2 - (0-q1)*r1=q2*r2+q1*r1:=by clear h hf e1;grind
 rw [e1] at hf
 rw [e2] at h
 generalize 1+D*q1*r1*q2*r2=a at *
 generalize q2*r2+q1*r1=b at *
 clear e1 e2
 grind
theorem g_swap {D q1 q2 r1 r2 p:Fin n} (h:p*(1+D*q1*r1*q2*r2)=q2*r2+q1*r1):p*(1+D*r1*q1*r2*q2)=r2*q2+r1*q1:=by
 have e1:D*r1*q1*r2*q2=D*q1*r1*q2*r2:=by clear h;grind
 rw [e1,h];clear e1 h;grind
theorem g_val {e s si X Z y f g:Fin n} (hs:s*si=1) (hX:X=e*s*(1+y)) (hZ:Z=s*(1-y)) (hf:Z*f=1) (hg:(1-y)*g=1):X*f=e*(1+y)*g:=by
 have h1:s*f*(1-y)=1:=by rw [hZ] at hf;clear hX hZ hg;grind
 have h2:s*f=g:=by clear hf hX hZ hs;generalize s*f=a at *;generalize 1-y=b at *;grind
 rw [hX,←h2];clear h1 h2 hf hg hX hZ hs;grind
theorem g_b0 {e f:Fin n} (he:e*e=1) (hf:2*f=1):1=e*(e*f)*(1+1):=by grind
theorem g_b1 {e f:Fin n} (he:e*e=1) (hf:2*f=1):(e*f)*(e*2)=1:=by grind
theorem g_b2 {s:Fin n}:0=s*(1-1):=by grind
theorem g_b3 {u e y f:Fin n} (hu:u*(1-y)=e*(1+y)) (hf:(1-y)*f=1):u=e*f*(1+y):=by
 generalize 1-y=a at *
 generalize 1+y=b at *
 grind
theorem g_b4 {a f:Fin n} (hf:a*f=1):1=f*a:=by grind
end
def RepP (e y X Z:Fp):Prop:=∃ s si:Fp,s*si=1∧X=e*s*(1+y)∧Z=s*(1-y)
theorem RepP.mk' {e y X Z S:Fp} (he:e*e=1) (hS:S≠0) (h1:e*X=S*(1+y)) (h2:Z=S*(1-y)):RepP e y X Z:=⟨S,fi S,fi_mul hS,g_e he h1,h2⟩
theorem rep_dbl {e A D k:Fp} (he:e*e=1) (hD:NS D) (hDA:D*(A+2*e)=A-2*e) (hA:A+2*e≠0) (hk:4*k=A-2) {Q:Fp × Fp} (hQ:On D Q) {X Z:Fp} (h:RepP e Q.2 X Z) :
 RepP e (eadd D Q Q).2 (((X+Z)*(X+Z))*((X-Z)*(X-Z))) ((((X+Z)*(X+Z)) - ((X-Z)*(X-Z)))*(((X+Z)*(X+Z))+k*(((X+Z)*(X+Z)) - ((X-Z)*(X-Z))))):=by
 obtain ⟨s,si,hs,hX,hZ⟩:=h
 have hj:=fi_mul (com_m hD hQ hQ)
 have r:=ed_dbl (j:=fi (1 - D*Q.1*Q.1*Q.2*Q.2)) he hQ hDA hj hX hZ k hk
 have hs0:=fp_unit hs
 refine RepP.mk' he ?_ r.1 r.2
 exact fp_ne (fp_ne (fp_ne (fp_ne (fp_ne (fp_ne (fp_ne two_ne hs0) hs0) hs0) hs0) hA) (ns_one hD)) (com_m hD hQ hQ)
theorem sixteen_ne:(16:Fp)≠0:=by decide
theorem rep_diff {e D u y1:Fp} (he:e*e=1) (hD:NS D) {Q R:Fp × Fp} (hQ:On D Q) (hR:On D R) (hy:y1*(1+D*Q.1*R.1*Q.2*R.2)=Q.2*R.2+Q.1*R.1) (hu:u*(1-y1)=e*(1+y1)) (hy1:1+y1≠0) {X2 Z2 X3 Z3:Fp} (h2:RepP e Q.2 X2 Z2) (h3:RepP e R.2 X3 Z3) :
 RepP e (eadd D Q R).2 (((X3-Z3)*(X2+Z2)+(X3+Z3)*(X2-Z2))*((X3-Z3)*(X2+Z2)+(X3+Z3)*(X2-Z2))) (u*(((X3-Z3)*(X2+Z2) - (X3+Z3)*(X2-Z2))*((X3-Z3)*(X2+Z2) - (X3+Z3)*(X2-Z2)))):=by
 obtain ⟨s,si,hs,hX2,hZ2⟩:=h2
 obtain ⟨r,ri,hr,hX3,hZ3⟩:=h3
 have hj:=fi_mul (com_m hD hQ hR)
 have d1:(1 - D:Fp)≠0:=by rw [g_d1];exact ns_one hD
 have d2:(1 - D*Q.2*Q.2*R.2*R.2:Fp)≠0:=by rw [g_sq];exact ns_one hD
 have hq:=fp_ne d1 d2
 have hk:=fi_mul hq
 have rr:=ed_diff (j:=fi (1 - D*Q.1*R.1*Q.2*R.2)) he hQ hR hy hj hk hu hX2 hZ2 hX3 hZ3 _ rfl
 have hs0:=fp_unit hs
 have hr0:=fp_unit hr
 have he0:=fp_unit he
 have hk0:fi ((1-D)*(1 - D*Q.2*Q.2*R.2*R.2))≠0:=fun h0=>by
  rw [h0] at hk
  exact absurd hk (by rw [Fin.mul_zero];decide)
 refine RepP.mk' he ?_ rr.1 rr.2
 exact fp_ne (fp_ne (fp_ne (fp_ne (fp_ne (fp_ne (fp_ne (fp_ne (fp_ne sixteen_ne he0) hs0) hs0) hr0) hr0) (fp_ne (com_p hD hQ hR) hy1)) (com_m hD hQ hR)) (fp_ne (ns_one hD) (ns_one hD))) hk0
theorem back_rel {D:Fp} (hD:NS D) {P Q R:Fp × Fp} (hQ:On D Q) (hR:On D R) (e:eadd D (eneg Q) R=P):P.2*(1+D*Q.1*R.1*Q.2*R.2)=Q.2*R.2+Q.1*R.1:=by
 have h2:=congrArg Prod.snd e
 have h3:=fi_mul (com_m hD (eneg_on hQ) hR)
 unfold eadd eneg at h2
 unfold tt eneg at h3
 simp only at h2 h3
 exact g_rel h2 h3
theorem next_rel {D:Fp} (hD:NS D) {P Q R:Fp × Fp} (hP:On D P) (hQ:On D Q) (e:R=eadd D Q P):P.2*(1+D*Q.1*R.1*Q.2*R.2)=Q.2*R.2+Q.1*R.1 :=
 back_rel hD hQ (by rw [e];exact eadd_on hD hQ hP) (by rw [e,←eadd_assoc hD (eneg_on hQ) hQ hP,eneg_add hD hQ,zero_eadd])
def cF (a:Nat):Fp:=⟨a%pF,Nat.mod_lt _ (by decide)⟩
theorem cF_add (a b:Nat):cF (fadd a b)=cF a+cF b:=Fin.ext (by rw [Fin.val_add];show (a+b)%pF%pF=(a%pF+b%pF)%pF;rw [Nat.mod_mod,←Nat.add_mod])
theorem cF_mul (a b:Nat):cF (fmul a b)=cF a*cF b:=Fin.ext (by rw [Fin.val_mul];show (a*b)%pF%pF=(a%pF*(b%pF))%pF;rw [Nat.mod_mod,←Nat.mul_mod])
theorem cF_sub (a b:Nat) (hb:b<pF):cF (fsub a b)=cF a - cF b:=Fin.ext (by
 rw [Fin.sub_def]
 show (a+pF - b)%pF%pF=(pF - b%pF+a%pF)%pF
 rw [Nat.mod_mod,Nat.mod_eq_of_lt hb,Nat.add_mod_mod,show a+pF - b=pF - b+a by omega])
theorem cF_inv (a:Nat) (ha:a<pF):cF (finv a)=fi (cF a):=Fin.ext (by
 show finv a%pF=finv (a%pF)
 rw [Nat.mod_eq_of_lt (finv_lt a),Nat.mod_eq_of_lt ha])
theorem cF_inj {a b:Nat} (ha:a<pF) (hb:b<pF) (h:cF a=cF b):a=b:=by
 have:=congrArg Fin.val h
 change a%pF=b%pF at this
 rwa [Nat.mod_eq_of_lt ha,Nat.mod_eq_of_lt hb] at this
def nOf (ks:Nat→Nat):Nat→Nat
 | 0=>0
 | j+1=>2*nOf ks j+(if bitN ks (254 - j) then 1 else 0)
structure HasU (e D:Fp) (P:Fp × Fp) (u:Nat):Prop where
 ee:e*e=1
 ns:NS D
 da:D*(486662+2*e)=486662-2*e
 ne:(486662+2*e:Fp)≠0
 on:On D P
 hu:cF u*(1-P.2)=e*(1+P.2)
 y1:1+P.2≠0
 y2:1 - P.2≠0
theorem four_k:4*cF 121665=(486662:Fp) - 2:=by decide
theorem stepL_rep {e D:Fp} {P:Fp × Fp} {u:Nat} (h:HasU e D P u) {Q R:Fp × Fp} (hQ:On D Q) (hR:On D R) (hy:P.2*(1+D*Q.1*R.1*Q.2*R.2)=Q.2*R.2+Q.1*R.1) {s:L4} (hs:s.Ok) (h2:RepP e Q.2 (cF s.xl) (cF s.zl)) (h3:RepP e R.2 (cF s.xh) (cF s.zh)) :
 RepP e (eadd D Q Q).2 (cF (stepL u s).xl) (cF (stepL u s).zl)∧RepP e (eadd D Q R).2 (cF (stepL u s).xh) (cF (stepL u s).zh):=by
 have a:=rep_dbl h.ee h.ns h.da h.ne four_k hQ h2
 have b:=rep_diff h.ee h.ns hQ hR hy h.hu h.y1 h2 h3
 unfold stepL ee
 simp only [cF_mul,cF_add,cF_sub _ _ hs.zl,cF_sub _ _ hs.zh,cF_sub _ _ (fmul_lt _ _)]
 exact ⟨a,b⟩
theorem climb_rep {e D:Fp} {P:Fp × Fp} {u:Nat} (h:HasU e D P u) (hu:u<pF) (ks:Nat→Nat):∀ j,RepP e (emul D (nOf ks j) P).2 (cF (climbL u ks j).xl) (cF (climbL u ks j).zl)∧RepP e (emul D (nOf ks j+1) P).2 (cF (climbL u ks j).xh) (cF (climbL u ks j).zh)
 | 0=>by
  have f2:=fi_mul two_ne
  refine ⟨⟨e*fi 2,e*2,g_b1 h.ee f2,g_b0 h.ee f2,g_b2⟩,?_⟩
  have e1:emul D (nOf ks 0+1) P=P:=zero_eadd D P
  rw [e1]
  have f:=fi_mul h.y2
  exact ⟨fi (1 - P.2),1 - P.2,by rw [Fin.mul_comm];exact f,g_b3 h.hu f,g_b4 f⟩
 | j+1=>by
  have ih:=climb_rep h hu ks j
  have hok:=climbL_ok u hu ks j
  have o1:=emul_on h.ns h.on (nOf ks j)
  have o2:=emul_on h.ns h.on (nOf ks j+1)
  have rel:=next_rel (R:=emul D (nOf ks j+1) P) h.ns h.on o1 rfl
  have e2:eadd D (emul D (nOf ks j) P) (emul D (nOf ks j) P)=emul D (2*nOf ks j) P:=by rw [←emul_add h.ns h.on,Nat.two_mul]
  have e3:eadd D (emul D (nOf ks j) P) (emul D (nOf ks j+1) P)=emul D (2*nOf ks j+1) P:=by rw [←emul_add h.ns h.on];congr 1;omega
  have e4:eadd D (emul D (nOf ks j+1) P) (emul D (nOf ks j) P)=emul D (2*nOf ks j+1) P:=by rw [←emul_add h.ns h.on];congr 1;omega
  have e5:eadd D (emul D (nOf ks j+1) P) (emul D (nOf ks j+1) P)=emul D (2*nOf ks j+1+1) P:=by rw [←emul_add h.ns h.on];congr 1;omega
  unfold climbL nOf rungL
  by_cases hb:bitN ks (254 - j)=true
  · rw [if_pos hb,if_pos hb]
    have r:=stepL_rep h o2 o1 (g_swap rel) (s:=(climbL u ks j).flip) ⟨hok.xh,hok.zh,hok.xl,hok.zl⟩ ih.2 ih.1
    rw [e4,e5] at r
    exact ⟨r.2,r.1⟩
  · rw [if_neg hb,if_neg hb]
    have r:=stepL_rep h o1 o2 rel hok ih.1 ih.2
    rw [e2,e3] at r
    exact r
theorem fi_zero:fi 0=0:=Fin.ext (finv_zero rfl)
def uOf (e:Fp) (y:Fp):Fp:=e*(1+y)*fi (1-y)
theorem mulL_u {e D:Fp} {P:Fp × Fp} {u:Nat} (h:HasU e D P u) (hu:u<pF) (ks:Nat→Nat):cF (mulL ks u)=uOf e (emul D (nOf ks 255) P).2:=by
 obtain ⟨s,si,hs,hX,hZ⟩:=(climb_rep h hu ks 255).1
 unfold mulL uOf
 rw [cF_mul,cF_inv _ (climbL_ok u hu ks 255).zl]
 generalize cF (climbL u ks 255).xl=X at *
 generalize cF (climbL u ks 255).zl=Z at *
 generalize (emul D (nOf ks 255) P).2=y at *
 by_cases hy:1 - y=0
 · rw [hy,Fin.mul_zero] at hZ
   rw [hy,hZ,fi_zero,Fin.mul_zero,Fin.mul_zero]
 · have hz:Z≠0:=by rw [hZ];exact fp_ne (fp_unit hs) hy
   exact g_val hs hX hZ (fi_mul hz) (fi_mul hy)
end Go.Proofs.YtcgkajlehdgpoaaGreatDoor
namespace Go.Proofs.YtcgkajlehdgpoaaGreatDoor
theorem one_or {x:Nat} (hx:x<pF) (h:x*x%pF=1):x=1∨x=pF - 1:=by
 have h0:x≠0:=fun e=>by rw [e] at h;exact absurd h (by decide)
 have hd:pF ∣ (x - 1)*(x+1):=by
  have e:(x - 1)*(x+1)=x*x - 1:=by
   obtain ⟨y,rfl⟩:∃ y,x=y+1:=⟨x - 1,by omega⟩
   rw [Nat.add_sub_cancel,Nat.add_mul,Nat.mul_add,Nat.mul_add];omega
  rw [e]
  have hm:=Nat.div_add_mod (x*x) pF
  rw [h] at hm
  exact ⟨x*x / pF,by omega⟩
 rcases prime_p.euclid hd with h1 | h1
 · left
   rcases Nat.eq_zero_or_pos (x - 1) with h2 | h2
   · omega
   · have:=Nat.le_of_dvd h2 h1;omega
 · right
   have:=Nat.le_of_dvd (by omega) h1;omega
theorem sq_pow (c m:Nat):c ^ m%pF*(c ^ m%pF)%pF=c ^ (2*m)%pF:=by
 rw [←Nat.mul_mod,←Nat.pow_add,Nat.two_mul]
theorem euler_or {c h:Nat} (hh:2*h+1=pF) (hc:¬pF ∣ c):c ^ h%pF=1∨c ^ h%pF=pF - 1:=by
 refine one_or (Nat.mod_lt _ (by decide)) ?_
 rw [sq_pow,show 2*h=pF - 1 by omega,prime_p.fermat1 hc]
 decide
theorem root_nat {c k:Nat} (hk:8*k+5=pF) (hc:c<pF) (h1:c ^ (4*k+2)%pF=1):∃ r,r<pF∧r*r%pF=c:=by
 have e1:c ^ (k+1)%pF*(c ^ (k+1)%pF)%pF=c*(c ^ (2*k+1)%pF)%pF:=by
  rw [sq_pow,mulm',show 2*(k+1)=2*k+1+1 by omega,Nat.pow_succ,Nat.mul_comm]
 have e2:c ^ (2*k+1)%pF*(c ^ (2*k+1)%pF)%pF=1:=by rw [sq_pow,show 2*(2*k+1)=4*k+2 by omega,h1]
 have hp:(pF - 1)*(pF - 1)%pF=1:=by kernel_rfl
 rcases one_or (Nat.mod_lt _ (by decide)) e2 with h | h
 · rw [h,Nat.mul_one,Nat.mod_eq_of_lt hc] at e1
   exact ⟨_,Nat.mod_lt _ (by decide),e1⟩
 · rw [h] at e1
   refine ⟨c ^ (k+1)%pF*iM%pF,Nat.mod_lt _ (by decide),?_⟩
   rw [times_sq iM_sq,e1]
   have e3:(0+pF - c*(pF - 1)%pF)%pF=c:=by
    have e4:c*(pF - 1)%pF=(0+pF - c)%pF:=by
     obtain ⟨q,hq⟩:∃ q,pF=q+1:=⟨pF - 1,by decide⟩
     have e5:c*(pF - 1)+c=c*pF:=by rw [hq,Nat.add_sub_cancel,Nat.mul_add,Nat.mul_one]
     have e6:(c*(pF - 1)+c)%pF=0:=by rw [e5,Nat.mul_mod_left]
     have e7:(0+pF - c+c)%pF=0:=by rw [show 0+pF - c+c=pF by omega,Nat.mod_self]
     have a1:=Nat.mod_lt (c*(pF - 1)) (show 0<pF by decide)
     have a2:=Nat.mod_lt (0+pF - c) (show 0<pF by decide)
     rw [Nat.add_mod,Nat.mod_eq_of_lt hc] at e6 e7
     generalize c*(pF - 1)%pF=x at *
     generalize (0+pF - c)%pF=y at *
     have z1:=Nat.dvd_of_mod_eq_zero e6
     have z2:=Nat.dvd_of_mod_eq_zero e7
     obtain ⟨m1,hm1⟩:=z1
     obtain ⟨m2,hm2⟩:=z2
     rcases Nat.eq_zero_or_pos c with hc0 | hc0
     · subst hc0
       have:m1=0:=by rcases m1 with _ | m1;rfl;rw [Nat.mul_add] at hm1;omega
       have:m2=0:=by rcases m2 with _ | m2;rfl;rw [Nat.mul_add] at hm2;omega
       subst_vars;omega
     · have b1:m1=1:=by
        match m1,hm1 with
        | 0,h=>omega
        | 1,_=>rfl
        | m+2,h=>rw [Nat.mul_add] at h;have:=Nat.zero_le (pF*m);omega
       have b2:m2=1:=by
        match m2,hm2 with
        | 0,h=>omega
        | 1,_=>rfl
        | m+2,h=>rw [Nat.mul_add] at h;have:=Nat.zero_le (pF*m);omega
       subst b1;subst b2;omega
    rw [e4]
    rcases Nat.eq_zero_or_pos c with hc0 | hc0
    · rw [hc0];decide
    · rw [Nat.mod_eq_of_lt (show 0+pF - c<pF by omega),show 0+pF - (0+pF - c)=c by omega,Nat.mod_eq_of_lt hc]
   exact e3
end Go.Proofs.YtcgkajlehdgpoaaGreatDoor
namespace Go.Proofs.YtcgkajlehdgpoaaGreatDoor
def kQ:Nat:=7237005577332262213973186563042994240829374041602535252466099000494570602493
theorem kQ_eq:8*kQ+5=pF:=by decide
theorem c0_euler:236839902240 ^ (4*kQ+2)%pF=pF - 1:=by
 have h:=pm_eq pF 236839902240 255 (4*kQ+2) (by decide)
 exact h.symm.trans (by kernel_rfl)
theorem fp_val (a b:Fp):(a*b).val=a.val*b.val%pF:=Fin.val_mul a b
theorem pow_sq_one {z h:Nat} (hh:2*h+1=pF) (hz:¬pF ∣ z):(z*z%pF) ^ h%pF=1:=by
 rw [powm,←Nat.pow_two,←Nat.pow_mul,show 2*h=pF - 1 by omega,prime_p.fermat1 hz];decide
theorem ns_c0:NS (236839902240:Fp):=fun z hz=>by
 have hv:=congrArg Fin.val hz
 rw [fp_val] at hv
 have hz0:¬pF ∣ z.val:=fun hd=>by
  have h0:z.val=0:=by
   rcases Nat.eq_zero_or_pos z.val with h | h
   · exact h
   · have:=Nat.le_of_dvd h hd;have:=z.isLt;omega
  rw [h0] at hv
  exact absurd hv (by decide)
 have h1:=pow_sq_one (h:=4*kQ+2) (by decide) hz0
 rw [hv] at h1
 have h2:(236839902240:Fp).val=236839902240:=by decide
 rw [h2,c0_euler] at h1
 exact absurd h1 (by decide)
theorem pm_one:(pF - 1)*(pF - 1)%pF=1:=by kernel_rfl
theorem dich (c:Fp) (hc:c≠0):(∃ r:Fp,r*r=c)∨(∃ r:Fp,r*r=c*236839902240):=by
 have hd:¬pF ∣ c.val:=fun hd=>by
  rcases Nat.eq_zero_or_pos c.val with h | h
  · exact hc (Fin.ext h)
  · have:=Nat.le_of_dvd h hd;have:=c.isLt;omega
 have up:∀ d:Fp,d.val ^ (4*kQ+2)%pF=1→∃ r:Fp,r*r=d:=fun d h=>by
  obtain ⟨r,hr,he⟩:=root_nat kQ_eq d.isLt h
  exact ⟨⟨r,hr⟩,Fin.ext (by rw [fp_val];exact he)⟩
 rcases euler_or (h:=4*kQ+2) (by decide) hd with h | h
 · exact .inl (up c h)
 · right
   refine up _ ?_
   have h2:(236839902240:Fp).val=236839902240:=by decide
   rw [fp_val,h2,powm,Nat.mul_pow,Nat.mul_mod,h,c0_euler]
   exact pm_one
section
variable {n:Nat} [NeZero n]
theorem g_on {u r a D g gi v:Fin n} (hv:(u+1)*v=1) (hg:g*gi=1) (hgd:g=u*(u*u+(a-2)*u+1)) (hr:r*r=a*g) (hD:D*a=a-4):(u*r*gi)^2+((u-1)*v)^2=1+D*(u*r*gi)^2*((u-1)*v)^2:=by
 have q:(u*r*gi)^2=u*u*a*gi:=by clear hv hgd hD;grind
 have q2:D*(u*r*gi)^2=u*u*(a-4)*gi:=by rw [q];clear hv hgd hr q hg;grind
 have q3:u*(u*u+(a-2)*u+1)*gi=1:=by rw [←hgd];exact hg
 rw [q2,q]
 clear q q2 hr hD hg hgd
 have q4:(u*u*a*gi+((u-1)*v)^2)*((u+1)*(u+1))=(1+u*u*(a-4)*gi*((u-1)*v)^2)*((u+1)*(u+1)):=by grind
 generalize u*u*a*gi+((u-1)*v)^2=L at *
 generalize 1+u*u*(a-4)*gi*((u-1)*v)^2=R at *
 clear q3
 generalize u+1=w at *
 grind
theorem g_y {u v:Fin n} (hv:(u+1)*v=1):1 - (u-1)*v=2*v∧1+(u-1)*v=2*u*v:=by constructor <;> grind
theorem g_hu {e c U v:Fin n} (he:e*e=1) (hU:U=e*c) (hv:(U+1)*v=1):c*(1-(U-1)*v)=e*(1+(U-1)*v):=by
 rw [(g_y hv).1,(g_y hv).2,hU];clear hv hU;grind
theorem g_ns {z D a b c:Fin n} (hz:z*z=D) (hD:D*a=b) (hc:a*b=c):(z*a)*(z*a)=c:=by grind
theorem g_r {r a b c g i:Fin n} (hr:r*r=a*g*c) (hc:a*b=c) (hi:a*i=1):(r*i)*(r*i)=b*g:=by grind
theorem g_quad {u A c:Fin n} (h:u*u+A*u+1=0) (hc:A*A - 4=c):(2*u+A)*(2*u+A)=c:=by grind
end
theorem hasU_of {e D c U r a G:Fp} {u:Nat} (hc:cF u=c) (he:e*e=1) (hU:U=e*c) (hU0:U≠0) (hU1:U+1≠0) (hG:G=U*(U*U+(a-2)*U+1)) (hG0:G≠0) (hr:r*r=a*G) (hD:D*a=a-4) (hns:NS D) (hda:D*(486662+2*e)=486662-2*e) (hne:(486662+2*e:Fp)≠0) :
 HasU e D (U*r*fi G,(U-1)*fi (U+1)) u:=by
 have hv:=fi_mul hU1
 have y:=g_y hv
 have hv0:fi (U+1)≠0:=fun h0=>by
  rw [h0,Fin.mul_zero] at hv
  exact absurd hv (by decide)
 refine ⟨he,hns,hda,hne,g_on hv (fi_mul hG0) hG hr hD,?_,?_,?_⟩
 · rw [hc];exact g_hu he hU hv
 · show 1+(U-1)*fi (U+1)≠0
   rw [y.2];exact fp_ne (fp_ne two_ne hU0) hv0
 · show 1 - (U-1)*fi (U+1)≠0
   rw [y.1];exact fp_ne two_ne hv0
theorem am_ne:(486660:Fp)≠0:=by decide
theorem ap_ne:(486664:Fp)≠0:=by decide
section
variable {n:Nat} [NeZero n]
theorem g_G1 {c:Fin n}:c*(c*c+486662*c+1)=c*(c*c+(486664-2)*c+1):=by grind
theorem g_D1 {D:Fin n} (h:D*486664=486660):D*486664=486664-4∧D*(486662+2*1)=486662-2*1:=by constructor <;> grind
theorem g_u1 {c:Fin n} (h:c+1=0):c*(c*c+486662*c+1)=486660:=by grind
theorem g_u2 {c:Fin n} (h:(0-1)*c+1=0):c*(c*c+486662*c+1)=486664:=by grind
theorem g_G2 {c r:Fin n} (hr:r*r=486660*(c*(c*c+486662*c+1))):r*r=(0-486660)*(((0-1)*c)*(((0-1)*c)*((0-1)*c)+((0-486660)-2)*((0-1)*c)+1)):=by grind
theorem g_G3 {c:Fin n} (h:((0-1)*c)*(((0-1)*c)*((0-1)*c)+((0-486660)-2)*((0-1)*c)+1)=0):c*(c*c+486662*c+1)=0:=by grind
theorem g_D2 {D:Fin n} (h:D*486660=486664):D*(0-486660)=(0-486660)-4∧D*(486662+2*(0-1))=486662-2*(0-1):=by constructor <;> grind
theorem g_m1:(0-1)*(0-1)=(1:Fin n):=by grind
theorem g_m2 {c:Fin n} (h:(0-1)*c=0):c=0:=by grind
theorem g_m3:(486662+2*(0-1):Fin n)=486660:=by grind
theorem g_m4:(486662+2*1:Fin n)=486664:=by grind
theorem g_y0 {y:Fin n} (h:1 - y=0):y=1:=by grind
theorem g_y1 {y:Fin n} (h:1+y=0):y=0 - 1:=by grind
theorem g_h1 {D y z:Fin n}:1 - D*0*0*y*z=1:=by grind
theorem g_h2 {D y z:Fin n}:1+D*0*0*y*z=1:=by grind
theorem g_h3 {y z:Fin n}:(0*z+0*y)*1=0:=by grind
theorem g_h4 {y z:Fin n} (h:y*y=1) (k:z*z=1):((y*z - 0*0)*1)*((y*z - 0*0)*1)=1:=by grind
theorem g_u {e y f:Fin n} (h:(1-y)*f=1):e*(1+y)*f*(1-y)=e*(1+y):=by grind
theorem g_inv {a b i:Fin n} (h:a*i=1):b*i*a=b:=by grind
end
theorem c0_prod:(486664:Fp)*486660=236839902240:=by decide
theorem c0_prod2:(486660:Fp)*486664=236839902240:=by decide
theorem c0_quad:(486662:Fp)*486662 - 4=236839902240:=by decide
theorem has_point (u:Nat) (hu:u<pF) (h0:u≠0):∃ e D P,HasU e D P u:=by
 obtain ⟨c,hc⟩:∃ c,cF u=c:=⟨_,rfl⟩
 have c0:c≠0:=fun h=>h0 (cF_inj hu (by decide) (by rw [hc,h];decide))
 have hq:c*c+486662*c+1≠0:=fun h=>ns_c0 _ (g_quad h c0_quad)
 have hg:c*(c*c+486662*c+1)≠0:=fp_ne c0 hq
 have mk1:∀ r:Fp,r*r=486664*(c*(c*c+486662*c+1))→∃ e D P,HasU e D P u:=fun r hr=>by
  have hD:(486660*fi 486664:Fp)*486664=486660:=g_inv (fi_mul ap_ne)
  have hns:NS (486660*fi 486664:Fp):=fun z hz=>ns_c0 _ (g_ns hz hD c0_prod)
  have d:=g_D1 hD
  have h1:c+1≠0:=fun h=>by
   rw [g_u1 h,c0_prod] at hr
   exact ns_c0 r hr
  rw [g_G1] at hr hg
  exact ⟨1,_,_,hasU_of (G:=c*(c*c+(486664-2)*c+1)) hc (Fin.mul_one 1) (Fin.one_mul c).symm c0 h1 rfl hg hr d.1 hns d.2 (by rw [g_m4];exact ap_ne)⟩
 have mk2:∀ r:Fp,r*r=486660*(c*(c*c+486662*c+1))→∃ e D P,HasU e D P u:=fun r hr=>by
  have hD:(486664*fi 486660:Fp)*486660=486664:=g_inv (fi_mul am_ne)
  have hns:NS (486664*fi 486660:Fp):=fun z hz=>ns_c0 _ (g_ns hz hD c0_prod2)
  have d:=g_D2 hD
  have h1:(0-1)*c+1≠0:=fun h=>by
   rw [g_u2 h,c0_prod2] at hr
   exact ns_c0 r hr
  exact ⟨0-1,_,_,hasU_of (U:=(0-1)*c) hc g_m1 rfl (fun h=>c0 (g_m2 h)) h1 rfl (fun h=>hg (g_G3 h)) (g_G2 hr) d.1 hns d.2 (by rw [g_m3];exact am_ne)⟩
 rcases dich (486664*(c*(c*c+486662*c+1))) (fp_ne ap_ne hg) with ⟨r,hr⟩ | ⟨r,hr⟩
 · exact mk1 r hr
 · exact mk2 (r*fi 486664) (g_r hr c0_prod (fi_mul ap_ne))
theorem uOf_zero {e D:Fp} (he:e*e=1) (hD:NS D) {Q:Fp × Fp} (hQ:On D Q) (h:uOf e Q.2=0):Q=(0,1)∨Q=(0,0-1):=by
 have hx:∀ y:Fp,y*y=1→Q.2=y→Q.1=0:=fun y hy hq=>by
  have e1:(1 - D*1*1)*(Q.1*Q.1)=0:=by
   have:=hQ
   unfold On at this
   rw [hq] at this
   clear hQ h hq he hD
   generalize Q.1=x at *
   grind
  have:=(fp_zero e1).resolve_left (ns_one hD)
  exact (fp_zero this).elim id id
 unfold uOf at h
 by_cases h1:1 - Q.2=0
 · left
   have hy:Q.2=1:=g_y0 h1
   exact Prod.ext (hx 1 (by decide) hy) hy
 · right
   have hf:fi (1 - Q.2)≠0:=fun h0=>by
    have:=fi_mul h1
    rw [h0,Fin.mul_zero] at this
    exact absurd this (by decide)
   have h2:=(fp_zero h).resolve_right hf
   have h3:=(fp_zero h2).resolve_left (fp_unit he)
   have hy:Q.2=0 - 1:=g_y1 h3
   exact Prod.ext (hx (0-1) g_m1 hy) hy
theorem eadd_half {D:Fp} {P Q:Fp × Fp} (hP:P.1=0∧P.2*P.2=1) (hQ:Q.1=0∧Q.2*Q.2=1):(eadd D P Q).1=0∧(eadd D P Q).2*(eadd D P Q).2=1:=by
 unfold eadd
 simp only
 rw [hP.1,hQ.1]
 have e1:(1 - D*0*0*P.2*Q.2:Fp)=1:=g_h1
 have e2:(1+D*0*0*P.2*Q.2:Fp)=1:=g_h2
 rw [e1,e2,fi_one]
 exact ⟨g_h3,g_h4 hP.2 hQ.2⟩
theorem emul_half {D:Fp} {P:Fp × Fp} (hP:P.1=0∧P.2*P.2=1):∀ n,(emul D n P).1=0∧(emul D n P).2*(emul D n P).2=1
 | 0=>⟨rfl,(by decide:(1:Fp)*1=1)⟩
 | n+1=>eadd_half (emul_half hP n) hP
theorem uOf_half {e y:Fp} (h:y*y=1):uOf e y=0:=by
 unfold uOf
 have h1:(1 - y)*(1+y)=0:=by grind
 rcases fp_zero h1 with h2 | h2
 · rw [h2,fi_zero,Fin.mul_zero]
 · rw [h2,Fin.mul_zero,Fin.zero_mul]
theorem mulL_less (ks:Nat→Nat) (u:Nat):mulL ks u<pF:=fmul_lt _ _
theorem HasU.next {e D:Fp} {P:Fp × Fp} {u:Nat} (h:HasU e D P u) (hu:u<pF) (ks:Nat→Nat) (h0:mulL ks u≠0):HasU e D (emul D (nOf ks 255) P) (mulL ks u):=by
 have hm:=mulL_u h hu ks
 have hc0:cF (mulL ks u)≠0:=fun e0=>h0 (cF_inj (mulL_less _ _) (by decide) (by rw [e0];decide))
 have hon:=emul_on h.ns h.on (nOf ks 255)
 generalize emul D (nOf ks 255) P=Q at *
 have h1:1 - Q.2≠0:=fun e0=>hc0 (by rw [hm];unfold uOf;rw [e0,fi_zero,Fin.mul_zero])
 have h2:1+Q.2≠0:=fun e0=>hc0 (by rw [hm];unfold uOf;rw [e0,Fin.mul_zero,Fin.zero_mul])
 refine ⟨h.ee,h.ns,h.da,h.ne,hon,?_,h2,h1⟩
 rw [hm]
 exact g_u (fi_mul h1)
theorem mulL_comm (ka kb:Nat→Nat) (u:Nat) (hu:u<pF):mulL kb (mulL ka u)=mulL ka (mulL kb u):=by
 by_cases h0:u=0
 · simp only [h0,mulL_zero]
 obtain ⟨e,D,P,h⟩:=has_point u hu h0
 have zero:∀ ks:Nat→Nat,mulL ks u=0→(emul D (nOf ks 255) P).1=0∧(emul D (nOf ks 255) P).2*(emul D (nOf ks 255) P).2=1:=fun ks hz=>by
  have hm:=mulL_u h hu ks
  rw [hz,show cF 0=0 by decide] at hm
  rcases uOf_zero h.ee h.ns (emul_on h.ns h.on _) hm.symm with e1 | e1
  · rw [e1];exact ⟨rfl,by decide⟩
  · rw [e1];exact ⟨rfl,g_m1⟩
 by_cases ha:mulL ka u=0
 · by_cases hb:mulL kb u=0
   · simp only [ha,hb,mulL_zero]
   · rw [ha,mulL_zero]
     have hm:=mulL_u (h.next hu kb hb) (mulL_less _ _) ka
     rw [emul_comm h.ns h.on,uOf_half (emul_half (zero ka ha) _).2] at hm
     exact (cF_inj (mulL_less _ _) (by decide) (by rw [hm];decide)).symm
 · by_cases hb:mulL kb u=0
   · rw [hb,mulL_zero]
     have hm:=mulL_u (h.next hu ka ha) (mulL_less _ _) kb
     rw [emul_comm h.ns h.on,uOf_half (emul_half (zero kb hb) _).2] at hm
     exact cF_inj (mulL_less _ _) (by decide) (by rw [hm];decide)
   · have m1:=mulL_u (h.next hu ka ha) (mulL_less _ _) kb
     have m2:=mulL_u (h.next hu kb hb) (mulL_less _ _) ka
     rw [emul_comm h.ns h.on,←m2] at m1
     exact cF_inj (mulL_less _ _) (mulL_less _ _) m1
end Go.Proofs.YtcgkajlehdgpoaaGreatDoor
