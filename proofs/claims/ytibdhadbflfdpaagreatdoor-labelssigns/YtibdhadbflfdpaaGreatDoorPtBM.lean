/- What the proof stands on: PtB, PtC, Api, Know, Sums, RootRef, RootRef2, RootFit. -/
import Derived.Test.YtibdhadbflfdpaaGreatDoorD1RBM
import Derived.Test.YtibdhadbflfdpaaGreatDoorLentM
import Derived.Test.YtibdhadbflfdpaaGreatDoorNNumM
import Derived.Test.YtibdhadbflfdpaaGreatDoorPNumM
import Derived.Test.YtibdhadbflfdpaaGreatDoorRefBytesM
import Derived.Test.YtibdhadbflfdpaaGreatDoorRefCarryM
import Derived.Test.YtibdhadbflfdpaaGreatDoorRefPow2
import Derived.WideShapes
namespace Go.Proofs.YtibdhadbflfdpaaGreatDoor
open Nat renaming le_refl → JW
open Nat renaming lt_of_lt_of_le → JX
open Go.NoPanic renaming normal → J8
def kQ:Nat:=7237005577332262213973186563042994240829374041602535252466099000494570602493
theorem Cu:236839902240 ^ (4*kQ+2)%pF=pF - 1:=by
 have h:=ir pF 236839902240 255 (4*kQ+2) (by decide);exact h.symm.trans (by kernel_rfl)
theorem GG (a b:Fp):(a*b).val=a.val*b.val%pF:=Fin.val_mul a b
theorem xT {z h:Nat} (hh:2*h+1=pF) (hz:¬pF ∣ z):(z*z%pF) ^ h%pF=1:=by
 rw [HU,←Nat.pow_two,←Nat.pow_mul,show 2*h=pF - 1 by omega,tz.fermat1 hz];decide
theorem IZ:NS (236839902240:Fp):=fun z hz=>by
 have hv:=congrArg Fin.val hz;rw [GG] at hv
 have hz0:¬pF ∣ z.val:=fun hd=>by
  have h0:z.val=0:=by
   rcases Nat.eq_zero_or_pos z.val with h | h
   · exact h
   · have:=Nat.le_of_dvd h hd;have:=z.isLt;omega
  rw [h0] at hv;exact absurd hv (by decide)
 have h1:=xT (h:=4*kQ+2) (by decide) hz0;rw [hv] at h1
 have h2:(236839902240:Fp).val=236839902240:=by decide
 rw [h2,Cu] at h1;exact absurd h1 (by decide)
theorem Jv {n:Nat} [NeZero n] {z D a b c:Fin n} (hz:z*z=D) (hD:D*a=b) (hc:a*b=c):(z*a)*(z*a)=c:=by grind
def dE:Fp:=121665*fi 121666
theorem Fu:(121666:Fp)≠0:=by decide
theorem Dz:dE*121666=121665:=by
 unfold dE;have h:=cW Fu;generalize fi (121666:Fp)=i at *
 have e:(121665:Fp)*i*121666=121665*(121666*i):=by rw [Fin.mul_assoc,Fin.mul_comm i]
 rw [e,h,Fin.mul_one]
theorem Ck {n:Nat} [NeZero n] {D a b:Fin n} (h:D*a=b):D*(4*a)=4*b:=by grind
theorem Ef:dE*486664=486660:=by
 have h:=Ck Dz
 rwa [show (4:Fp)*121666=486664 from by decide,show (4:Fp)*121665=486660 from by decide] at h
theorem gG:NS dE:=fun z hz=>IZ (z*486664) (Jv hz Ef (by decide))
def iI:Fp:=cF iM
theorem iT:iI*iI=0 - 1:=by decide
structure xh (X Y Z T:Fp) (P:Fp × Fp):Prop where
 z:Z≠0
 x:iI*X=P.1*Z
 y:Y=P.2*Z
 t:T*Z=X*Y
section
variable {n:Nat} [NeZero n]
theorem Je {i X p Z:Fin n} (hi:i*i=0-1) (h:i*X=p*Z):X=(0-1)*i*p*Z:=by
 have e:i*(i*X)=i*(p*Z):=by rw [h]
 clear h
 grind
theorem JC {i X Y Z T p q k:Fin n} (hk:Z*k=1) (hx:X=(0-1)*i*p*Z) (hy:Y=q*Z) (ht:T*Z=X*Y):T=(0-1)*i*p*q*Z:=by
 have e:T*Z*k=X*Y*k:=by rw [ht]
 have e1:T*Z*k=T:=by clear e ht hx hy;grind
 rw [e1,hx,hy] at e;rw [e];clear e e1 ht hx hy;grind
theorem JS {i f g h A p q k:Fin n} (hf:i*f=k*A) (hh:h=k*p) (hq:p*q=1):i*(f*g)=(A*q)*(g*h):=by
 have e1:i*(f*g)=(i*f)*g:=by clear hf hh hq;grind
 have e2:(A*q)*(g*h)=A*k*g*(p*q):=by rw [hh];clear e1 hf hh hq;grind
 rw [e1,e2,hf,hq];clear e1 e2 hf hh hq;grind
theorem JU {g h s B p q k:Fin n} (hs:s=k*B) (hg:g=k*p) (hq:p*q=1):h*s=(B*q)*(g*h):=by
 have e2:(B*q)*(g*h)=B*k*h*(p*q):=by rw [hg];clear hg hq hs;grind
 rw [e2,hs,hq];clear e2 hs hg hq;grind
theorem JO {f g h s:Fin n}:f*s*(g*h)=(f*g)*(h*s):=by grind
end
theorem Ct {D:Fp} (hD:NS D) {P Q:Fp × Fp} (hP:On D P) (hQ:On D Q) {f g h s k:Fp} (hk:k≠0) (hf:iI*f=k*(P.1*Q.2+Q.1*P.2)) (hg:g=k*(1 - D*P.1*Q.1*P.2*Q.2)) (hh:h=k*(1+D*P.1*Q.1*P.2*Q.2)) (hs:s=k*(P.2*Q.2 - P.1*Q.1)) :
 xh (f*g) (h*s) (g*h) (f*s) (dc D P Q) :=
 ⟨qC (by rw [hg];exact qC hk (pf hD hP hQ)) (by rw [hh];exact qC hk (oV hD hP hQ)),JS hf hh (cW (oV hD hP hQ)),JU hs hg (cW (pf hD hP hQ)),JO⟩
section
variable {n:Nat} [NeZero n]
theorem JL {i X1 Y1 Z1 X2 Y2 Z2 p1 p2 q1 q2:Fin n} (hx1:i*X1=p1*Z1) (hy1:Y1=p2*Z1) (hx2:i*X2=q1*Z2) (hy2:Y2=q2*Z2):i*(X1*Y2+Y1*X2)=Z1*Z2*(p1*q2+q1*p2):=by
 have e:i*(X1*Y2+Y1*X2)=(i*X1)*Y2+(i*X2)*Y1:=by clear hx1 hy1 hx2 hy2;grind
 rw [e,hx1,hx2,hy1,hy2];clear e hx1 hy1 hx2 hy2;grind
theorem JR {i T1 T2 Z1 Z2 p1 p2 q1 q2 d D:Fin n} (hi:i*i=0-1) (hd:d=0 - D) (h1:T1=(0-1)*i*p1*p2*Z1) (h2:T2=(0-1)*i*q1*q2*Z2):T1*T2*d=Z1*Z2*(D*p1*q1*p2*q2):=by
 have e:T1*T2*d=(i*i)*(p1*p2*q1*q2*Z1*Z2*d):=by rw [h1,h2];clear h1 h2 hd hi;grind
 rw [e,hi,hd];clear e h1 h2 hi hd;grind
theorem JJ {i X1 Y1 Z1 X2 Y2 Z2 p1 p2 q1 q2:Fin n} (hi:i*i=0-1) (hx1:X1=(0-1)*i*p1*Z1) (hy1:Y1=p2*Z1) (hx2:X2=(0-1)*i*q1*Z2) (hy2:Y2=q2*Z2):Y1*Y2+X1*X2=Z1*Z2*(p2*q2 - p1*q1):=by
 have e:X1*X2=(i*i)*(p1*q1*Z1*Z2):=by rw [hx1,hx2];clear hx1 hx2 hy1 hy2 hi;grind
 rw [e,hi,hy1,hy2];clear e hx1 hx2 hy1 hy2 hi;grind
theorem Gf {a b:Fin n}:a - a*b=a*(1-b)∧a+a*b=a*(1+b):=by constructor <;> grind
theorem Jn {X1 Y1 X2 Y2:Fin n}:(X1+Y1)*(X2+Y2) - X1*X2 - Y1*Y2=X1*Y2+Y1*X2:=by grind
theorem GW {i X Y Z p q:Fin n} (hi:i*i=0-1) (hx:X=(0-1)*i*p*Z) (hy:Y=q*Z):Y*Y - X*X=Z*Z*(p*p+q*q):=by
 have e:X*X=(i*i)*(p*p*Z*Z):=by rw [hx];clear hx hy hi;grind
 rw [e,hi,hy];clear e hx hy hi;grind
theorem Jo {D p q:Fin n} (h:p^2+q^2=1+D*p^2*q^2):p*p+q*q=1+D*p*p*q*q:=by grind
end
theorem xh.k {X Y Z T:Fp} {P:Fp × Fp} (h:xh X Y Z T P):X=(0-1)*iI*P.1*Z∧T=(0-1)*iI*P.1*P.2*Z :=
 ⟨Je iT h.x,JC (cW h.z) (Je iT h.x) h.y h.t⟩
theorem D4 {D d:Fp} (hD:NS D) (hd:d=0 - D) {P Q:Fp × Fp} (hP:On D P) (hQ:On D Q) {X1 Y1 Z1 T1 X2 Y2 Z2 T2:Fp} (h1:xh X1 Y1 Z1 T1 P) (h2:xh X2 Y2 Z2 T2 Q) :
 xh (((X1+Y1)*(X2+Y2) - X1*X2 - Y1*Y2)*(Z1*Z2 - T1*T2*d)) ((Z1*Z2+T1*T2*d)*(Y1*Y2+X1*X2)) ((Z1*Z2 - T1*T2*d)*(Z1*Z2+T1*T2*d)) (((X1+Y1)*(X2+Y2) - X1*X2 - Y1*Y2)*(Y1*Y2+X1*X2)) (dc D P Q):=by
 have k1:=h1.k;have k2:=h2.k;have hT:=JR iT hd k1.2 k2.2;refine Ct hD hP hQ (qC h1.z h2.z) ?_ ?_ ?_ ?_
 · rw [Jn];exact JL h1.x h1.y h2.x h2.y
 · rw [hT];exact Gf.1
 · rw [hT];exact Gf.2
 · exact JJ iT k1.1 h1.y k2.1 h2.y
theorem Dc:(1:Fp)≠0:=by decide
theorem BB:xh 0 1 1 0 dR:=⟨Dc,by unfold dR;decide,by unfold dR;decide,by decide⟩
def DH (P:Fp × Fp):Fp:=(0-1)*iI*P.1
section
variable {n:Nat} [NeZero n]
theorem JD {X a Z k:Fin n} (hk:Z*k=1) (h:X=a*Z):X*k=a:=by
 have e:X*k=a*(Z*k):=by rw [h];clear h hk;grind
 rw [e,hk];clear e h hk;grind
theorem tq {i a b:Fin n} (hi:i*i=0-1) (h:(0-1)*i*a=(0-1)*i*b):a=b:=by
 have e:i*((0-1)*i*a)=i*((0-1)*i*b):=by rw [h]
 clear h
 have e1:∀ c:Fin n,i*((0-1)*i*c)=(0-1)*((i*i)*c):=fun c=>by clear e hi;grind
 rw [e1,e1,hi] at e;clear e1
 grind
theorem FT {X1 Z1 X2 Z2 a b:Fin n} (h1:X1=a*Z1) (h2:X2=b*Z2):X1*Z2=a*(Z1*Z2)∧X2*Z1=b*(Z1*Z2):=by rw [h1,h2];constructor <;> grind
end
theorem xh.affine {X Y Z T:Fp} {P:Fp × Fp} (h:xh X Y Z T P):X*fi Z=DH P∧Y*fi Z=P.2 :=
 ⟨JD (cW h.z) h.k.1,JD (cW h.z) h.y⟩
theorem lJ {a b c:Fp} (hc:c≠0) (h:a*c=b*c):a=b:=by
 have h1:=cW hc
 have e:∀ x:Fp,x*c*fi c=x:=fun x=>by rw [Fin.mul_assoc,h1,Fin.mul_one]
 rw [←e a,h,e b]
theorem B3 {X1 Y1 Z1 T1 X2 Y2 Z2 T2:Fp} {P Q:Fp × Fp} (h1:xh X1 Y1 Z1 T1 P) (h2:xh X2 Y2 Z2 T2 Q):(X1*Z2=X2*Z1∧Y1*Z2=Y2*Z1)↔P=Q:=by
 have hz:=qC h1.z h2.z;have cx:=FT (a:=DH P) (b:=DH Q) h1.k.1 h2.k.1;have cy:=FT h1.y h2.y
 constructor
 · intro ⟨hx,hy⟩
   rw [cx.1,cx.2] at hx;rw [cy.1,cy.2] at hy;exact Prod.ext (tq iT (lJ hz hx)) (lJ hz hy)
 · intro e
   rw [cx.1,cx.2,cy.1,cy.2,e];exact ⟨rfl,rfl⟩
section
variable {n:Nat} [NeZero n]
theorem IW {D p q y:Fin n} (h1:p^2+y^2=1+D*p^2*y^2) (h2:q^2+y^2=1+D*q^2*y^2):((p-q)*(p+q))*(1 - D*y*y)=0:=by grind
theorem zR {a b:Fin n} (h:a - b=0):a=b:=by grind
theorem Aa {a b:Fin n} (h:a+b=0):a=0 - b:=by grind
theorem Gj {i a b:Fin n} (h:a=0 - b):(0-1)*i*a+(0-1)*i*b=0:=by rw [h];clear h;grind
theorem EP {i x y D d:Fin n} (hi:i*i=0-1) (hd:d=0 - D) (h:x*x*(d*(y*y)+1)=y*y - 1):(i*x)^2+y^2=1+D*(i*x)^2*y^2:=by
 have e:(i*x)^2=(i*i)*(x*x):=by clear h hi hd;grind
 rw [e,hi];rw [hd] at h;clear e hi hd;grind
theorem GL {i x:Fin n} (hi:i*i=0-1):(0-1)*i*(i*x)=x:=by
 have e:(0-1)*i*(i*x)=(0-1)*((i*i)*x):=by clear hi;grind
 rw [e,hi];clear e hi;grind
end
theorem uR {a b:Fp} (h:a+b=0) (hp:a.val%2=b.val%2):a=0:=by
 have hv:=congrArg Fin.val h;rw [Fin.val_add] at hv;have ha:=a.isLt;have hb:=b.isLt
 have hodd:pF%2=1:=by decide
 refine Fin.ext ?_;show a.val=0
 change (a.val+b.val)%pF=0 at hv
 generalize a.val=x at *;generalize b.val=y at *;clear h a b;generalize pF=p at *
 rcases Nat.lt_or_ge (x+y) p with h1 | h1
 · rw [Nat.mod_eq_of_lt h1] at hv;omega
 · have:(x+y - p)%p=0:=by rw [←Nat.mod_eq_sub_mod h1];exact hv
   rw [Nat.mod_eq_of_lt (by omega)] at this;omega
theorem DU {D:Fp} (hD:NS D) {P Q:Fp × Fp} (hP:On D P) (hQ:On D Q) (hy:P.2=Q.2) (hx:(DH P).val%2=(DH Q).val%2):P=Q:=by
 obtain ⟨p,y⟩:=P;obtain ⟨q,y'⟩:=Q;simp only at hy;subst hy;unfold On at hP hQ;simp only at hP hQ;unfold DH at hx;simp only at hx;have h:=(jn (IW hP hQ)).resolve_right (GA hD)
 rcases jn h with h1 | h1
 · rw [zR h1]
 · have e:=Aa h1
   have h0:=uR (Gj (i:=iI) e) hx;have hp:p=0:=tq iT (h0.trans (by rw [Fin.mul_zero]))
   have hq:q=0:=by
    have e2:(0-1)*iI*q=0:=by
     have:=Gj (i:=iI) e;rw [h0,Fin.zero_add] at this;exact this
    exact tq iT (e2.trans (by rw [Fin.mul_zero]))
   rw [hp,hq]
structure N4 where
 X:Nat
 Y:Nat
 Z:Nat
 T:Nat
structure N4.Ok (p:N4):Prop where
 X:p.X<pF
 Y:p.Y<pF
 Z:p.Z<pF
 T:p.T<pF
def gE (p:N4) (P:Fp × Fp):Prop:=xh (cF p.X) (cF p.Y) (cF p.Z) (cF p.T) P
def dN:Nat:=37095705934669439343138083508754565189542113879843219016388785533085940283555
theorem Ce:dN<pF:=by decide
theorem FU:cF dN=0 - dE:=by
 have h:cF dN*121666=0 - 121665:=by decide
 refine lJ Fu ?_;rw [h]
 have e:(0 - dE)*121666=0 - dE*121666:=by generalize dE=D;generalize (121666:Fp)=k;grind
 rw [e,Dz]
def uG (p q:N4):Nat:=cj (cj (av (fj p.X p.Y) (fj q.X q.Y)) (av p.X q.X)) (av p.Y q.Y)
def kU (d:Nat) (p q:N4):N4 :=
 ⟨av (uG p q) (cj (av p.Z q.Z) (av (av p.T q.T) d)),av (fj (av p.Z q.Z) (av (av p.T q.T) d)) (fj (av p.Y q.Y) (av p.X q.X)),
  av (cj (av p.Z q.Z) (av (av p.T q.T) d)) (fj (av p.Z q.Z) (av (av p.T q.T) d)),av (uG p q) (fj (av p.Y q.Y) (av p.X q.X))⟩
theorem si (d:Nat) (p q:N4):(kU d p q).Ok:=⟨aJ _ _,aJ _ _,aJ _ _,aJ _ _⟩
theorem kV {p q:N4} {P Q:Fp × Fp} (hP:On dE P) (hQ:On dE Q) (h1:gE p P) (h2:gE q Q):gE (kU dN p q) (dc dE P Q):=by
 unfold gE kU uG;simp only [gt,wG,nV _ _ (aJ _ _)];exact D4 gG FU hP hQ h1 h2
theorem sx:cF 0=0:=by decide
theorem xk:cF 1=1:=by decide
def gJ:N4:=⟨0,1,1,0⟩
theorem oE:gJ.Ok:=⟨by decide,by decide,by decide,by decide⟩
theorem mn:gE gJ dR:=by
 unfold gE gJ;simp only [sx,xk];exact BB
theorem rM {a:Nat} (h:a<pF):(cF a).val=a:=Nat.mod_eq_of_lt h
theorem Hu {p:N4} {P:Fp × Fp} (hp:p.Ok) (h:gE p P):av p.X (de p.Z)=(DH P).val∧av p.Y (de p.Z)=P.2.val:=by
 have a:=xh.affine h;rw [←Hv _ hp.Z,←gt,←gt] at a;exact ⟨by rw [←a.1,rM (aJ _ _)],by rw [←a.2,rM (aJ _ _)]⟩
def da (P:Fp × Fp) (j:Nat):Nat:=if j=31 then bf P.2.val 31+128*((DH P).val%2) else bf P.2.val j
def eO (x y:Nat):N4:=⟨x,y,1,av x y⟩
theorem rF {x y:Nat} (hx:x<pF) (hy:y<pF):(eO x y).Ok:=⟨hx,hy,(show 1<pF by decide),aJ _ _⟩
def vf (x y:Nat):Fp × Fp:=(iI*cF x,cF y)
theorem nZ (x y:Nat):gE (eO x y) (vf x y):=by
 unfold gE eO;simp only [xk,gt];exact ⟨Dc,by show iI*cF x=iI*cF x*1;rw [Fin.mul_one],by show cF y=cF y*1;rw [Fin.mul_one],by rw [Fin.mul_one]⟩
theorem yo {x y:Nat} (h:cF x*cF x*(cF dN*(cF y*cF y)+1)=cF y*cF y - 1):On dE (vf x y):=EP iT FU h
theorem Ir {x:Nat} (y:Nat) (hx:x<pF):(DH (vf x y)).val=x:=by
 unfold DH vf;simp only;rw [GL iT,rM hx]
theorem Iv (x:Nat) {y:Nat} (hy:y<pF):(vf x y).2.val=y:=rM hy
def nB (ks:Nat→Nat):Nat→Nat
 | 0=>0
 | j+1=>2*nB ks j+ks ((255 - j) / 8) / 2 ^ ((255 - j)%8)%2
theorem yY (ks:Nat→Nat) (hk:∀ j,ks j<256):∀ n i,i<8*n→aK ks n / 2 ^ i%2=ks (i / 8) / 2 ^ (i%8)%2
 | 0,i,h=>by omega
 | n+1,i,h=>by
  have ih:=yY ks hk n;have hl:=dY ks hk n;unfold aK
  have e256:256 ^ n=2 ^ (8*n):=by rw [Nat.pow_mul]
  by_cases hi:i<8*n
  · rw [←ih i hi,e256]
    obtain ⟨d,hd⟩:∃ d,8*n=i+(d+1):=⟨8*n - i - 1,by omega⟩
    rw [hd,Nat.pow_add,Nat.mul_assoc,Nat.add_mul_div_left _ _ (Nat.two_pow_pos i),Nat.pow_succ,Nat.mul_comm (2 ^ d) 2,Nat.mul_assoc,Nat.add_mul_mod_self_left]
  · obtain ⟨d,rfl⟩:∃ d,i=8*n+d:=⟨i - 8*n,by omega⟩
    have hd:d<8:=by omega
    rw [show (8*n+d) / 8=n by omega,show (8*n+d)%8=d by omega,Nat.pow_add,←Nat.div_div_eq_div_mul,←e256,Nat.add_mul_div_left _ _ (Nat.pow_pos (by decide)),Nat.div_eq_of_lt hl,Nat.zero_add]
theorem Fx (ks:Nat→Nat) (hk:∀ j,ks j<256):∀ j,j≤256→nB ks j=aK ks 32 / 2 ^ (256 - j)
 | 0,_=>by
  have:=dY ks hk 32;rw [nB,Nat.div_eq_of_lt];exact JX this (by decide)
 | j+1,h=>by
  have ih:=Fx ks hk j (by omega);unfold nB;rw [ih,←yY ks hk 32 (255 - j) (by omega),show 256 - j=(255 - j)+1 by omega,show 256 - (j+1)=255 - j by omega,Nat.pow_succ,←Nat.div_div_eq_div_mul];omega
theorem Gp (ks:Nat→Nat) (hk:∀ j,ks j<256):nB ks 256=aK ks 32:=by
 rw [Fx ks hk 256 (JW _),Nat.sub_self,Nat.pow_zero,Nat.div_one]
def pL (d:Nat) (p:N4) (ks:Nat→Nat):Nat→N4
 | 0=>gJ
 | j+1=>if ks ((255 - j) / 8) / 2 ^ ((255 - j)%8)%2=1 then kU d (kU d (pL d p ks j) (pL d p ks j)) p else kU d (pL d p ks j) (pL d p ks j)
theorem DW (d:Nat) (p:N4) (ks:Nat→Nat):∀ j,(pL d p ks j).Ok
 | 0=>oE
 | j+1=>by
  unfold pL
  split <;> exact si _ _ _
theorem uC {p:N4} {P:Fp × Fp} (hP:On dE P) (h:gE p P) (ks:Nat→Nat):∀ j,gE (pL dN p ks j) (cK dE (nB ks j) P)
 | 0=>mn
 | j+1=>by
  have ih:=uC hP h ks j;have on:=ie gG hP (nB ks j)
  have e2:dc dE (cK dE (nB ks j) P) (cK dE (nB ks j) P)=cK dE (2*nB ks j) P:=by rw [←lB gG hP,Nat.two_mul]
  have d2:=kV on on ih ih;rw [e2] at d2;unfold pL nB
  by_cases hb:ks ((255 - j) / 8) / 2 ^ ((255 - j)%8)%2=1
  · rw [if_pos hb,hb]
    exact kV (ie gG hP _) hP d2 h
  · rw [if_neg hb,show ks ((255 - j) / 8) / 2 ^ ((255 - j)%8)%2=0 by omega]
    exact d2
open Go.RowKit
def jS (w w':World) (v:Value) (n:Nat) (X:Nat→Nat):Prop:=∃ g,v = .slice (some ⟨g,0,none⟩) n n∧w.heap.size≤g∧ah .u8 w' g 0 n X
theorem jS.bytes {w w':World} {v:Value} {n:Nat} {X:Nat→Nat} (h:jS w w' v n X) (h0:0<n):ae w' v n X:=by
 obtain ⟨g,rfl,-,hr⟩:=h;exact .inr ⟨g,0,n,rfl,block_lt_of_cell (hr 0 h0).1,JW _,fun j hj=>(hr j hj).1⟩
theorem jS.still {w w' w2:World} {v:Value} {n:Nat} {X:Nat→Nat} (h:jS w w' v n X) (h0:0<n) (hb:Below w'.heap.size w' w2):jS w w2 v n X:=by
 obtain ⟨g,rfl,hg,hr⟩:=h;exact ⟨g,rfl,hg,hr.below hb (block_lt_of_cell (hr 0 h0).1)⟩
theorem bS (n:Nat):∀ j,bf n j<256:=fun j=>dD n j
theorem Aw (n:Nat) (h:n<115792089237316195423570985008687907853269984665640564039457584007913129639936):aK (bf n) 32=n:=by
 rw [ed,show (256:Nat) ^ 32=115792089237316195423570985008687907853269984665640564039457584007913129639936 from rfl,Nat.mod_eq_of_lt h]
theorem Ek {W:World} {v:Value} {n:Nat} {X:Nat→Nat} (h:ae W v n X) (hX:∀ j,X j<256):∃ xo c,v = .slice xo n c∧∀ W',Below W.heap.size W W'→(convert 22 9 v).run Tryz.prog W' = .ok (.string (bF n X)) W':=by
 have hc:=h.conv hX;obtain ⟨xo,c,rfl,-⟩:=h.src;exact ⟨xo,c,rfl,hc⟩
structure iL (W:World) (v:Value) (S:ByteArray):Prop where
 form:∃ xo n c,v = .slice xo n c
 conv:∀ W',Below W.heap.size W W'→(convert 22 9 v).run Tryz.prog W' = .ok (.string S) W'
theorem iL.of {W:World} {v:Value} {n:Nat} {X:Nat→Nat} (h:ae W v n X) (hX:∀ j,X j<256):iL W v (bF n X):=by
 obtain ⟨xo,c,rfl,hc⟩:=Ek h hX;exact ⟨⟨xo,n,c,rfl⟩,hc⟩
theorem iL.still {W W2:World} {v:Value} {S:ByteArray} (h:iL W v S) (hb:Below W.heap.size W W2):iL W2 v S:=⟨h.form,fun W' h2=>h.conv W' (hb.trans (h2.mono hb.size))⟩
theorem iL.nil (W:World):iL W (.slice none 0 0) (bF 0 (fun _=>0)):=⟨⟨none,0,0,rfl⟩,fun W' _=>uI W'⟩
structure za (w:World) (g:Nat) (L:Nat→Int):Prop where
 row:ap w g 16 L
 lt:g<w.heap.size
theorem za.still {w w':World} {g:Nat} {L:Nat→Int} (h:za w g L) (hb:Below w.heap.size w w'):za w' g L:=⟨h.row.below hb h.lt,JX h.lt hb.size⟩
theorem lM (w:World) (A B:Nat→Int) (t:TypeId):za ((w.alloc (.cells (af 16 A).toArray t)).alloc (.cells (af 16 B).toArray t)) w.heap.size A∧za ((w.alloc (.cells (af 16 A).toArray t)).alloc (.cells (af 16 B).toArray t)) (w.heap.size+1) B:=by
 have h1:za (w.alloc (.cells (af 16 A).toArray t)) w.heap.size A:=⟨ap.box w 16 A t,by simp⟩
 have h2:za ((w.alloc (.cells (af 16 A).toArray t)).alloc (.cells (af 16 B).toArray t)) (w.alloc (.cells (af 16 A).toArray t)).heap.size B:=⟨ap.box _ 16 B t,by simp⟩
 rw [World.size_alloc] at h2;exact ⟨h1.still ((Below.refl _ _).alloc (JW _) _),h2⟩
theorem E9 {x y:Nat} (hx:x<pF) (hy:y<pF):((bF 32 (bf x)).toList == (bF 32 (bf y)).toList)=decide (x=y):=by
 by_cases h:x=y
 · subst h;rw [decide_eq_true rfl];exact beq_self_eq_true _
 · rw [decide_eq_false h,ByteArray.toList_eq,ByteArray.toList_eq]
   refine beq_false_of_ne (fun e=>h ?_);have:=(fY (bS x) (bS y)).1 (WideShapes.bytes_inj e);exact Eu (by unfold pF at hx;omega) (by unfold pF at hy;omega) this.2
theorem lP (A:Nat→Int) (a:Nat) (hA:Rep A a) (w:World):Calls Tryz.prog 118 #[.agg (af 16 A).toArray] w fun e w'=>∃ v,e = .returned v∧bx w.heap.size w' v 32 (bf (a%pF))∧Below w.heap.size w w' :=
 og A (hA.dig.mono (by decide)) a hA.val w
set_option maxRecDepth 20000 in
set_option maxHeartbeats 4000000 in
theorem qI (A B:Nat→Int) (a b:Nat) (cA:∀ W,Calls Tryz.prog 118 #[.agg (af 16 A).toArray] W fun e w'=>∃ v,e = .returned v∧bx W.heap.size w' v 32 (bf (a%pF))∧Below W.heap.size W w') (cB:∀ W,Calls Tryz.prog 118 #[.agg (af 16 B).toArray] W fun e w'=>∃ v,e = .returned v∧bx W.heap.size w' v 32 (bf (b%pF))∧Below W.heap.size W w') (w:World) :
 Calls Tryz.prog 124 #[bZ A,bZ B] w fun e w'=>e = .returned (.bool (decide (a%pF=b%pF)))∧Below w.heap.size w w':=by
 have hxl:a%pF<pF:=Nat.mod_lt _ db;have hyl:b%pF<pF:=Nat.mod_lt _ db;have hse:=E9 hxl hyl
 obtain ⟨z,hz⟩:∃ z,z=decide (a%pF=b%pF):=⟨_,rfl⟩
 rw [←hz] at hse ⊢;obtain ⟨bxA,bxB⟩:=lM w A B 92
 obtain ⟨W,hW⟩:∃ W,W=(w.alloc (.cells (af 16 A).toArray 92)).alloc (.cells (af 16 B).toArray 92):=⟨_,rfl⟩
 have hw:Below w.heap.size w W:=by rw [hW];exact ((Below.refl _ _).alloc (JW _) _).alloc (by simp) _
 rw [←hW] at bxA bxB;have HW:=Hid.mk' hW;generalize a%pF=x at *;generalize b%pF=y at *;unfold bZ;clear hW hz hxl hyl;go_enter Tryz.func124,Tryz.ntmps124;go_wp2;rw [←HW.out];have hdrew:Below W.heap.size W W.drew:=(Below.refl _ _).drew;replace bxA:=bxA.still hdrew;replace bxB:=bxB.still hdrew;replace hw:=aa hw hdrew;clear hdrew;refine wp_region_noPanic ?_;refine wp_region_held_drew (S:=fun w'=>Below W.drew.heap.size W.drew w') (by kernel_rfl) (Below.refl _ _) (fun hHeld => ?_);clear hHeld;refine wpAnyH_take (i:=0) (oi:=oN 5 (Op.load 92 (oT 2)) 92 "ref.go:112" #[]) (v := .agg (af 16 A).toArray) rfl (by kernel_rfl) (by kernel_rfl) (by kernel_rfl) (fun _ _ _ h=>h) (yieldsIf_load_mid (by rfl) 92 _ rfl w.heap.size 0 rfl (af 16 A) _ (fun _ h=>(bxA.still h).row.range) Tryz.underlying92 rfl (a8 A)) (Below.refl _ _) ?_;(try simp only [pS]);refine wpAnyH_take (i:=3) (oi:=oN 8 (Op.load 92 (oT 3)) 92 "ref.go:112" #[]) (v := .agg (af 16 B).toArray) rfl (by kernel_rfl) (by kernel_rfl) (by kernel_rfl) (fun _ _ _ h=>h) (yieldsIf_load_mid (by rfl) 92 _ rfl (w.heap.size+1) 0 rfl (af 16 B) _ (fun _ h=>(bxB.still h).row.range) Tryz.underlying92 rfl (a8 B)) (Below.refl _ _) ?_;(try simp only [pS]);refine cn 1 (cA _) ?_;(clear cA;rintro e w1 ⟨v1,rfl,own1,hb1⟩;(have t1:=iL.of (ae.of_own own1) (bS _));(obtain ⟨x1,n1,k1,rfl⟩:=t1.form));refine ⟨_,rfl,hb1,?_⟩;clear bxA;replace bxB:=bxB.still hb1;replace hw:=aa hw hb1;clear hb1;(try simp only [pS]);refine tk 2 _ bR (hy := .inl ⟨by rfl,fun w hSw=>by have q:=t1.conv w hSw;go_simp;try with_reducible rfl⟩) (h := ?_);(try simp only [pS]);refine cn 4 (cB _) ?_;(clear cB;rintro e w2 ⟨v2,rfl,own2,hb2⟩;(have t2:=iL.of (ae.of_own own2) (bS _));(obtain ⟨x2,n2,k2,rfl⟩:=t2.form));refine ⟨_,rfl,hb2,?_⟩;clear bxB;replace t1:=t1.still hb2;replace hw:=aa hw hb2;clear hb2;(try simp only [pS]);refine tk 5 _ bR (hy := .inl ⟨by rfl,fun w hSw=>by have q:=t2.conv w hSw;go_simp;try with_reducible rfl⟩) (h := ?_);(try simp only [pS]);refine tg 6 bR ?_;(try simp only [pS]);refine tg 7 bR ?_;(try simp only [pS]);refine wpAnyH_done (by kernel_rfl) ?_ _;refine J8 ?_;go_wp2;go_ret;exact ⟨rfl,hw⟩
theorem AZ (A B:Nat→Int) (a b:Nat) (hA:Rep A a) (hB:Rep B b) (w:World) :
 Calls Tryz.prog 124 #[bZ A,bZ B] w fun e w'=>e = .returned (.bool (decide (a%pF=b%pF)))∧Below w.heap.size w w' :=
 qI A B a b (fun W=>lP A a hA W) (fun W=>lP B b hB W) w
theorem Rep.to {L:Nat→Int} {x y:Nat} (h:Rep L x) (e:x%pF=y%pF):Rep L y:=⟨h.dig,by rw [h.val,e]⟩
theorem D1 (x:Int) (h0:0≤x) (h2:x≤9223372036854775807):tI 65535 (kg x):=by
 have e0:∀ j,0≤kg x j∧kg x j≤65535:=fun j=>by
  unfold kg
  split
  · omega
  · split
    · have:(65536:Int) ^ 3=281474976710656:=by decide
      rw [this];omega
    · decide
 exact ⟨by have:=e0 0;omega,fun j _ _=>e0 j⟩
theorem AF (x:Nat) (h:x≤9223372036854775807):Rep (aq (kg x)) x:=by
 refine ⟨(fM _ ((D1 x (by omega) (by omega)).mono (by decide))).1,?_⟩;rw [bI,ze,show ∀ a b P:Int,a - b*2*P=a+P*(-(b*2)) from fun a b P=>by rw [Int.mul_neg,Int.mul_comm P];omega,Int.add_mul_emod_self_left,dI]
theorem o7 (x:Nat) (h:x≤9223372036854775807) (w:World):Calls Tryz.prog 119 #[.int .i64 x] w fun e w'=>∃ R,e = .returned (.agg (af 16 R).toArray)∧Rep R x∧Below w.heap.size w w' :=
 (jI x (by omega) (by omega) w).mono fun e w' ⟨he,hb⟩=>⟨_,he,AF x h,hb⟩
set_option maxRecDepth 20000 in
set_option maxHeartbeats 2000000 in
theorem vo (w:World):Calls Tryz.prog 221 #[] w fun e w'=>∃ R,e = .returned (.agg (af 16 R).toArray)∧Rep R iM∧Below w.heap.size w w':=by
 have hz:=dC
 have c2:∀ W,Calls Tryz.prog 119 #[.int .i64 2] W fun e w'=>∃ R,e = .returned (.agg (af 16 R).toArray)∧Rep R 2∧Below W.heap.size W w':=fun W=>o7 2 (by decide) W
 have cp:∀ W A,Rep A 2→Calls Tryz.prog 179 #[.agg (af 16 A).toArray,.int .i64 253,.int .i64 3,.int .i64 3] W fun e w'=>∃ R,e = .returned (.agg (af 16 R).toArray)∧Rep R iM∧Below W.heap.size W w':=fun W A hA =>
  (AM A 2 hA W).mono fun e w' ⟨R,he,hR,hb⟩=>⟨R,he,hR.to (by rw [Ie];rfl),hb⟩
 have hbW:Below w.heap.size w (w.alloc (.cells zI 92)):=(Below.refl _ _).alloc (JW _) _;have hres:ap (w.alloc (.cells zI 92)) w.heap.size 16 (fun _=>0):=ap.fresh w zI _ (fun j hj=>dS j hj)
 have hsz:w.heap.size<(w.alloc (.cells zI 92)).heap.size:=by simp
 have hi2:=bH;have ho:=eM;go_enter Tryz.func221,Tryz.ntmps221
 go_wp2_with (first
  | (go_at_call 119;refine (c2 _).mono ?_;clear c2;rintro e w1 ⟨R1,rfl,hR1,hb1⟩;(have hr1:=hres.below hb1 hsz);(have hs1:=JX hsz hb1.size);(have hw1:=hbW.trans (hb1.mono hbW.size));replace cp:=cp w1 R1 hR1)
  | (go_at_call 179;refine cp.mono ?_;clear cp;rintro e w2 ⟨R,rfl,hR,hb2⟩;(have hr2:=hr1.below hb2 hs1);(have hth:w2.there w.heap.size 0 (af 16 R).toArray.size:=by rw [an];exact hr2.there);(have hw2:=aa hw1 hb2))
  | (with_reducible (refine id (?_:wpList _ _ _ _ _ _));refine wpList_store_mid rfl 92 _ _ rfl w.heap.size 0 (af 16 R).toArray rfl rfl hth (hi2 R) (ho R) ?_))
 (try simp only [Exit.inBlock,Exit.then]);refine bodyPost_ret (ai Tryz.results221 _ _ w.heap.size 0 (af 16 R) _ rfl (World.rangeAt_setCells_same _ _ _ _ (by rw [bl];exact hr2.there)) Tryz.underlying92 rfl (a8 R)) rfl ⟨R,rfl,hR,?_⟩;exact ac (JW _) _ _ _ hw2
theorem za.out {w w':World} {g b:Nat} {L:Nat→Int} (h:za w b L) (ho:aT g 0 16 w w') (hne:b≠g):za w' b L :=
 ⟨fun j hj=>⟨(ho.cell' h.lt hne).trans (h.row j hj).1,(ho.frozen' h.lt hne).trans (h.row j hj).2⟩,JX h.lt ho.size⟩
theorem j7 {A B:Nat→Int} {a b:Nat} (hA:Rep A a) (hB:Rep B b) (w:World):Calls Tryz.prog 120 #[.agg (af 16 A).toArray,.agg (af 16 B).toArray] w fun e w'=>∃ R,e = .returned (.agg (af 16 R).toArray)∧Rep R (a*b)∧Below w.heap.size w w' :=
 (cZ A B hA.bd hB.bd w).mono fun _ _ ⟨he,hb⟩=>⟨_,he,fH hA hB,hb⟩
theorem ma {A B:Nat→Int} {a b:Nat} (hA:Rep A a) (hB:Rep B b) (z:Bool) (hz:decide (a%pF=b%pF)=z) (w:World):Calls Tryz.prog 124 #[.agg (af 16 A).toArray,.agg (af 16 B).toArray] w fun e w'=>e = .returned (.bool z)∧Below w.heap.size w w':=by
 have h:=AZ A B a b hA hB w;rw [hz] at h;exact h
set_option maxRecDepth 20000 in
set_option maxHeartbeats 4000000 in
theorem CU (A B:Nat→Int) (a b:Nat) (hA:Rep A a) (hB:Rep B b) (h:a*a%pF=b%pF) (w:World) :
 Calls Tryz.prog 180 #[.agg (af 16 A).toArray,.agg (af 16 B).toArray] w fun e w'=>e = .returned (.agg (af 16 A).toArray)∧Below w.heap.size w w':=by
 have cT:=fun W=>j7 hA hA W
 have cS:=fun (R:Nat→Int) (hR:Rep R (a*a)) (W:World)=>ma hR hB true (decide_eq_true h) W
 have hz:=dC;obtain ⟨bxA,bxB⟩:=lM w A B 92
 obtain ⟨W,hW⟩:∃ W,W=((w.alloc (.cells (af 16 A).toArray 92)).alloc (.cells (af 16 B).toArray 92)).alloc (.cells zI 92):=⟨_,rfl⟩
 have hw:Below w.heap.size w W:=by rw [hW];exact (((Below.refl _ _).alloc (JW _) _).alloc (by simp) _).alloc (by simp;omega) _
 have bxR:za W (w.heap.size+1+1) (fun _=>0):=by
  have h:za W ((w.alloc (.cells (af 16 A).toArray 92)).alloc (.cells (af 16 B).toArray 92)).heap.size (fun _=>0):=by rw [hW];exact ⟨ap.fresh _ zI _ (fun j hj=>dS j hj),by simp⟩
  rw [World.size_alloc,World.size_alloc] at h;exact h
 have hstep:Below ((w.alloc (.cells (af 16 A).toArray 92)).alloc (.cells (af 16 B).toArray 92)).heap.size ((w.alloc (.cells (af 16 A).toArray 92)).alloc (.cells (af 16 B).toArray 92)) W:=by rw [hW];exact (Below.refl _ _).alloc (JW _) _
 replace bxA:=bxA.still hstep;replace bxB:=bxB.still hstep;have HW:=Hid.mk' hW;clear hW hstep;clear hA hB h;go_enter Tryz.func180,Tryz.ntmps180;go_wp2;rw [←HW.out];have hdrew:Below W.heap.size W W.drew:=(Below.refl _ _).drew;replace bxA:=bxA.still hdrew;replace bxB:=bxB.still hdrew;replace bxR:=bxR.still hdrew;replace hw:=aa hw hdrew;clear hdrew;refine wp_region_noPanic ?_;refine wp_region_held_drew (S:=fun w'=>Below W.drew.heap.size W.drew w') (by kernel_rfl) (Below.refl _ _) (fun hHeld => ?_);clear hHeld;refine wpAnyH_take (i:=0) (oi:=oN 5 (Op.load 92 (oT 2)) 92 "ref.go:191" #[]) (v := .agg (af 16 A).toArray) rfl (by kernel_rfl) (by kernel_rfl) (by kernel_rfl) (fun _ _ _ h=>h) (yieldsIf_load_mid (by rfl) 92 _ rfl w.heap.size 0 rfl (af 16 A) _ (fun _ h=>(bxA.still h).row.range) Tryz.underlying92 rfl (a8 A)) (Below.refl _ _) ?_;(try simp only [pS]);refine wpAnyH_take (i:=1) (oi:=oN 6 (Op.load 92 (oT 2)) 92 "ref.go:191" #[]) (v := .agg (af 16 A).toArray) rfl (by kernel_rfl) (by kernel_rfl) (by kernel_rfl) (fun _ _ _ h=>h) (yieldsIf_load_mid (by rfl) 92 _ rfl w.heap.size 0 rfl (af 16 A) _ (fun _ h=>(bxA.still h).row.range) Tryz.underlying92 rfl (a8 A)) (Below.refl _ _) ?_;(try simp only [pS]);refine wpAnyH_take (i:=3) (oi:=oN 8 (Op.load 92 (oT 3)) 92 "ref.go:191" #[]) (v := .agg (af 16 B).toArray) rfl (by kernel_rfl) (by kernel_rfl) (by kernel_rfl) (fun _ _ _ h=>h) (yieldsIf_load_mid (by rfl) 92 _ rfl (w.heap.size+1) 0 rfl (af 16 B) _ (fun _ h=>(bxB.still h).row.range) Tryz.underlying92 rfl (a8 B)) (Below.refl _ _) ?_;(try simp only [pS]);refine cn 2 (cT _) ?_;(clear cT;rintro e w1 ⟨R1,rfl,hR1,hb1⟩;replace cS:=cS R1 hR1);refine ⟨_,rfl,hb1,?_⟩;replace bxA:=bxA.still hb1;replace bxB:=bxB.still hb1;replace bxR:=bxR.still hb1;replace hw:=aa hw hb1;clear hb1;(try simp only [pS]);refine cn 4 (cS _) ?_;(clear cS;rintro e w2 ⟨rfl,hb2⟩);refine ⟨_,rfl,hb2,?_⟩;replace bxA:=bxA.still hb2;replace bxB:=bxB.still hb2;replace bxR:=bxR.still hb2;replace hw:=aa hw hb2;clear hb2;(try simp only [pS]);refine wpAnyH_done (by kernel_rfl) ?_ _;refine J8 ?_;have hr:=bxA.row.range;have hiA:=a8 A
 have hth:w2.there (w.heap.size+1+1) 0 (af 16 A).toArray.size:=by rw [an];exact bxR.row.there
 have hi2:=bH A;have ho:=eM A
 go_wp2_with (first
  | (refine wpList_load_mid rfl 92 _ rfl w.heap.size 0 rfl (af 16 A) _ hr Tryz.underlying92 rfl hiA ?_)
  | (with_reducible (refine id (?_:wpList _ _ _ _ _ _));refine wpList_store_mid rfl 92 _ _ rfl (w.heap.size+1+1) 0 (af 16 A).toArray rfl rfl hth hi2 ho ?_))
 (try simp only [Exit.inBlock,Exit.then]);refine bodyPost_ret (ai Tryz.results180 _ _ (w.heap.size+1+1) 0 (af 16 A) _ rfl (World.rangeAt_setCells_same _ _ _ _ (by rw [bl];exact bxR.row.there)) Tryz.underlying92 rfl hiA) rfl ⟨rfl,?_⟩;exact ac (by omega) _ _ _ hw
set_option maxRecDepth 20000 in
set_option maxHeartbeats 4000000 in
theorem ES (A B:Nat→Int) (a b:Nat) (hA:Rep A a) (hB:Rep B b) (h:¬a*a%pF=b%pF) (w:World) :
 Calls Tryz.prog 180 #[.agg (af 16 A).toArray,.agg (af 16 B).toArray] w fun e w'=>∃ R,e = .returned (.agg (af 16 R).toArray)∧Rep R (a*iM)∧Below w.heap.size w w':=by
 have cT:=fun W=>j7 hA hA W
 have cS:=fun (R:Nat→Int) (hR:Rep R (a*a)) (W:World)=>ma hR hB false (decide_eq_false h) W
 have cM:=fun W=>vo W
 have cI:=fun (R:Nat→Int) (hR:Rep R iM) (W:World)=>j7 hA hR W
 have hz:=dC;obtain ⟨bxA,bxB⟩:=lM w A B 92
 obtain ⟨W,hW⟩:∃ W,W=((w.alloc (.cells (af 16 A).toArray 92)).alloc (.cells (af 16 B).toArray 92)).alloc (.cells zI 92):=⟨_,rfl⟩
 have hw:Below w.heap.size w W:=by rw [hW];exact (((Below.refl _ _).alloc (JW _) _).alloc (by simp) _).alloc (by simp;omega) _
 have bxR:za W (w.heap.size+1+1) (fun _=>0):=by
  have h:za W ((w.alloc (.cells (af 16 A).toArray 92)).alloc (.cells (af 16 B).toArray 92)).heap.size (fun _=>0):=by rw [hW];exact ⟨ap.fresh _ zI _ (fun j hj=>dS j hj),by simp⟩
  rw [World.size_alloc,World.size_alloc] at h;exact h
 have hstep:Below ((w.alloc (.cells (af 16 A).toArray 92)).alloc (.cells (af 16 B).toArray 92)).heap.size ((w.alloc (.cells (af 16 A).toArray 92)).alloc (.cells (af 16 B).toArray 92)) W:=by rw [hW];exact (Below.refl _ _).alloc (JW _) _
 replace bxA:=bxA.still hstep;replace bxB:=bxB.still hstep;have HW:=Hid.mk' hW;clear hW hstep;clear hA hB h;go_enter Tryz.func180,Tryz.ntmps180;go_wp2;rw [←HW.out];have hdrew:Below W.heap.size W W.drew:=(Below.refl _ _).drew;replace bxA:=bxA.still hdrew;replace bxB:=bxB.still hdrew;replace bxR:=bxR.still hdrew;replace hw:=aa hw hdrew;clear hdrew;refine wp_region_noPanic ?_;refine wp_region_held_drew (S:=fun w'=>Below W.drew.heap.size W.drew w') (by kernel_rfl) (Below.refl _ _) (fun hHeld => ?_);clear hHeld;refine wpAnyH_take (i:=0) (oi:=oN 5 (Op.load 92 (oT 2)) 92 "ref.go:191" #[]) (v := .agg (af 16 A).toArray) rfl (by kernel_rfl) (by kernel_rfl) (by kernel_rfl) (fun _ _ _ h=>h) (yieldsIf_load_mid (by rfl) 92 _ rfl w.heap.size 0 rfl (af 16 A) _ (fun _ h=>(bxA.still h).row.range) Tryz.underlying92 rfl (a8 A)) (Below.refl _ _) ?_;(try simp only [pS]);refine wpAnyH_take (i:=1) (oi:=oN 6 (Op.load 92 (oT 2)) 92 "ref.go:191" #[]) (v := .agg (af 16 A).toArray) rfl (by kernel_rfl) (by kernel_rfl) (by kernel_rfl) (fun _ _ _ h=>h) (yieldsIf_load_mid (by rfl) 92 _ rfl w.heap.size 0 rfl (af 16 A) _ (fun _ h=>(bxA.still h).row.range) Tryz.underlying92 rfl (a8 A)) (Below.refl _ _) ?_;(try simp only [pS]);refine wpAnyH_take (i:=3) (oi:=oN 8 (Op.load 92 (oT 3)) 92 "ref.go:191" #[]) (v := .agg (af 16 B).toArray) rfl (by kernel_rfl) (by kernel_rfl) (by kernel_rfl) (fun _ _ _ h=>h) (yieldsIf_load_mid (by rfl) 92 _ rfl (w.heap.size+1) 0 rfl (af 16 B) _ (fun _ h=>(bxB.still h).row.range) Tryz.underlying92 rfl (a8 B)) (Below.refl _ _) ?_;(try simp only [pS]);refine cn 2 (cT _) ?_;(clear cT;rintro e w1 ⟨R1,rfl,hR1,hb1⟩;replace cS:=cS R1 hR1);refine ⟨_,rfl,hb1,?_⟩;replace bxA:=bxA.still hb1;replace bxB:=bxB.still hb1;replace bxR:=bxR.still hb1;replace hw:=aa hw hb1;clear hb1;(try simp only [pS]);refine cn 4 (cS _) ?_;(clear cS;rintro e w2 ⟨rfl,hb2⟩);refine ⟨_,rfl,hb2,?_⟩;replace bxA:=bxA.still hb2;replace bxB:=bxB.still hb2;replace bxR:=bxR.still hb2;replace hw:=aa hw hb2;clear hb2;(try simp only [pS]);refine wpAnyH_done (by kernel_rfl) ?_ _;refine J8 ?_;have hg:=bxR.lt;clear bxB;go_wp2;have hdrew:Below w2.heap.size w2 w2.drew:=(Below.refl _ _).drew;replace bxA:=bxA.still hdrew;replace bxR:=bxR.still hdrew;replace hw:=aa hw hdrew;replace hg:=JX hg hdrew.size;clear hdrew;refine wp_region_noPanic ?_;refine wp_region_held_drew (S:=fun w'=>aT (w.heap.size+1+1) 0 16 w2.drew w') (by kernel_rfl) (aT.refl _ _ _ _) (fun hHeld => ?_);clear hHeld;refine wpAnyH_take (i:=0) (oi:=oN 11 (Op.load 92 (oT 2)) 92 "ref.go:194" #[]) (v := .agg (af 16 A).toArray) rfl (by kernel_rfl) (by kernel_rfl) (by kernel_rfl) (fun _ _ _ h=>h) (yieldsIf_load_mid (by rfl) 92 _ rfl w.heap.size 0 rfl (af 16 A) _ (fun _ h=>(bxA.out h (by omega)).row.range) Tryz.underlying92 rfl (a8 A)) (aT.refl _ _ _ _) ?_;(try simp only [pS]);refine wpAnyH_ready (rs:=[1]) (by kernel_rfl) (by simp) ?_;refine AllReadyH.cons (o:=oN 12 (dA 221 #[] #[]) 92 "ref.go:194" #[]) rfl (fun K hK => ?_) AllReadyH.nil;go_simp;(go_at_call 221;refine (cM _).mono ?_;clear cM;rintro e w3 ⟨R3,rfl,hR3,hb3⟩;replace cI:=cI R3 hR3);(try go_simp);refine hK.out _ _ (aT.of_below hb3 hg) (fun h => ?_);clear h hK K;refine eU (S':=fun w'=>aT (w.heap.size+1+1) 0 16 w3 w') (fun _ h=>(aT.of_below hb3 hg).trans h) _ _ _ _ ?_;replace bxA:=bxA.still hb3;replace bxR:=bxR.still hb3;replace hw:=aa hw hb3;replace hg:=JX hg hb3.size;clear hb3;(try simp only [pS]);refine wpAnyH_ready (rs:=[2]) (by kernel_rfl) (by simp) ?_;refine AllReadyH.cons (o:=oN 13 (dA 120 #[oT 11,oT 12] #[92,92]) 92 "ref.go:194" #[jD 0,jD 1,jC 1]) rfl (fun K hK => ?_) AllReadyH.nil;go_simp;(go_at_call 120;refine (cI _).mono ?_;clear cI;rintro e w4 ⟨R4,rfl,hR4,hb4⟩;(have hth:w4.there (w.heap.size+1+1) 0 (af 16 R4).toArray.size:=by rw [an];exact (bxR.still hb4).row.there));(try go_simp);refine hK.out _ _ (aT.of_below hb4 hg) (fun h => ?_);clear h hK K;refine eU (S':=fun w'=>aT (w.heap.size+1+1) 0 16 w4 w') (fun _ h=>(aT.of_below hb4 hg).trans h) _ _ _ _ ?_;replace bxA:=bxA.still hb4
 replace bxR:=bxR.still hb4;replace hw:=aa hw hb4;replace hg:=JX hg hb4.size;clear hb4;(try simp only [pS]);refine wpAnyH_ready (rs:=[3]) (by kernel_rfl) (by simp) ?_;refine AllReadyH.cons (o:=oS (Op.store 92 (oT 4) (oT 13)) "ref.go:194" #[jD 2,jC 2,jP 0,jP 1,jP 2]) rfl (fun K hK => ?_) AllReadyH.nil;rw [if_pos (by rfl)];refine wp_store_mid 92 _ _ rfl (w.heap.size+1+1) 0 (af 16 R4).toArray rfl rfl hth (bH R4) (eM R4) ?_;refine hK.out _ _ (aT.setCells _ _ (JW _) (by simp [bl])) (fun h => ?_);clear h hK K;refine wpAnyH_done (by kernel_rfl) ?_ _;refine J8 ?_;go_wp2;(try simp only [Exit.inBlock,Exit.then]);refine bodyPost_ret (ai Tryz.results180 _ _ (w.heap.size+1+1) 0 (af 16 R4) _ rfl (World.rangeAt_setCells_same _ _ _ _ (by rw [bl];exact bxR.row.there)) Tryz.underlying92 rfl (a8 R4)) rfl ⟨R4,rfl,hR4,?_⟩;exact ac (by omega) _ _ _ hw
end Go.Proofs.YtibdhadbflfdpaaGreatDoor
