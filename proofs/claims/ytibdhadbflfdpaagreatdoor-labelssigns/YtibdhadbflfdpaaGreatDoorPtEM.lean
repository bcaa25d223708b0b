/- What the proof stands on: PtE, Fit, SClamp, SMath, SgMath, PApi7, PSome, SgTimes, SgKey. -/
import Derived.Test.YtibdhadbflfdpaaGreatDoorBase
import Derived.Test.YtibdhadbflfdpaaGreatDoorD1RBM
import Derived.Test.YtibdhadbflfdpaaGreatDoorHRefSmallM
import Derived.Test.YtibdhadbflfdpaaGreatDoorLentM
import Derived.Test.YtibdhadbflfdpaaGreatDoorPtBM
import Derived.Test.YtibdhadbflfdpaaGreatDoorRBase6
import Derived.Test.YtibdhadbflfdpaaGreatDoorRRatioM
import Derived.Test.YtibdhadbflfdpaaGreatDoorRootQAM
namespace Go.Proofs.YtibdhadbflfdpaaGreatDoor
open Nat renaming le_refl → JW
open Nat renaming zero_add → J0
open Go renaming wpList_store_mid → J2
open Go renaming block_lt_of_cell → J5
open Go.RowKit
theorem oZ {p:N4} {P:Fp × Fp} (hp:p.Ok) (h:gE p P):dt (av p.X (de p.Z)) (av p.Y (de p.Z))=da P:=by
 have e:=Hu hp h;rw [e.1,e.2];rfl
theorem eS (P:Fp × Fp) (j:Nat):da P j<256:=by
 have h:=eu P.2.isLt;have h2:=dD P.2.val j;unfold da
 split <;> omega
theorem oY {a b:Nat} (ha:a<pF) (hb:b<pF) (h:∀ j,j<32→bf a j=bf b j):a=b:=by
 have e:=dP 32 h
 have hp:pF<256 ^ 32:=by decide
 rw [ed,ed,Nat.mod_eq_of_lt (Nat.lt_trans ha hp),Nat.mod_eq_of_lt (Nat.lt_trans hb hp)] at e;exact e
theorem ou {P Q:Fp × Fp} (hP:On dE P) (hQ:On dE Q) (h:∀ j,j<32→da P j=da Q j):P=Q:=by
 have h31:=h 31 (by decide);have hl:=eu P.2.isLt;have hm:=eu Q.2.isLt;unfold da at h31;rw [if_pos rfl,if_pos rfl] at h31
 have hy:P.2.val=Q.2.val:=oY P.2.isLt Q.2.isLt (fun j hj=>by
  by_cases hj31:j=31
  · rw [hj31];omega
  · have:=h j hj
    unfold da at this
    rwa [if_neg hj31,if_neg hj31] at this)
 exact DU gG hP hQ (Fin.ext hy) (by omega)
theorem Cx {P Q:Fp × Fp} (hP:On dE P) (hQ:On dE Q):bF 32 (da P)=bF 32 (da Q)↔P=Q :=
 ⟨fun h=>ou hP hQ ((fY (eS P) (eS Q)).1 h).2,fun h=>by rw [h]⟩
theorem It {n:Nat} [NeZero n] {x:Fin n}:(0 - x)*(0 - x)=x*x:=by grind
theorem uY {x:Nat} (h0:x≠0) (hx:x<pF) (h2:x%2=0):cj 0 x%2=1:=by
 have hp:pF%2=1:=by decide
 unfold cj;rw [J0,Nat.mod_eq_of_lt (a:=pF - x) (b:=pF) (by omega)];generalize pF=p at *;omega
theorem xe {bs:Nat→Nat} (hbs:∀ j,bs j<256) {p:N4} (h:bv bs=some p):p.Ok∧∃ P,gE p P∧On dE P∧∀ j,j<32→da P j=bs j:=by
 unfold bv at h;have hb31:=hbs 31
 have hbyt:∀ j,j<32→bf (aK (fR bs) 32) j=fR bs j:=fun j hj=>fD _ (jK hbs) 32 j hj
 generalize aK (fR bs) 32=y at *
 by_cases hy:y<pF
 · rw [if_pos hy] at h
   have hlt:=mw kP (dV y) (d8 y)
   cases hr:eE kP (dV y) (d8 y) with
   | none=>rw [hr] at h;cases h
   | some x =>
    rw [hr] at h hlt;replace hlt:x<pF:=hlt
    change (if bs 31 / 128=1∧x=0 then none else some (eO (if bs 31 / 128=1 then cj 0 x else x) y))=some p at h
    have hu:dV y<pF:=dn _ _;have hv:d8 y<pF:=eb _ _;rw [←mf yp hu hv] at hr;obtain ⟨hq,h2⟩:=yS hu hr
    have e:cF x*cF x*(cF dN*(cF y*cF y)+1)=cF y*cF y - 1:=by
     have e0:av (av x x) (d8 y)=dV y:=hq;have e1:=congrArg cF e0;unfold dV d8 at e1
     simpa only [gt,wG,nV _ 1 (by decide),xk] using e1
    by_cases hz:bs 31 / 128=1∧x=0
    · rw [if_pos hz] at h;cases h
    · rw [if_neg hz] at h
      obtain rfl:=Option.some.inj h
      obtain ⟨x',hx'⟩:∃ x',x'=if bs 31 / 128=1 then cj 0 x else x:=⟨_,rfl⟩
      rw [←hx']
      have hl':x'<pF:=by rw [hx'];split;exact dn _ _;exact hlt
      have hodd:x'%2=bs 31 / 128:=by
       rw [hx']
       by_cases ho:bs 31 / 128=1
       · rw [if_pos ho,ho]
         exact uY (fun h0=>hz ⟨ho,h0⟩) hlt h2
       · rw [if_neg ho];omega
      have e':cF x'*cF x'*(cF dN*(cF y*cF y)+1)=cF y*cF y - 1:=by
       rw [←e];congr 1;rw [hx']
       split
       · rw [nV _ _ hlt,sx,It]
       · rfl
      refine ⟨rF hl' hy,vf x' y,nZ x' y,yo e',fun j hj => ?_⟩;unfold da;rw [Ir y hl',Iv x' hy];have hj':=hbyt j hj;unfold fR at hj'
      by_cases h31:j=31
      · rw [if_pos h31] at hj' ⊢
        rw [h31] at hj' ⊢;rw [hj',hodd];omega
      · rw [if_neg h31] at hj' ⊢
        exact hj'
 · rw [if_neg hy] at h;cases h
def P4.Pt (r:P4) (P:Fp × Fp):Prop:=On dE P∧∃ p:N4,r.Rep p∧p.Ok∧gE p P
def iw:Fp × Fp:=vf xB yB
theorem C5 (w:World):Calls Tryz.prog 106 #[] w fun e w'=>∃ t:P4,e = .returned t.V∧t.Pt iw∧Below w.heap.size w w' :=
 (Ao w).mono fun _ _ ⟨t,he,ht,hb⟩=>⟨t,he,⟨sV,_,ht,rF Dr mI,nZ _ _⟩,hb⟩
theorem Cy {r s:P4} {P Q:Fp × Fp} (hr:r.Pt P) (hs:s.Pt Q) {D:Nat→Int} (hD:Rw D dN) (w:World) :
 Calls Tryz.prog 60 #[r.V,s.V,rV D] w fun e w'=>∃ t:P4,e = .returned t.V∧t.Pt (dc dE P Q)∧Below w.heap.size w w':=by
 obtain ⟨oP,p,hp,-,xp⟩:=hr;obtain ⟨oQ,q,hq,-,xq⟩:=hs
 exact (pg hp hq hD w).mono fun _ _ ⟨t,he,ht,hb⟩=>⟨t,he,⟨f7 gG oP oQ,_,ht,si _ _ _,kV oP oQ xp xq⟩,hb⟩
theorem qn {r:P4} {P:Fp × Fp} (hr:r.Pt P) (v:Value) (ks:Nat→Nat) (hks:∀ j,ks j<256) (w:World) (hv:ae w v 32 ks) :
 Calls Tryz.prog 59 #[r.V,v] w fun e w'=>∃ t:P4,e = .returned (.tuple #[t.V,.int .i64 0])∧t.Pt (cK dE (aK ks 32) P)∧Below w.heap.size w w':=by
 obtain ⟨oP,p,hp,kp,xp⟩:=hr
 refine (sP hp v ks hks w hv).mono fun _ _ ⟨t,he,ht,hb⟩=>⟨t,he,⟨ie gG oP _,_,ht,DW _ _ _ _,?_⟩,hb⟩
 rw [←Gp ks hks];exact uC oP xp ks 256
theorem yK {r:P4} {P:Fp × Fp} (hr:r.Pt P) (w:World) :
 Calls Tryz.prog 62 #[r.V] w fun e w'=>∃ s,e = .returned s∧gv w w' s 32 (da P)∧Below w.heap.size w w':=by
 obtain ⟨oP,p,hp,kp,xp⟩:=hr;rw [←oZ kp xp];exact Cz hp w
theorem yv (v:Value) (bs:Nat→Nat) (hbs:∀ j,bs j<256) (w:World) (hv:ae w v 32 bs) :
 Calls Tryz.prog 57 #[v] w fun e w'=>∃ (t:P4) (er:Int),e = .returned (.tuple #[t.V,.int .i64 er])∧Below w.heap.size w w' ∧
  ((er=30∧t.Pt dR∧bv bs=none)∨(er=0∧(bv bs).isSome=true∧∃ P,t.Pt P∧∀ j,j<32→da P j=bs j)) :=
 (qg v bs hbs w hv).mono fun _ _ ⟨t,er,he,hd,hb⟩=>⟨t,er,he,hb,by
  rcases hd with ⟨h1,h2,h3⟩ | ⟨h1,p,h2,h3⟩
  · exact .inl ⟨h1,⟨ot dE,_,h2,oE,mn⟩,h3⟩
  · obtain ⟨kp,P,xp,oP,hP⟩:=xe hbs h2
    exact .inr ⟨h1,by rw [h2];rfl,P,⟨oP,p,h3,kp,xp⟩,hP⟩⟩
theorem CG:(Tryz.prog.info? 5).map (·.size)=some 1:=by kernel_rfl
def GB (bs:Nat→Nat) (j:Nat):Nat:=if j=0 then bs 0 / 8*8 else if j=31 then bs 31%64+64 else bs j
theorem Ig {bs:Nat→Nat} (h:∀ j,bs j<256) (j:Nat):GB bs j<256:=by
 unfold GB;have:=h 0;have:=h 31;have:=h j
 split
 · omega
 · split
   · omega
   · exact h j
theorem BA:∀ b:Nat,b<256→bits .andNot .u8 (b:Int) 7=((b / 8*8:Nat):Int):=by decide +kernel
theorem wS:∀ b:Nat,b<256→bits .andNot .u8 (b:Int) 128=((b%128:Nat):Int):=by decide +kernel
theorem FZ:∀ b:Nat,b<128→bits .or .u8 (b:Int) 64=((b%64+64:Nat):Int):=by decide +kernel
set_option maxRecDepth 20000 in
set_option maxHeartbeats 2000000 in
theorem vR (v:Value) (bs:Nat→Nat) (hbs:∀ j,bs j<256) (w:World) (hv:ae w v 32 bs):Calls Tryz.prog 84 #[v] w fun e w'=>∃ s,e = .returned (.tuple #[s,.int .i64 0])∧jS w w' s 32 (GB bs)∧Below w.heap.size w w':=by
 have hmk:=cO w 32 32 rfl (by decide)
 obtain ⟨W,hW⟩:∃ W,W=w.alloc (.cells (zb 32) 5):=⟨_,rfl⟩
 have hrow:ah .u8 W w.heap.size 0 32 (fun _=>0):=by rw [hW];exact ah.fresh (fun j hj=>fO 32 j hj)
 have hb:Below w.heap.size w W:=by rw [hW];exact (Below.refl _ _).alloc (JW _) _
 obtain ⟨xo,c,rfl,hxn,hnc,hsrc⟩:=hv.src;have src:=hsrc W hb;have hth:=hrow.there;have hsp:=hrow.splice 0 32 bs (by decide);rw [←hW] at hmk;have hb2:Below w.heap.size w (W.setCells w.heap.size 0 (au .u8 32 bs)):=ac (JW _) _ _ _ hb;replace hsp:ah .u8 (W.setCells w.heap.size 0 (au .u8 32 bs)) w.heap.size 0 32 bs:=hsp.congr (fun j hj=>by unfold over;rw [if_pos ⟨Nat.zero_le _,by omega⟩,Nat.sub_zero])
 obtain ⟨V,hV⟩:∃ V,V=W.setCells w.heap.size 0 (au .u8 32 bs):=⟨_,rfl⟩
 rw [←hV] at hsp hb2;have HV:=Hid.mk' hV;clear hW hv hsrc hV hrow;have c0:=(hsp 0 (by decide)).1;have f0:=(hsp 0 (by decide)).2;have c1:=(hsp 31 (by decide)).1;have f1:=(hsp 31 (by decide)).2;rw [J0] at c0 f0 c1 f1;have e1:=BA (bs 0) (hbs 0);have e2:=wS (bs 31) (hbs 31);have e3:=FZ (bs 31%128) (by omega);have r1:=hsp.set (i:=0) (by decide) (v:=((bs 0 / 8*8:Nat):Int)) rfl;rw [J0] at r1;have r2:=r1.set (i:=31) (by decide) (v:=((bs 31%128:Nat):Int)) rfl;rw [J0] at r2;have r3:=r2.set (i:=31) (by decide) (v:=((bs 31%128%64+64:Nat):Int)) rfl;rw [J0] at r3;generalize ((bs 0 / 8*8:Nat):Int)=b0 at *;generalize hb1:((bs 31%128:Nat):Int)=b1 at *;generalize ((bs 31%128%64+64:Nat):Int)=b3 at *;clear hb1;go_enter Tryz.func84,Tryz.ntmps84
 go_wp2_with (first
  | rw [hmk]
  | (refine aM rfl _ _ 22 22 rfl 5 Tryz.underlying22 CG w.heap.size 0 32 32 xo 32 c rfl rfl 32 bs src rfl hth ?_;rw [←HV.out];clear src hth HV hmk))
 refine bodyPost_ret (results_tmp2 rfl _ _ _) rfl ⟨_,rfl,⟨w.heap.size,rfl,JW _,r3.congr (fun j hj => ?_)⟩,?_⟩
 · unfold bK GB
   by_cases h31:j=31
   · rw [if_pos h31,if_neg (by omega),if_pos h31];omega
   · simp only [if_neg h31]
 · exact ac (JW _) [_] 31 _ (ac (JW _) [_] 31 _ (ac (JW _) [_] 0 _ hb2))
theorem Ea:∀ b:Nat,b<256→bits .and .u8 (b:Int) 248=((b / 8*8:Nat):Int):=by decide +kernel
theorem D6:∀ b:Nat,b<256→bits .and .u8 (b:Int) 127=((b%128:Nat):Int):=by decide +kernel
set_option maxRecDepth 20000 in
set_option maxHeartbeats 2000000 in
theorem vE (v:Value) (bs:Nat→Nat) (hbs:∀ j,bs j<256) (w:World) (hv:ae w v 32 bs):Calls Tryz.prog 104 #[v] w fun e w'=>∃ s,e = .returned (.tuple #[s,.int .i64 0])∧gv w w' s 32 (GB bs)∧Below w.heap.size w w':=by
 obtain ⟨xo,cx,rfl,hxn,-,hsrc⟩:=hv.src;clear hv;have src0:=hsrc _ ((Below.refl _ _).alloc (JW _) (.cells #[] 5));clear hsrc;have e1:=Ea (bs 0) (hbs 0);have e2:=D6 (bs 31) (hbs 31);have e3:=FZ (bs 31%128) (by omega)
 obtain ⟨b0,hb0⟩:∃ b:Int,((bs 0 / 8*8:Nat):Int)=b:=⟨_,rfl⟩
 obtain ⟨b1,hb1'⟩:∃ b:Int,((bs 31%128:Nat):Int)=b:=⟨_,rfl⟩
 obtain ⟨b3,hb3⟩:∃ b:Int,((bs 31%128%64+64:Nat):Int)=b:=⟨_,rfl⟩
 rw [hb0] at e1;rw [hb1'] at e2 e3;rw [hb3] at e3;have H0:=Hid.mk' hb0;have H3:=Hid.mk' hb3;clear hb0 hb1' hb3;go_enter Tryz.func104,Tryz.ntmps104;go_wp2_with (at_builtin;refine bn rfl (.tmp 8) (.tmp 9) rfl w.heap.size bs _ rfl rfl xo 32 cx rfl src0 hxn (by omega) (JW _) ?_;intro v1 w1 own1 hb1;clear src0;(obtain ⟨g,cap,hv1,hg,hgl,hcap,hrow⟩:∃ g cap,v1 = .slice (some ⟨g,0,none⟩) 32 cap∧w.heap.size≤g∧g<w1.heap.size∧32≤cap∧ah .u8 w1 g 0 32 bs:=own1.form.resolve_left (fun h=>by omega));subst hv1;clear own1;(have c0:=(hrow 0 (by decide)).1);(have f0:=(hrow 0 (by decide)).2);(have c1:=(hrow 31 (by decide)).1);(have f1:=(hrow 31 (by decide)).2);rw [J0] at c0 f0 c1 f1);have r1:=hrow.set (i:=0) (by decide) (v:=b0) H0.out.symm;rw [J0] at r1;have r3:=r1.set (i:=31) (by decide) (v:=b3) H3.out.symm;rw [J0] at r3;refine bodyPost_ret (results_tmp2 rfl _ _ _) rfl ⟨_,rfl,⟨g,cap,rfl,hcap,hg,r3.congr (fun j hj => ?_)⟩,?_⟩
 · unfold bK GB
   by_cases h31:j=31
   · rw [if_pos h31,if_neg (by omega),if_pos h31];omega
   · simp only [if_neg h31]
 · exact ac hg [_] 31 _ (ac hg [_] 0 _ hb1)
def oL:Nat:=7237005577332262213973186563042994240857116359379907606001950938285454250989
def Lw (j:Nat):Nat:=if j=0 then 6346243789798364141 else if j=1 then 1503914060200516822 else if j=3 then 1152921504606846976 else 0
theorem FJ (j:Nat):Lw j<18446744073709551616:=by
 unfold Lw;split
 · decide
 · split
   · decide
   · split <;> decide
def pt (X:Nat→Nat) (a:Nat):Nat→Nat
 | 0=>0
 | k+1=>pt X a k+X (a+k)*18446744073709551616 ^ k
theorem vD (X:Nat→Nat) (m:Nat):pt X 0 (m+1)=pt X 0 m+X m*18446744073709551616 ^ m:=by rw [pt,J0]
theorem Jm (X:Nat→Nat) (a:Nat):pt X a 5=pt X a 4+X (a+4)*18446744073709551616 ^ 4:=rfl
theorem EI:pt Lw 0 4=oL:=by kernel_rfl
theorem gH {X Y:Nat→Nat} {a:Nat}:∀ k,(∀ j,j<k→X (a+j)=Y (a+j))→pt X a k=pt Y a k
 | 0,_=>rfl
 | k+1,h=>by rw [pt,pt,gH k (fun j hj=>h j (by omega)),h k (by omega)]
theorem oz {X:Nat→Nat} (h:∀ j,X j<18446744073709551616) (a:Nat):∀ k,pt X a k<18446744073709551616 ^ k
 | 0=>Nat.one_pos
 | k+1=>by
  have h1:=oz h a k;have h2:X (a+k)*18446744073709551616 ^ k≤18446744073709551615*18446744073709551616 ^ k:=Nat.mul_le_mul_right _ (by have:=h (a+k);omega);rw [pt,Nat.pow_succ];omega
theorem gM (X:Nat→Nat) (a m:Nat):∀ k,pt X a (m+k)=pt X a m+18446744073709551616 ^ m*pt X (a+m) k
 | 0=>by rw [pt,Nat.mul_zero,Nat.add_zero,Nat.add_zero]
 | k+1=>by
  rw [←Nat.add_assoc,pt,gM X a m k,pt,Nat.mul_add,Nat.pow_add,←Nat.add_assoc,←Nat.add_assoc];congr 1;rw [←Nat.mul_assoc,←Nat.mul_assoc,Nat.mul_comm (X (a+m+k))]
theorem EZ (X:Nat→Nat) (a k:Nat):pt X a (k+1)=X a+18446744073709551616*pt X (a+1) k:=by
 rw [Nat.add_comm k 1,gM X a 1 k,pt,pt];simp
theorem Ge (N:Nat):∀ k,pt (lw N) 0 k=N%18446744073709551616 ^ k
 | 0=>by rw [pt,Nat.pow_zero,Nat.mod_one]
 | k+1=>by
  rw [pt,Ge N k,Nat.pow_succ,Nat.mod_mul,J0];unfold lw;rw [Nat.mul_comm]
theorem Fw {X:Nat→Nat} (h:∀ j,X j<18446744073709551616):∀ k j,j<k→lw (pt X 0 k) j=X j
 | 0,_,hj=>absurd hj (Nat.not_lt_zero _)
 | k+1,j,hj=>by
  rw [pt,J0];unfold lw
  by_cases e:j=k
  · subst e
    rw [Nat.mul_comm,Nat.add_mul_div_left _ _ (Nat.pow_pos (by decide)),Nat.div_eq_of_lt (oz h 0 j),J0,Nat.mod_eq_of_lt (h j)]
  · have hj2:j<k:=by omega
    have e2:k=j+(1+(k - j - 1)):=by omega
    have:18446744073709551616 ^ k=18446744073709551616 ^ j*(18446744073709551616*18446744073709551616 ^ (k - j - 1)):=by
     conv=>lhs;rw [e2]
     rw [Nat.pow_add,Nat.pow_add,Nat.pow_one]
    rw [Nat.mul_comm (X k),this,Nat.mul_assoc,Nat.add_mul_div_left _ _ (Nat.pow_pos (by decide)),Nat.mul_assoc,Nat.add_mul_mod_self_left];exact Fw h k j hj2
theorem zN {P pz pl px q l0 h0 c b u s k1 b' x Lk:Nat} (inv:pz+q*pl=px+P*(c+b)) (e0:l0+18446744073709551616*h0=q*Lk) (e1:s+18446744073709551616*k1=l0+c) (e2:u+s+b=x+18446744073709551616*b') :
 (pz+u*P)+q*(pl+Lk*P)=(px+x*P)+P*18446744073709551616*((h0+k1)+b'):=by
 have key:(u+(l0+18446744073709551616*h0)+(c+b))*P=(x+18446744073709551616*((h0+k1)+b'))*P:=by congr 1;omega
 rw [Nat.mul_add q,←Nat.mul_assoc q Lk P,←e0];rw [Nat.add_mul,Nat.add_mul,Nat.add_mul x] at key;rw [Nat.mul_comm P (c+b)] at inv;rw [Nat.mul_assoc P,Nat.mul_comm P (18446744073709551616*(h0+k1+b'))];omega
theorem Cg {P V px x y pb Pi Pj h0 l0 l1 k1 l2 k2 c xm:Nat} (hP:P=Pi*Pj) (inv:px+c*P=V+x*pb*Pi) (e0:l0+18446744073709551616*h0=x*y) (e1:l1+18446744073709551616*k1=l0+xm) (e2:l2+18446744073709551616*k2=l1+c) {px':Nat} (hpx:px'+xm*P=px+l2*P) :
 px'+(h0+k1+k2)*(P*18446744073709551616)=V+x*(pb+y*Pj)*Pi:=by
 have key:(l2+18446744073709551616*(h0+k1+k2))*P=((l0+18446744073709551616*h0)+xm+c)*P:=by congr 1;omega
 rw [e0,Nat.add_mul,Nat.add_mul,Nat.add_mul] at key
 have e3:x*(pb+y*Pj)*Pi=x*pb*Pi+x*y*P:=by
  rw [Nat.mul_add,Nat.add_mul,hP,←Nat.mul_assoc x y Pj,Nat.mul_assoc (x*y),Nat.mul_comm Pj Pi]
 have e4:(h0+k1+k2)*(P*18446744073709551616)=18446744073709551616*(h0+k1+k2)*P:=by
  rw [Nat.mul_comm P,←Nat.mul_assoc,Nat.mul_comm (h0+k1+k2)]
 rw [e3,e4];omega
theorem vU (X:Nat→Nat) (i v a:Nat):∀ k,i<k→pt (bK X (a+i) v) a k+X (a+i)*18446744073709551616 ^ i=pt X a k+v*18446744073709551616 ^ i
 | 0,h=>absurd h (Nat.not_lt_zero _)
 | k+1,h=>by
  rw [pt,pt]
  by_cases e:i=k
  · subst e
    have h1:pt (bK X (a+i) v) a i=pt X a i:=gH i (fun j hj=>by unfold bK;rw [if_neg (by omega)])
    have h2:bK X (a+i) v (a+i)=v:=by unfold bK;rw [if_pos rfl]
    rw [h1,h2];omega
  · have h1:=vU X i v a k (by omega)
    have h2:bK X (a+i) v (a+k)=X (a+k):=by unfold bK;rw [if_neg (by omega)]
    rw [h2];omega
def h5 (n:Nat) (bs:Nat→Nat):Nat→Nat:=eD 64 (du aA aS aC n bs)
theorem rh (n:Nat) (bs:Nat→Nat) (j:Nat):h5 n bs j<256:=Nat.mod_lt _ (by decide)
theorem BG {n:Nat} {a b:Nat→Nat} (h:∀ j,j<n→a j=b j):h5 n a=h5 n b:=by unfold h5;rw [mV h]
def hL (n:Nat) (bs:Nat→Nat):Nat:=aK (h5 n bs) 64%oL
theorem oM {n:Nat} {a b:Nat→Nat} (h:∀ j,j<n→a j=b j):hL n a=hL n b:=by unfold hL;rw [BG h]
theorem He:0<oL:=by decide
theorem Gh (n:Nat) (bs:Nat→Nat):hL n bs<oL:=Nat.mod_lt _ He
theorem yI {N:Nat} (h:N<oL):aK (bf N) 32=N:=by
 have:=ed N 32;rw [this];exact Nat.mod_eq_of_lt (Nat.lt_trans h (by decide))
def aB (s:Nat→Nat):Nat→Nat:=GB (h5 32 s)
def aN (s:Nat→Nat):Nat:=aK (aB s) 32
def tc (s:Nat→Nat) (j:Nat):Nat:=h5 32 s (32+j)
noncomputable def bP (m:Nat):Fp × Fp:=cK dE m iw
noncomputable def pR (s:Nat→Nat):Nat→Nat:=da (bP (aN s))
def rN (s:Nat→Nat) (n:Nat) (t:Nat→Nat):Nat:=hL (32+n) (bu 32 (tc s) t)
noncomputable def RB (s:Nat→Nat) (n:Nat) (t:Nat→Nat):Nat→Nat:=da (bP (rN s n t))
def kN (R A:Nat→Nat) (n:Nat) (t:Nat→Nat):Nat:=hL (64+n) (bu 64 (bu 32 R A) t)
noncomputable def SN (s:Nat→Nat) (n:Nat) (t:Nat→Nat):Nat:=(rN s n t+kN (RB s n t) (pR s) n t*aN s)%oL
noncomputable def zu (s:Nat→Nat) (n:Nat) (t:Nat→Nat):Nat→Nat:=bu 32 (RB s n t) (bf (SN s n t))
def tG (s:Nat→Nat):Nat:=aK (fun j=>s (32+j)) 32
theorem ye (s:Nat→Nat) (j:Nat):aB s j<256:=Ig (rh _ _) j
theorem yj (s:Nat→Nat) (j:Nat):tc s j<256:=rh _ _ _
theorem Eg (s:Nat→Nat) (n:Nat) (t:Nat→Nat):∀ j,zu s n t j<256:=il (eS _) (dD _)
open Classical in
noncomputable def j8 (n:Nat) (p:Nat→Nat) (m:Nat) (t:Nat→Nat) (q:Nat) (s:Nat→Nat):Int :=
 if n=32∧q=64 then
  if bv p=none then 30
  else if bv s=none∨¬tG s<oL then 31
  else if ∃ P Q,On dE P∧On dE Q∧(∀ j,j<32→da P j=p j)∧(∀ j,j<32→da Q j=s j)∧bP (tG s)=dc dE Q (cK dE (kN s p m t) P) then 0 else 31
 else 1
theorem ue {n m q:Nat} {p t s:Nat→Nat} (h:¬(n=32∧q=64)):j8 n p m t q s=1:=by unfold j8;rw [if_neg h]
theorem vK {m:Nat} {p t s:Nat→Nat} (h:bv p=none):j8 32 p m t 64 s=30:=by unfold j8;rw [if_pos ⟨rfl,rfl⟩,if_pos h]
theorem kZ {m:Nat} {p t s:Nat→Nat} (h:bv p≠none) (h2:bv s=none∨¬tG s<oL):j8 32 p m t 64 s=31:=by unfold j8;rw [if_pos ⟨rfl,rfl⟩,if_neg h,if_pos h2]
open Classical in
theorem uT {m:Nat} {p t s:Nat→Nat} (h:bv p≠none) (h2:bv s≠none) (h3:tG s<oL) {P Q:Fp × Fp} (hP:On dE P) (hQ:On dE Q) (eP:∀ j,j<32→da P j=p j) (eQ:∀ j,j<32→da Q j=s j) :
 j8 32 p m t 64 s=if bP (tG s)=dc dE Q (cK dE (kN s p m t) P) then 0 else 31:=by
 unfold j8;rw [if_pos ⟨rfl,rfl⟩,if_neg h,if_neg (fun e=>e.elim h2 (fun e=>e h3))]
 by_cases e:bP (tG s)=dc dE Q (cK dE (kN s p m t) P)
 · rw [if_pos e,if_pos ⟨P,Q,hP,hQ,eP,eQ,e⟩]
 · rw [if_neg e,if_neg]
   rintro ⟨P',Q',hP',hQ',eP',eQ',e'⟩;rw [ou hP' hP (fun j hj=>(eP' j hj).trans (eP j hj).symm),ou hQ' hQ (fun j hj=>(eQ' j hj).trans (eQ j hj).symm)] at e';exact e e'
theorem Em {P Q:Fp × Fp} (hP:On dE P) (hQ:On dE Q):((bF 32 (da P)).toList == (bF 32 (da Q)).toList)=decide (P=Q):=by
 by_cases h:P=Q
 · subst h;rw [decide_eq_true rfl];exact beq_self_eq_true _
 · rw [decide_eq_false h,ByteArray.toList_eq,ByteArray.toList_eq]
   exact beq_false_of_ne (fun e=>h ((Cx hP hQ).1 (WideShapes.bytes_inj e)))
theorem ub (w:World) (A B:List Value) (t:TypeId):RW ((w.alloc (.cells A.toArray t)).alloc (.cells B.toArray t)) w.heap.size 0 A∧RW ((w.alloc (.cells A.toArray t)).alloc (.cells B.toArray t)) (w.heap.size+1) 0 B:=by
 have h1:RW (w.alloc (.cells A.toArray t)) w.heap.size 0 A:=RW.fresh w _ _;have h2:RW ((w.alloc (.cells A.toArray t)).alloc (.cells B.toArray t)) (w.alloc (.cells A.toArray t)).heap.size 0 B:=RW.fresh _ _ _;rw [World.size_alloc] at h2;exact ⟨h1.still ((Below.refl _ _).alloc (JW _) _),h2⟩
def zP:Array Value:=((List.range 16).map fun _=>Value.int .u64 0).toArray
theorem eF (w:World):Sem.run Tryz.prog (zeroValue 77) w = .ok (.agg zP) w:=by kernel_rfl
theorem rK:(Tryz.prog.info? 77).map (·.size)=some 16:=by kernel_rfl
structure eB (G:World→Prop) (R:List Value→Fp × Fp→Prop):Prop where
 keep:∀ w w',G w→Below w.heap.size w w'→G w'
 len:∀ c P,R c P→c.length=16
 one:∀ c P,R c P→c.toArray.all (·.oneCell')=true
 on:∀ c P,R c P→On dE P
 base:∀ w,G w→Calls Tryz.prog 44 #[] w fun e w'=>∃ c,e = .returned (.agg c.toArray)∧R c iw∧Below w.heap.size w w'
 zero:∀ w,G w→Calls Tryz.prog 208 #[] w fun e w'=>∃ c,e = .returned (.agg c.toArray)∧R c dR∧Below w.heap.size w w'
 enc:∀ c P w,R c P→G w→Calls Tryz.prog 45 #[.agg c.toArray] w fun e w'=>∃ s,e = .returned s∧gv w w' s 32 (da P)∧Below w.heap.size w w'
 plus:∀ c P d Q w,R c P→R d Q→G w→Calls Tryz.prog 56 #[.agg c.toArray,.agg d.toArray] w fun e w'=>∃ c',e = .returned (.agg c'.toArray)∧R c' (dc dE P Q)∧Below w.heap.size w w'
 same:∀ c P d Q w,R c P→R d Q→G w→Calls Tryz.prog 55 #[.agg c.toArray,.agg d.toArray] w fun e w'=>e = .returned (.bool (decide (P=Q)))∧Below w.heap.size w w'
 times:∀ c P v ks w,R c P→(∀ j,ks j<256)→ae w v 32 ks→G w→Calls Tryz.prog 91 #[.agg c.toArray,v] w fun e w'=>∃ c',e = .returned (.tuple #[.agg c'.toArray,.int .i64 0])∧R c' (cK dE (aK ks 32) P)∧Below w.heap.size w w'
 timesBad:∀ c P v n ks w,R c P→n≠32→ae w v n ks→G w→Calls Tryz.prog 91 #[.agg c.toArray,v] w fun e w'=>∃ c',e = .returned (.tuple #[.agg c'.toArray,.int .i64 1])∧R c' dR∧Below w.heap.size w w'
 dec:∀ v bs w,(∀ j,bs j<256)→ae w v 32 bs→G w→Calls Tryz.prog 53 #[v] w fun e w'=>∃ (c:List Value) (er:Int),e = .returned (.tuple #[.agg c.toArray,.int .i64 er])∧Below w.heap.size w w' ∧
  ((er=30∧R c dR∧bv bs=none)∨(er=0∧(bv bs).isSome=true∧∃ P,R c P∧∀ j,j<32→da P j=bs j))
 decBad:∀ v n bs w,n≠32→ae w v n bs→G w→Calls Tryz.prog 53 #[v] w fun e w'=>∃ c,e = .returned (.tuple #[.agg c.toArray,.int .i64 1])∧R c dR∧Below w.heap.size w w'
theorem wB (w:World):RW (w.alloc (.cells zP 77)) w.heap.size 0 ((List.range 16).map fun _=>Value.int .u64 0):=RW.fresh w _ _
theorem fX {c:List Value} (h:c.length=16):(Tryz.prog.info? 77).map (·.size)=some c.length:=by rw [h];exact rK
theorem ip {c:List Value} (h:c.length=16):(Tryz.prog.info? 77).map (·.size)=some c.toArray.size:=by rw [List.size_toArray,h];exact rK
theorem io {w:World} {g:Nat} {c d:List Value} (r:RW w g 0 c) (hc:c.length=16) (hd:d.length=16):w.there g 0 d.toArray.size:=by
 have h:=r.there;rw [hc] at h;rw [List.size_toArray,hd];exact h
theorem ug (w:World) (c:List Value) (hl:c.length=16):∃ V,V=(w.alloc (.cells zP 77)).setCells w.heap.size 0 c∧RW V w.heap.size 0 c∧Below w.heap.size w V∧(w.alloc (.cells zP 77)).there w.heap.size 0 c.toArray.size :=
 ⟨_,rfl,(wB w).stored _ (by rw [hl];rfl),ac (JW _) _ _ _ ((Below.refl _ _).alloc (JW _) _),io (wB w) rfl hl⟩
theorem eB.more {G G':World→Prop} {R:List Value→Fp × Fp→Prop} (api:eB G R) (h:∀ w,G' w→G w) (hk:∀ w w',G' w→Below w.heap.size w w'→G' w'):eB G' R where
 keep:=hk
 len:=api.len
 one:=api.one
 on:=api.on
 base:=fun w hG=>api.base w (h w hG)
 zero:=fun w hG=>api.zero w (h w hG)
 enc:=fun c P w hc hG=>api.enc c P w hc (h w hG)
 plus:=fun c P d Q w hc hd hG=>api.plus c P d Q w hc hd (h w hG)
 same:=fun c P d Q w hc hd hG=>api.same c P d Q w hc hd (h w hG)
 times:=fun c P v ks w hc hks hv hG=>api.times c P v ks w hc hks hv (h w hG)
 timesBad:=fun c P v n ks w hc hn hv hG=>api.timesBad c P v n ks w hc hn hv (h w hG)
 dec:=fun v bs w hbs hv hG=>api.dec v bs w hbs hv (h w hG)
 decBad:=fun v n bs w hn hv hG=>api.decBad v n bs w hn hv (h w hG)
set_option maxRecDepth 20000 in
set_option maxHeartbeats 4000000 in
theorem j9 {G:World→Prop} {R:List Value→Fp × Fp→Prop} (api:eB G R) (c:List Value) (P:Fp × Fp) (hc:R c P) (v:Value) (ks:Nat→Nat) (hks:∀ j,ks j<256) (w:World) (hv:ae w v 32 ks) (hG:G w) :
 Calls Tryz.prog 43 #[.agg c.toArray,v] w fun e w'=>∃ c',e = .returned (.agg c'.toArray)∧R c' (cK dE (aK ks 32) P)∧Below w.heap.size w w':=by
 have hz:=eF;have kl:=api.len;have ko:=api.one;have lc:=kl _ _ hc
 have ct:=fun W hv hG=>api.times c P v ks W hc hks hv hG
 generalize cK dE (aK ks 32) P=pr at *
 obtain ⟨V1,g1,e1,hg1,b1,h1⟩:∃ V g,w.alloc (.cells c.toArray 77)=V∧w.heap.size=g∧Below w.heap.size w V∧RW V g 0 c:=⟨_,_,rfl,rfl,(Below.refl _ _).alloc (JW _) _,RW.fresh w _ _⟩
 obtain ⟨W,g2,e2,hg2,b2,h2⟩:∃ V g,V1.alloc (.cells zP 77)=V∧V1.heap.size=g∧Below V1.heap.size V1 V∧RW V g 0 ((List.range 16).map fun _=>Value.int .u64 0):=⟨_,_,rfl,rfl,(Below.refl _ _).alloc (JW _) _,wB V1⟩
 have t1:V1.heap.size=w.heap.size+1:=by rw [←e1];simp
 have HW:Hid (W=(w.alloc (.cells c.toArray 77)).alloc (.cells zP 77)):=Hid.mk' (by rw [←e2,←e1]);have q1:Hid (w.heap.size=g1):=Hid.mk' hg1;have q2:Hid (w.heap.size+1=g2):=Hid.mk' (by omega)
 have w2:w.heap.size≤g2:=by omega
 replace h1:=h1.still b2;have b:Below w.heap.size w W:=b1.trans (b2.mono (by omega));have ct1:=ct W (hv.still b) (api.keep _ _ hG b);clear e1 e2 hg1 hg2 b1 b2 t1 V1 ct hv hG api;go_enter Tryz.func43,Tryz.ntmps43
 go_wp2_with (first
  | (rw [←HW.out,q2.out,q1.out];refine wpList_load_mid rfl 77 _ rfl g1 0 rfl c _ h1.range Tryz.underlying77 rfl (fX lc) ?_;clear HW q1 q2)
  | (go_at_call 91;refine ct1.mono ?_;clear ct1;rintro e w3 ⟨c3,rfl,hc3,hb3⟩;(replace h2:=h2.still hb3);(replace b:=aa b hb3);clear hb3;(have l3:=kl _ _ hc3);(have o3:=ko _ _ hc3);(obtain ⟨V3,hV3,h3,b3,t3⟩:=ug w3 c3 l3);(have H3:=Hid.mk' hV3);clear hV3;(replace h2:=h2.still b3);(replace b:=aa b b3);clear b3;(have t0:V3.there g2 0 c3.toArray.size:=io h2 rfl l3))
  | (with_reducible (refine id (?_:wpList _ _ _ _ _ _));refine J2 rfl 77 _ _ rfl w3.heap.size 0 c3.toArray rfl rfl t3 (ip l3) o3 ?_;rw [List.toList_toArray,←H3.out];clear t3 H3)
  | (refine wpList_load_mid rfl 77 _ rfl w3.heap.size 0 rfl c3 _ h3.range Tryz.underlying77 rfl (fX l3) ?_)
  | (with_reducible (refine id (?_:wpList _ _ _ _ _ _));refine J2 rfl 77 _ _ rfl g2 0 c3.toArray rfl rfl t0 (ip l3) o3 ?_))
 (try simp only [Exit.inBlock,Exit.then]);exact bodyPost_ret (ai Tryz.results43 _ _ g2 0 c3 _ rfl (h2.stored c3 (by rw [l3];rfl)).range Tryz.underlying77 rfl (fX l3)) rfl ⟨c3,rfl,hc3,ac w2 _ _ _ b⟩
def I0 (G:World→Prop):Prop:=∀ v n bs w,(∀ j,bs j<256)→n<2305843009213693952→ae w v n bs→G w→Calls Tryz.prog 83 #[v] w fun e w'=>∃ g,e = .returned (.slice (some ⟨g,0,none⟩) 64 64)∧w.heap.size≤g∧ah .u8 w' g 0 64 (h5 n bs)∧Below w.heap.size w w'
def zK:Array Value:=#[.slice none 0 0,.slice none 0 0,.slice none 0 0]
theorem yM (w:World):Sem.run Tryz.prog (zeroValue 66) w = .ok (.agg zK) w:=by kernel_rfl
theorem BL:(Tryz.prog.info? 66).map (·.size)=some 3:=by kernel_rfl
def kL (a b c:Value):List Value:=[a,b,c]
theorem Bt (a b c:Value):(Tryz.prog.info? 66).map (·.size)=some (kL a b c).length:=BL
theorem sG (a b c:Value):(Tryz.prog.info? 66).map (·.size)=some (kL a b c).toArray.size:=BL
theorem yV (x y z:Option Addr) (a b c d e f:Nat):(kL (.slice x a b) (.slice y c d) (.slice z e f)).toArray.all (·.oneCell')=true:=by simp [kL,Value.oneCell']
theorem GI {w:World} {g:Nat} {a b c:Value} (h:RW w g 0 (kL a b c)) (v:Value):RW (w.setCell ⟨g,2,none⟩ v) g 0 (kL a b v) :=
 RW.join (cs:=[a,b]) (ds:=[v]) ((RW.left (cs:=[a,b]) (ds:=[c]) h).far g 2 [v] (.inr (.inl (by simp)))) ((RW.right (cs:=[a,b]) (ds:=[c]) h).stored [v] rfl)
theorem GS:(Tryz.prog.info? 66).map (·.size)=some zK.size:=BL
theorem IA:zK.all (·.oneCell')=true:=by simp [zK,Value.oneCell']
theorem Eh (a b:Value):Tryz.prog.built 66 [(0,.agg #[a,b])]=some (kL a b (.slice none 0 0)).toArray:=by kernel_rfl
theorem GD (w:World) (c:List Value) (hl:c.length=3):∃ V,V=(w.alloc (.cells zK 66)).setCells w.heap.size 0 c∧RW V w.heap.size 0 c∧Below w.heap.size w V∧(w.alloc (.cells zK 66)).there w.heap.size 0 c.toArray.size:=by
 have h:RW (w.alloc (.cells zK 66)) w.heap.size 0 (kL (.slice none 0 0) (.slice none 0 0) (.slice none 0 0)):=RW.fresh w _ _;refine ⟨_,rfl,h.stored _ (by rw [hl];rfl),ac (JW _) _ _ _ ((Below.refl _ _).alloc (JW _) _),?_⟩;have t:=h.there;have e:c.toArray.size=3:=hl;rw [e];exact t
theorem Br (w:World):∃ V g,w.alloc (.cells zK 66)=V∧w.heap.size=g∧Below w.heap.size w V∧RW V g 0 (kL (.slice none 0 0) (.slice none 0 0) (.slice none 0 0)):=⟨_,_,rfl,rfl,(Below.refl _ _).alloc (JW _) _,RW.fresh w _ _⟩
theorem mT (tmps:Array Value) (w:World) (g:Nat) (a b c:Value) (hp:tmps.getD 2 undef = .pointer (some ⟨g,0,none⟩)) (h:RW w g 0 (kL a b c)) (e:Value) (he:tmps.getD 3 undef=e) :
 (results Tryz.f39 tmps).run Tryz.prog w = .ok (.tuple #[.agg (kL a b c).toArray,e]) w:=by
 have hp':tmps[2]?.getD undef = .pointer (some ⟨g,0,none⟩):=by simpa using hp
 have he':tmps[3]?.getD undef=e:=by simpa using he
 simp [results,hp',he',asAddr,run_loadVar_mid w g 0 66 (kL a b c) _ h.range Tryz.underlying66 rfl (Bt a b c)]
set_option maxRecDepth 20000 in
set_option maxHeartbeats 4000000 in
theorem Ab (v:Value) (n:Nat) (bs:Nat→Nat) (w:World) (hv:ae w v n bs) (hn:n≠32) :
 Calls Tryz.prog 39 #[v] w fun e w'=>e = .returned (.tuple #[.agg (kL (.slice none 0 0) (.slice none 0 0) (.slice none 0 0)).toArray,.int .i64 1])∧Below w.heap.size w w':=by
 obtain ⟨xo,c,rfl,hxn,hnc,hsrc⟩:=hv.src
 have h1:¬((n:Int)=32):=by omega
 have hz:=yM;obtain ⟨W,g,eW,hg,b,h0⟩:=Br w;have HW:Hid (w.alloc (.cells zK 66)=W):=Hid.mk' eW;have Hg:Hid (w.heap.size=g):=Hid.mk' hg;have wg:w.heap.size≤g:=Nat.le_of_eq hg;have t0:W.there g 0 zK.size:=h0.there;clear hv hsrc eW hg;go_enter Tryz.func39,Tryz.ntmps39;go_wp2_with (with_reducible (refine id (?_:wpList _ _ _ _ _ _));rw [HW.out,Hg.out];refine J2 rfl 66 _ _ rfl g 0 zK rfl rfl t0 GS IA ?_;clear HW Hg);(try simp only [Exit.inBlock,Exit.then]);exact bodyPost_ret (mT _ _ g _ _ _ rfl (h0.stored (kL (.slice none 0 0) (.slice none 0 0) (.slice none 0 0)) rfl) _ rfl) rfl ⟨rfl,ac wg _ _ _ b⟩
set_option maxRecDepth 20000 in
set_option maxHeartbeats 8000000 in
theorem wC {G:World→Prop} {R:List Value→Fp × Fp→Prop} (api:eB G R) (sha:I0 G) (v:Value) (bs:Nat→Nat) (hbs:∀ j,bs j<256) (w:World) (hv:ae w v 32 bs) (hG:G w) :
 Calls Tryz.prog 39 #[v] w fun e w'=>∃ gn gh gp cp,e = .returned (.tuple #[.agg (kL (.slice (some ⟨gn,0,none⟩) 32 32) (.slice (some ⟨gh,32,none⟩) 32 32) (.slice (some ⟨gp,0,none⟩) 32 cp)).toArray,.int .i64 0])∧ah .u8 w' gn 0 32 (aB bs)∧ah .u8 w' gh 32 32 (tc bs)∧ah .u8 w' gp 0 32 (pR bs)∧32≤cp∧Below w.heap.size w w':=by
 have hz:=yM;have kk:=api.keep;obtain ⟨W,g,eW,hg,b,h0⟩:=Br w;have HW:Hid (w.alloc (.cells zK 66)=W):=Hid.mk' eW;have Hg:Hid (w.heap.size=g):=Hid.mk' hg;have wg:w.heap.size≤g:=Nat.le_of_eq hg;have cs:=sha v 32 bs W hbs (by decide) (hv.still b) (kk _ _ hG b);obtain ⟨xo,c,rfl,hxn,hnc,hsrc⟩:=hv.src
 have cc:∀ gh W,ah .u8 W gh 0 64 (h5 32 bs)→Calls Tryz.prog 84 #[.slice (some ⟨gh,0,none⟩) 32 64] W fun e w'=>∃ s,e = .returned (.tuple #[s,.int .i64 0])∧jS W w' s 32 (aB bs)∧Below W.heap.size W w':=fun gh W hr=>vR _ (h5 32 bs) (rh _ _) W (.inr ⟨gh,0,64,rfl,J5 (hr 0 (by decide)).1,by decide,fun j hj=>(hr j (by omega)).1⟩)
 clear eW hg hsrc hv;go_enter Tryz.func39,Tryz.ntmps39
 go_upto_region 8 with (first
  | (go_at_call 83;rw [HW.out,Hg.out];refine cs.mono ?_;clear cs HW Hg;rintro e w1 ⟨gh,rfl,hgh,hrh,hb1⟩;(have lgh:g<gh:=Nat.lt_of_lt_of_le h0.lt hgh);(replace h0:=h0.still hb1);(replace b:=aa b hb1);clear hb1;(have cc1:=cc gh w1 hrh);clear cc)
  | (go_at_call 84;refine cc1.mono ?_;clear cc1;rintro e w2 ⟨s2,rfl,hn2,hb2⟩;(have lg1:=h0.lt);(replace h0:=h0.still hb2);(replace b:=aa b hb2);(replace hrh:=hrh.below hb2 (J5 (hrh 0 (by decide)).1));clear hb2;(obtain ⟨gn,rfl,hgn,hrn⟩:=hn2);(have lgn:g<gn:=Nat.lt_of_lt_of_le lg1 hgn);clear lg1 hgn hgh)
  | (refine jy rfl 66 0 (.tmp 27) rfl _ rfl _ (Eh _ _) ?_;(obtain ⟨V3,hV3,h3,b3,t3⟩:=GD w2 (kL (.slice (some ⟨gn,0,none⟩) 32 32) (.slice (some ⟨gh,32,none⟩) 32 32) (.slice none 0 0)) rfl);(have H3:=Hid.mk' hV3);clear hV3)
  | (with_reducible (refine id (?_:wpList _ _ _ _ _ _));refine J2 rfl 66 _ _ rfl w2.heap.size 0 (kL (.slice (some ⟨gn,0,none⟩) 32 32) (.slice (some ⟨gh,32,none⟩) 32 32) (.slice none 0 0)).toArray rfl rfl t3 (sG _ _ _) (yV _ _ _ _ _ _ _ _ _) ?_;rw [List.toList_toArray,←H3.out];clear t3 H3))
 (try dsimp only [Act.put]);have hG3:=kk _ _ hG (aa b b3);have ln:gn<w2.heap.size:=J5 (hrn 0 (by decide)).1;have lh:gh<w2.heap.size:=J5 (hrh 0 (by decide)).1;generalize hg7:w2.heap.size=g7 at *;have l7:=h3.lt
 have n7n:gn≠g7:=by omega
 have n7h:gh≠g7:=by omega
 replace hrn:=hrn.below b3 (by omega);replace hrh:=hrh.below b3 (by omega)
 have w7:w.heap.size≤g7:=by have:=b.size;omega
 have n07:g≠g7:=by have:=h0.lt;omega
 replace h0:=h0.below b3 (by have:=h0.lt;omega);replace b:=b.trans (b3.mono w7);clear b3 hg7;have hdrew:Below V3.heap.size V3 V3.drew:=(Below.refl _ _).drew;replace h3:=h3.still hdrew;replace h0:=h0.still hdrew;replace hG3:=kk _ _ hG3 hdrew;replace hrn:=hrn.drew;replace hrh:=hrh.drew;replace b:=aa b hdrew;replace l7:=h3.lt;clear hdrew;refine wp_region_noPanic ?_;refine wp_region_held_drew (S:=fun w'=>aT g7 2 1 V3.drew w') (by kernel_rfl) (aT.refl _ _ _ _) (fun hS => ?_);generalize V3.drew=V at *;refine tk 1 (pA g7 0) hS (hy:=yR) (h := ?_);(try simp only [pS]);refine tk 2 (pA g7 0) hS (hy:=yR) (h := ?_);(try simp only [pS]);refine tk 3 (.slice (some ⟨gn,0,none⟩) 32 32) hS (hy:=(Or.inl ⟨by rfl,?hld⟩)) (h := ?_)
 case hld =>
  intro u hu;have q:u.cell? ⟨g7,0,none⟩=some (.slice (some ⟨gn,0,none⟩) 32 32):=(hu.cell 0 (.inl (by decide))).trans (h3.range 0 _ rfl);go_simp
  try with_reducible rfl
 (try simp only [pS]);refine cl 0 (api.base V hG3) ?_;rintro e w4 ⟨c4,rfl,hc4,hb4⟩;replace hS:=hS.trans (aT.of_below hb4 l7);replace h3:=h3.still hb4;replace h0:=h0.still hb4;replace hG3:=kk _ _ hG3 hb4;replace hrn:=hrn.below hb4 (J5 (hrn 0 (by decide)).1);replace hrh:=hrh.below hb4 (J5 (hrh 0 (by decide)).1);replace b:=aa b hb4;replace l7:=h3.lt;clear hb4;refine ⟨_,rfl,hS,?_⟩;(try simp only [pS]);refine cl 4 (j9 api c4 _ hc4 (.slice (some ⟨gn,0,none⟩) 32 32) (aB bs) (ye bs) w4 (.inr ⟨gn,0,32,rfl,J5 (hrn 0 (by decide)).1,by decide,fun j hj=>(hrn j hj).1⟩) hG3) ?_;rintro e w5 ⟨c5,rfl,hc5,hb5⟩;replace hS:=hS.trans (aT.of_below hb5 l7);replace h3:=h3.still hb5;replace h0:=h0.still hb5;replace hG3:=kk _ _ hG3 hb5;replace hrn:=hrn.below hb5 (J5 (hrn 0 (by decide)).1);replace hrh:=hrh.below hb5 (J5 (hrh 0 (by decide)).1);replace b:=aa b hb5;replace l7:=h3.lt;clear hb5 hc4;refine ⟨_,rfl,hS,?_⟩;(try simp only [pS]);refine cl 5 (api.enc c5 _ w5 hc5 hG3) ?_;rintro e w6 ⟨s6,rfl,hn6,hb6⟩;replace hS:=hS.trans (aT.of_below hb6 l7);replace h3:=h3.still hb6;have lgp0:=h0.lt;replace h0:=h0.still hb6;replace hrn:=hrn.below hb6 (J5 (hrn 0 (by decide)).1);replace hrh:=hrh.below hb6 (J5 (hrh 0 (by decide)).1);replace b:=aa b hb6;obtain ⟨gp,cp,rfl,hcp,hgp,hrp⟩:=hn6
 have n7p:gp≠g7:=by omega
 have lgp:g<gp:=by omega
 clear hb6 hc5 hG3;refine ⟨_,rfl,hS,?_⟩;(try simp only [pS]);refine tk 6 (pA g7 2) hS (hy:=yR) (h := ?_);(try simp only [pS]);refine wpAnyH_ready (rs:=[7]) (by kernel_rfl) (by simp) ?_;refine AllReadyH.cons (o:=oS (Op.store 22 (oT 35) (oT 34)) "key.go:33" #[jD 6,jD 5,jC 5,jP 0,jP 1,jP 2,jP 3,jP 4,jP 5]) rfl (fun K hK => ?_) AllReadyH.nil;have q2:w6.cell? ⟨g7,2,none⟩=some (.slice none 0 0):=h3.range 2 _ rfl;have f2:w6.frozen? ⟨g7,2,none⟩=false:=(h3.there 2 (show 2<3 by decide)).2;go_simp;refine hK.out _ _ (hS.trans (aT.setCell w6 _ (JW _) (by decide))) (fun h => ?_);clear h hK K q2 f2;refine wpAnyH_done (by kernel_rfl) ?_ _;refine NoPanic.normal ?_;have h7:=GI h3 (.slice (some ⟨gp,0,none⟩) 32 cp);replace h0:=h0.far g7 2 [.slice (some ⟨gp,0,none⟩) 32 cp] (.inl n07);replace hrn:=hrn.far (a:=⟨g7,2,none⟩) (Ne.symm n7n) (.slice (some ⟨gp,0,none⟩) 32 cp);replace hrh:=hrh.far (a:=⟨g7,2,none⟩) (Ne.symm n7h) (.slice (some ⟨gp,0,none⟩) 32 cp);replace hrp:=hrp.far (a:=⟨g7,2,none⟩) (Ne.symm n7p) (.slice (some ⟨gp,0,none⟩) 32 cp);replace b:=ac w7 [.slice (some ⟨gp,0,none⟩) 32 cp] 2 _ b;simp only [World.setCells] at h0 b;generalize w6.setCell ⟨g7,2,none⟩ (.slice (some ⟨gp,0,none⟩) 32 cp)=W7 at *;have t0:W7.there g 0 (kL (.slice (some ⟨gn,0,none⟩) 32 32) (.slice (some ⟨gh,32,none⟩) 32 32) (.slice (some ⟨gp,0,none⟩) 32 cp)).toArray.size:=h0.there
 go_wp2_with (first
  | (refine wpList_load_mid rfl 66 _ rfl g7 0 rfl (kL (.slice (some ⟨gn,0,none⟩) 32 32) (.slice (some ⟨gh,32,none⟩) 32 32) (.slice (some ⟨gp,0,none⟩) 32 cp)) _ h7.range Tryz.underlying66 rfl (Bt _ _ _) ?_)
  | (with_reducible (refine id (?_:wpList _ _ _ _ _ _));refine J2 rfl 66 _ _ rfl g 0 (kL (.slice (some ⟨gn,0,none⟩) 32 32) (.slice (some ⟨gh,32,none⟩) 32 32) (.slice (some ⟨gp,0,none⟩) 32 cp)).toArray rfl rfl t0 (sG _ _ _) (yV _ _ _ _ _ _ _ _ _) ?_))
 (try simp only [Exit.inBlock,Exit.then]);have O:=aT.setCells (b:=g) (o:=0) (n:=3) W7 (p:=0) (kL (.slice (some ⟨gn,0,none⟩) 32 32) (.slice (some ⟨gh,32,none⟩) 32 32) (.slice (some ⟨gp,0,none⟩) 32 cp)) (JW _) (JW _);refine bodyPost_ret (mT _ _ g _ _ _ rfl (h0.stored (kL (.slice (some ⟨gn,0,none⟩) 32 32) (.slice (some ⟨gh,32,none⟩) 32 32) (.slice (some ⟨gp,0,none⟩) 32 cp)) rfl) _ rfl) rfl ⟨gn,gh,gp,cp,rfl,O.row hrn (by omega),fun j hj => ?_,O.row hrp (by omega),hcp,ac wg _ _ _ b⟩;have q:=O.row hrh (by omega) (32+j) (by omega);rw [J0] at q;exact q
end Go.Proofs.YtibdhadbflfdpaaGreatDoor
