/- What the proof stands on: PWhole, PEq, POps. -/
import Derived.Test.YtibdhadbflfdpaaGreatDoorPAdd
import Derived.Test.YtibdhadbflfdpaaGreatDoorPtBM
import Derived.Test.YtibdhadbflfdpaaGreatDoorPtEM
namespace Go.Proofs.YtibdhadbflfdpaaGreatDoor
open Nat renaming le_refl → JW
open Nat renaming lt_of_lt_of_le → JX
open Nat renaming zero_add → J0
open Go renaming wpList_store_mid → J2
open Go renaming wpList_load_mid → J3
open Go.RowKit
structure W6 (p:N4) (P:Fp × Fp):Prop where
 ok:p.Ok
 on:On dE P
 ext:gE p P
def R6 (c:List Value) (P:Fp × Fp):Prop:=∃ p:N4,c=aw p.X p.Y p.Z p.T∧p.Ok∧On dE P∧((p.X=0∧p.Y=0∧p.Z=0∧p.T=0∧P=dR)∨gE p P)
theorem W6.r6 {p:N4} {P:Fp × Fp} (h:W6 p P):R6 (aw p.X p.Y p.Z p.T) P:=⟨p,rfl,h.ok,h.on,.inr h.ext⟩
theorem R6.len {c:List Value} {P:Fp × Fp} (h:R6 c P):c.length=16:=by obtain ⟨p,rfl,-⟩:=h;rfl
theorem R6.one {c:List Value} {P:Fp × Fp} (h:R6 c P):c.toArray.all (·.oneCell')=true:=by obtain ⟨p,rfl,-⟩:=h;exact bJ _ _ _ _
theorem R6.on {c:List Value} {P:Fp × Fp} (h:R6 c P):On dE P:=by obtain ⟨p,-,-,h,-⟩:=h;exact h
theorem gX:R6 (aw 0 0 0 0) dR:=⟨⟨0,0,0,0⟩,rfl,⟨by decide,by decide,by decide,by decide⟩,ot dE,.inl ⟨rfl,rfl,rfl,rfl,rfl⟩⟩
theorem jl (a b:Nat):av a b=av b a:=by unfold av;rw [Nat.mul_comm]
theorem td {p q:N4} {P Q:Fp × Fp} (hp:W6 p P) (hq:W6 q Q) (w:World) :
 Calls Tryz.prog 115 #[pV p.X p.Y p.Z p.T,pV q.X q.Y q.Z q.T] w fun e w'=>∃ r:N4,e = .returned (pV r.X r.Y r.Z r.T)∧W6 r (dc dE P Q)∧Below w.heap.size w w':=by
 have hr:W6 (kU dN p q) (dc dE P Q):=⟨si _ _ _,f7 gG hp.on hq.on,kV hp.on hq.on hp.ext hq.ext⟩
 refine (EK p.X p.Y p.Z p.T q.X q.Y q.Z q.T dN _ _ _ _ _ _ _ _ _ _ _ _ _ _ _ _ _
  (fun W=>aI _ _ hp.ok.X hq.ok.X W) (fun W=>aI _ _ hp.ok.Y hq.ok.Y W) (fun W=>aI _ _ hp.ok.Z hq.ok.Z W) (fun W=>aI _ _ hp.ok.T hq.ok.T W) (fun W=>nO W) (fun W=>aI _ _ (aJ _ _) Ce W)
  (fun W=>eY _ _ hp.ok.X hp.ok.Y W) (fun W=>eY _ _ hq.ok.X hq.ok.Y W) (fun W=>aI _ _ (eb _ _) (eb _ _) W) (fun W=>dJ _ _ (aJ _ _) (aJ _ _) W) (fun W=>dJ _ _ (dn _ _) (aJ _ _) W)
  (fun W=>eY _ _ (aJ _ _) (aJ _ _) W) (fun W=>eY _ _ (aJ _ _) (aJ _ _) W) (fun W=>dJ _ _ (aJ _ _) (aJ _ _) W)
  (fun W=>uu _ _ _ _ (dn _ _) (eb _ _) (eb _ _) (dn _ _) W) w).mono ?_
 rintro e w' ⟨rfl,hb⟩;refine ⟨kU dN p q,?_,hr,hb⟩;show Ending.returned (pV (av (uG p q) (cj (av p.Z q.Z) (av (av p.T q.T) dN))) (av (fj (av p.Y q.Y) (av p.X q.X)) (fj (av p.Z q.Z) (av (av p.T q.T) dN))) (av (fj (av p.Z q.Z) (av (av p.T q.T) dN)) (cj (av p.Z q.Z) (av (av p.T q.T) dN))) (av (uG p q) (fj (av p.Y q.Y) (av p.X q.X))))=_;rw [jl (fj (av p.Y q.Y) (av p.X q.X)) (fj (av p.Z q.Z) (av (av p.T q.T) dN)),jl (fj (av p.Z q.Z) (av (av p.T q.T) dN)) (cj (av p.Z q.Z) (av (av p.T q.T) dN))];rfl
section
variable {n:Nat} [NeZero n]
theorem Jk {a b c:Fin n} (h:b=a*(1+c)):a+a - b=a*(1-c):=by rw [h];clear h;grind
theorem Jq {i x y r:Fin n} (h:i*(x*y+y*x)=r):i*(x*y+x*y)=r:=by rw [←h];clear h;grind
end
theorem Ec {D:Fp} (hD:NS D) {P:Fp × Fp} (hP:On D P) {X Y Z T:Fp} (h:xh X Y Z T P) :
 xh ((X*Y+X*Y)*(Z*Z+Z*Z - (Y*Y - X*X))) ((Y*Y - X*X)*(Y*Y+X*X)) ((Z*Z+Z*Z - (Y*Y - X*X))*(Y*Y - X*X)) ((X*Y+X*Y)*(Y*Y+X*X)) (dc D P P):=by
 have k:=h.k
 have hh:Y*Y - X*X=Z*Z*(1+D*P.1*P.1*P.2*P.2):=by
  rw [GW iT k.1 h.y];congr 1;exact Jo hP
 refine Ct hD hP hP (qC h.z h.z) ?_ ?_ hh ?_
 · exact Jq (JL h.x h.y h.x h.y)
 · exact Jk hh
 · exact JJ iT k.1 h.y k.1 h.y
def D0 (p:N4):N4 :=
 ⟨av (fj (av p.X p.Y) (av p.X p.Y)) (cj (fj (av p.Z p.Z) (av p.Z p.Z)) (cj (av p.Y p.Y) (av p.X p.X))),
  av (fj (av p.Y p.Y) (av p.X p.X)) (cj (av p.Y p.Y) (av p.X p.X)),
  av (cj (av p.Y p.Y) (av p.X p.X)) (cj (fj (av p.Z p.Z) (av p.Z p.Z)) (cj (av p.Y p.Y) (av p.X p.X))),
  av (fj (av p.X p.Y) (av p.X p.Y)) (fj (av p.Y p.Y) (av p.X p.X))⟩
theorem Bi {p:N4} {P:Fp × Fp} (hP:On dE P) (h:gE p P):gE (D0 p) (dc dE P P):=by
 have e:=Ec gG hP h;unfold gE D0;rw [jl (fj (av p.Y p.Y) (av p.X p.X)),jl (cj (av p.Y p.Y) (av p.X p.X)) (cj (fj (av p.Z p.Z) (av p.Z p.Z)) (cj (av p.Y p.Y) (av p.X p.X)))];simp only [gt,wG,nV _ _ (aJ _ _),nV _ _ (dn _ _)];exact e
theorem Ad {p:N4} {P:Fp × Fp} (hp:W6 p P) (w:World) :
 Calls Tryz.prog 156 #[pV p.X p.Y p.Z p.T] w fun e w'=>∃ r:N4,e = .returned (pV r.X r.Y r.Z r.T)∧W6 r (dc dE P P)∧Below w.heap.size w w':=by
 have hr:W6 (D0 p) (dc dE P P):=⟨⟨aJ _ _,aJ _ _,aJ _ _,aJ _ _⟩,f7 gG hp.on hp.on,Bi hp.on hp.ext⟩
 refine (zt p.X p.Y p.Z p.T _ _ _ _ _ _ _ _ _ _ _ _ _
  (fun W=>aI _ _ hp.ok.X hp.ok.X W) (fun W=>aI _ _ hp.ok.Y hp.ok.Y W) (fun W=>aI _ _ hp.ok.Z hp.ok.Z W) (fun W=>aI _ _ hp.ok.X hp.ok.Y W)
  (fun W=>dJ _ _ (aJ _ _) (aJ _ _) W) (fun W=>eY _ _ (aJ _ _) (aJ _ _) W) (fun W=>eY _ _ (aJ _ _) (aJ _ _) W) (fun W=>eY _ _ (aJ _ _) (aJ _ _) W) (fun W=>dJ _ _ (eb _ _) (dn _ _) W)
  (fun W=>uu _ _ _ _ (eb _ _) (dn _ _) (eb _ _) (dn _ _) W) w).mono ?_
 rintro e w' ⟨rfl,hb⟩;exact ⟨D0 p,rfl,hr,hb⟩
theorem Fd:av 0 1=0:=by decide
theorem Jy {p:N4} {P:Fp × Fp} (h:gE p P):(decide (p.X=0) && decide (p.Y=0) && decide (p.Z=0) && decide (p.T=0))=false:=by
 have hz:p.Z≠0:=fun e=>h.z (by rw [e];exact sx)
 rw [decide_eq_false hz,Bool.and_false,Bool.false_and]
set_option maxRecDepth 20000 in
set_option maxHeartbeats 4000000 in
theorem eK {c:List Value} {P:Fp × Fp} (h:R6 c P) (w:World) :
 Calls Tryz.prog 95 #[.agg c.toArray] w fun e w'=>∃ r:N4,e = .returned (.agg (aw r.X r.Y r.Z r.T).toArray)∧W6 r P∧Below w.heap.size w w':=by
 obtain ⟨p,rfl,hok,hon,hd⟩:=h;have hzp:=eF
 obtain ⟨V1,g1,eg1,hg1,bg1,hp⟩:∃ V g,w.alloc (.cells (aw p.X p.Y p.Z p.T).toArray 77)=V∧w.heap.size=g∧Below w.heap.size w V∧RW V g 0 (aw p.X p.Y p.Z p.T):=⟨_,_,rfl,rfl,(Below.refl _ _).alloc (JW _) _,RW.fresh w _ _⟩
 obtain ⟨W,g2,eg2,hg2,bg2,hres⟩:=dM V1
 have t1:V1.heap.size=w.heap.size+1:=by rw [←eg1];simp
 have HW:Hid (W=(w.alloc (.cells (aw p.X p.Y p.Z p.T).toArray 77)).alloc (.cells zP 77)):=Hid.mk' (by rw [←eg2,←eg1]);have q1:Hid (w.heap.size=g1):=Hid.mk' hg1;have q2:Hid (w.heap.size+1=g2):=Hid.mk' (by omega);replace hp:=hp.still bg2;have hbW:Below w.heap.size w W:=bg1.trans (bg2.mono (by omega))
 have w2:w.heap.size≤g2:=by omega
 clear eg1 eg2 hg1 hg2 bg1 bg2 t1 V1
 rcases hd with ⟨e0,e1,e2,e3,eP⟩ | hx
 · have hz:(decide (p.X=0) && decide (p.Y=0) && decide (p.Z=0) && decide (p.T=0))=true:=by rw [e0,e1,e2,e3];rfl
   have c1:∀ W,Calls Tryz.prog 157 #[.int .i64 1] W fun e w'=>e = .returned (.agg (c4 1).toArray)∧Below W.heap.size W w':=jJ 1 (by decide)
   have ca:∀ W,Calls Tryz.prog 92 #[.agg (c4 0).toArray,.agg (c4 1).toArray] W fun e w'=>e = .returned (.agg (aw 0 1 1 0).toArray)∧Below W.heap.size W w':=fun W=>by
    have k:=rQ 0 1 (by decide) (by decide) W;rw [Fd] at k;exact k
   subst eP;have Hz:=Hid.mk' hz;clear e0 e1 e2 e3 hz;go_enter Tryz.func95,Tryz.ntmps95
   go_wp2_with (first
    | (rw [←HW.out,q2.out,q1.out];refine J3 rfl 77 _ rfl g1 0 rfl (aw p.X p.Y p.Z p.T) _ hp.range Tryz.underlying77 rfl (bi _ _ _ _) ?_;clear HW q1 q2)
    | (refine be rfl 77 rfl _ gc ?_)
    | (refine oe rfl _ _ _ rfl p hok rfl rfl true Hz.out ?_;clear Hz)
    | (refine be rfl 75 rfl _ jZ ?_)
    | (go_at_call 157;refine (c1 _).mono ?_;clear c1;rintro e w1 ⟨rfl,hb1⟩;(replace hres:=hres.still hb1);(replace hbW:=aa hbW hb1);clear hb1)
    | (go_at_call 92;refine (ca _).mono ?_;clear ca;rintro e w2' ⟨rfl,hb2⟩;(replace hres:=hres.still hb2);(replace hbW:=aa hbW hb2);clear hb2;(have t6:w2'.there g2 0 (aw 0 1 1 0).toArray.size:=ej hres _ _ _ _))
    | (with_reducible (refine id (?_:wpList _ _ _ _ _ _));refine J2 rfl 77 _ _ rfl g2 0 (aw 0 1 1 0).toArray rfl rfl t6 (a7 _ _ _ _) (bJ _ _ _ _) ?_))
   (try simp only [Exit.inBlock,Exit.then]);exact bodyPost_ret (ai Tryz.results95 _ _ g2 0 (aw 0 1 1 0) _ rfl (hres.stored (aw 0 1 1 0) (et _ _ _ _ _ _ _ _)).range Tryz.underlying77 rfl (bi _ _ _ _)) rfl ⟨gJ,rfl,⟨oE,hon,mn⟩,ac w2 _ _ _ hbW⟩
 · have hz:=Jy hx
   have Hz:=Hid.mk' hz;clear hz;have t6:W.there g2 0 (aw p.X p.Y p.Z p.T).toArray.size:=ej hres _ _ _ _;go_enter Tryz.func95,Tryz.ntmps95
   go_wp2_with (first
    | (rw [←HW.out,q2.out,q1.out];refine J3 rfl 77 _ rfl g1 0 rfl (aw p.X p.Y p.Z p.T) _ hp.range Tryz.underlying77 rfl (bi _ _ _ _) ?_;clear HW q1 q2)
    | (refine J3 rfl 77 _ rfl g1 0 rfl (aw p.X p.Y p.Z p.T) _ hp.range Tryz.underlying77 rfl (bi _ _ _ _) ?_)
    | (refine be rfl 77 rfl _ gc ?_)
    | (refine oe rfl _ _ _ rfl p hok rfl rfl false Hz.out ?_;clear Hz)
    | (with_reducible (refine id (?_:wpList _ _ _ _ _ _));refine J2 rfl 77 _ _ rfl g2 0 (aw p.X p.Y p.Z p.T).toArray rfl rfl t6 (a7 _ _ _ _) (bJ _ _ _ _) ?_))
   (try simp only [Exit.inBlock,Exit.then]);exact bodyPost_ret (ai Tryz.results95 _ _ g2 0 (aw p.X p.Y p.Z p.T) _ rfl (hres.stored (aw p.X p.Y p.Z p.T) (et _ _ _ _ _ _ _ _)).range Tryz.underlying77 rfl (bi _ _ _ _)) rfl ⟨p,rfl,⟨hok,hon,hx⟩,ac w2 _ _ _ hbW⟩
set_option maxRecDepth 20000 in
set_option maxHeartbeats 4000000 in
theorem iP {w:World} {v u:Value} {S T:ByteArray} (hv:iL w v S) (hu:iL w u T) :
 Calls Tryz.prog 113 #[v,u] w fun e w'=>e = .returned (.bool (S.toList == T.toList))∧Below w.heap.size w w':=by
 have q1:=hv.conv w (Below.refl _ _);have q2:=hu.conv w (Below.refl _ _);obtain ⟨x1,n1,k1,rfl⟩:=hv.form;obtain ⟨x2,n2,k2,rfl⟩:=hu.form;clear hv hu;go_enter Tryz.func113,Tryz.ntmps113;go_wp2;go_ret;exact ⟨rfl,Below.refl _ _⟩
theorem Er {a b:Nat} (ha:a<pF) (hb:b<pF):((bF 32 (bf a)).toList == (bF 32 (bf b)).toList)=decide (a=b):=by
 by_cases h:a=b
 · subst h;rw [decide_eq_true rfl];exact beq_self_eq_true _
 · rw [decide_eq_false h,ByteArray.toList_eq,ByteArray.toList_eq]
   exact beq_false_of_ne (fun e=>h (oY ha hb ((fY (bS a) (bS b)).1 (WideShapes.bytes_inj e)).2))
theorem rl (n:Nat) (w:World):Calls Tryz.prog 160 #[ag n] w fun e w'=>∃ v,e = .returned v∧iL w' v (bF 32 (bf n))∧Below w.heap.size w w' :=
 (gI n w).mono fun _ _ ⟨g,he,hg,hr,hb⟩=>⟨_,he,iL.of (jS.bytes ⟨g,rfl,hg,hr⟩ (by decide)) (bS n),hb⟩
set_option maxRecDepth 20000 in
set_option maxHeartbeats 4000000 in
theorem oH (a b:Nat) (ha:a<pF) (hb:b<pF) (w:World) :
 Calls Tryz.prog 114 #[ag a,ag b] w fun e w'=>e = .returned (.bool (decide (a=b)))∧Below w.heap.size w w':=by
 have hse:=Er ha hb;have cB1:=rl a;have cB2:=rl b;generalize bF 32 (bf a)=Sa at *;generalize bF 32 (bf b)=Sb at *;rw [←hse];have Hs:=Hid.mk' hse;clear hse ha hb;obtain ⟨hA,hB⟩:=ub w (c4 a) (c4 b) 75
 obtain ⟨W,hW⟩:∃ W,W=(w.alloc (.cells (c4 a).toArray 75)).alloc (.cells (c4 b).toArray 75):=⟨_,rfl⟩
 have hw:Below w.heap.size w W:=by rw [hW];exact ((Below.refl _ _).alloc (JW _) _).alloc (by simp) _
 rw [←hW] at hA hB;have HW:=Hid.mk' hW
 obtain ⟨g2,hg2⟩:∃ g,w.heap.size=g:=⟨_,rfl⟩
 obtain ⟨g3,hg3⟩:∃ g,w.heap.size+1=g:=⟨_,rfl⟩
 rw [hg2] at hA;rw [hg3] at hB;have H2:=Hid.mk' hg2;have H3:=Hid.mk' hg3;clear hW hg2 hg3;rw [show ag a = .agg (c4 a).toArray from rfl,show ag b = .agg (c4 b).toArray from rfl];go_enter Tryz.func114,Tryz.ntmps114;go_wp2;rw [←HW.out,H3.out,H2.out];clear HW H2 H3 Hs;have hdrew:Below W.heap.size W W.drew:=(Below.refl _ _).drew;replace hA:=hA.still hdrew;replace hB:=hB.still hdrew;replace hw:=aa hw hdrew;clear hdrew;refine wp_region_noPanic ?_;refine wp_region_held_drew (S:=fun w'=>Below W.drew.heap.size W.drew w') (by kernel_rfl) (Below.refl _ _) (fun hHeld => ?_);clear hHeld;refine tk 0 (ag a) bR (hy:=(d9 hA 75 2 Tryz.underlying75 aE)) (h := ?_);(try simp only [pS]);refine tk 2 (ag b) bR (hy:=(d9 hB 75 3 Tryz.underlying75 aE)) (h := ?_);(try simp only [pS]);refine cn 1 (cB1 _) ?_;(clear cB1;rintro e w1 ⟨v1,rfl,t1,hb1⟩;(obtain ⟨x1,n1,k1,rfl⟩:=t1.form));refine ⟨_,rfl,hb1,?_⟩;clear hA;replace hB:=hB.still hb1;replace hw:=aa hw hb1;clear hb1;(try simp only [pS]);refine cn 3 (cB2 _) ?_;(clear cB2;rintro e w2 ⟨v2,rfl,t2,hb2⟩;(obtain ⟨x2,n2,k2,rfl⟩:=t2.form));refine ⟨_,rfl,hb2,?_⟩;clear hB;replace t1:=t1.still hb2;replace hw:=aa hw hb2;clear hb2;(try simp only [pS]);refine cn 4 (iP t1 t2) ?_
 (rintro e w3 ⟨rfl,hb3⟩)
 refine ⟨_,rfl,hb3,?_⟩;clear t1;clear t2;replace hw:=aa hw hb3;clear hb3;(try simp only [pS]);refine tg 5 bR ?_;(try simp only [pS]);refine wpAnyH_done (by kernel_rfl) ?_ _;refine NoPanic.normal ?_;go_wp2;go_ret;exact ⟨rfl,hw⟩
theorem DB {x:Nat} (h:x%2=1):bits .and .u8 (bf x 0:Int) 1=1:=by
 rw [sQ (bf x 0) (dD x 0),iW x,h];rfl
theorem AL {x:Nat} (h:x%2=0):bits .and .u8 (bf x 0:Int) 1=0:=by
 rw [sQ (bf x 0) (dD x 0),iW x,h];rfl
theorem E0 {y:Nat} (hy:y<pF):bits .or .u8 (bf y 31:Int) 128=((bf y 31+128:Nat):Int):=by
 have:=ys (bf y 31) (eu hy) 1 (by decide);exact this
set_option maxRecDepth 20000 in
set_option maxHeartbeats 4000000 in
theorem mB (x y:Nat) (hy:y<pF) (w:World) :
 Calls Tryz.prog 97 #[ag x,ag y] w fun e w'=>∃ s,e = .returned s∧gv w w' s 32 (dt x y)∧Below w.heap.size w w':=by
 have e3:=E0 hy
 have cy:∀ W,Calls Tryz.prog 160 #[.agg (c4 y).toArray] W fun e w'=>∃ g,e = .returned (.slice (some ⟨g,0,none⟩) 32 32)∧W.heap.size≤g∧ah .u8 w' g 0 32 (bf y)∧Below W.heap.size W w':=gI y
 have cx:∀ W,Calls Tryz.prog 160 #[.agg (c4 x).toArray] W fun e w'=>∃ g,e = .returned (.slice (some ⟨g,0,none⟩) 32 32)∧W.heap.size≤g∧ah .u8 w' g 0 32 (bf x)∧Below W.heap.size W w':=gI x
 obtain ⟨hA,hB⟩:=ub w (c4 x) (c4 y) 75
 obtain ⟨W,hW⟩:∃ W,W=(w.alloc (.cells (c4 x).toArray 75)).alloc (.cells (c4 y).toArray 75):=⟨_,rfl⟩
 have hw:Below w.heap.size w W:=by rw [hW];exact ((Below.refl _ _).alloc (JW _) _).alloc (by simp) _
 rw [←hW] at hA hB;have HW:=Hid.mk' hW
 obtain ⟨g2,hg2⟩:∃ g,w.heap.size=g:=⟨_,rfl⟩
 obtain ⟨g3,hg3⟩:∃ g,w.heap.size+1=g:=⟨_,rfl⟩
 rw [hg2] at hA;rw [hg3] at hB;have H2:=Hid.mk' hg2;have H3:=Hid.mk' hg3;clear hW hg2 hg3;rw [show ag x = .agg (c4 x).toArray from rfl,show ag y = .agg (c4 y).toArray from rfl];go_enter Tryz.func97,Tryz.ntmps97
 rcases Nat.mod_two_eq_zero_or_one x with hp | hp
 · have e1:=AL hp
   go_wp2_with (first
    | (rw [←HW.out,H3.out,H2.out];refine J3 rfl 75 _ rfl g3 0 rfl (c4 y) _ hB.range Tryz.underlying75 rfl aE ?_;clear HW H2 H3)
    | (go_at_call 160;refine (cy _).mono ?_;clear cy hB;rintro e w1 ⟨gy,rfl,hgy,ry,hb1⟩;(have sb:=hw.size);(replace hA:=hA.still hb1);(replace hw:=aa hw hb1);clear hb1;(have lgy:=block_lt_of_cell (ry 0 (by decide)).1);(have wgy:w.heap.size≤gy:=Nat.le_trans sb hgy);clear sb)
    | (refine J3 rfl 75 _ rfl g2 0 rfl (c4 x) _ hA.range Tryz.underlying75 rfl aE ?_)
    | (go_at_call 160;refine (cx _).mono ?_;clear cx hA;rintro e w2 ⟨gx,rfl,hgx,rx,hb2⟩;(replace ry:=ry.below hb2 lgy);(replace hw:=aa hw hb2);clear hb2;(have c0:=(rx 0 (by decide)).1);rw [J0] at c0))
   go_ret;refine ⟨_,rfl,⟨gy,32,rfl,JW _,wgy,ry.congr fun j hj => ?_⟩,hw⟩;unfold dt;rw [hp]
   split
   · next h=>rw [h,Nat.mul_zero,Nat.add_zero]
   · rfl
 · have e1:=DB hp
   go_wp2_with (first
    | (rw [←HW.out,H3.out,H2.out];refine J3 rfl 75 _ rfl g3 0 rfl (c4 y) _ hB.range Tryz.underlying75 rfl aE ?_;clear HW H2 H3)
    | (go_at_call 160;refine (cy _).mono ?_;clear cy hB;rintro e w1 ⟨gy,rfl,hgy,ry,hb1⟩;(have sb:=hw.size);(replace hA:=hA.still hb1);(replace hw:=aa hw hb1);clear hb1;(have lgy:=block_lt_of_cell (ry 0 (by decide)).1);(have wgy:w.heap.size≤gy:=Nat.le_trans sb hgy);clear sb)
    | (refine J3 rfl 75 _ rfl g2 0 rfl (c4 x) _ hA.range Tryz.underlying75 rfl aE ?_)
    | (go_at_call 160;refine (cx _).mono ?_;clear cx hA;rintro e w2 ⟨gx,rfl,hgx,rx,hb2⟩;(replace ry:=ry.below hb2 lgy);(replace hw:=aa hw hb2);clear hb2;(have c0:=(rx 0 (by decide)).1);rw [J0] at c0;(have c31:=(ry 31 (by decide)).1);rw [J0] at c31;(have f31:=(ry 31 (by decide)).2);rw [J0] at f31))
   have r31:=ry.set (i:=31) (by decide) (v:=(bf y 31:Int)+128) (u:=bf y 31+128) (Int.natCast_add _ _).symm;rw [J0] at r31;go_ret;refine ⟨_,rfl,⟨gy,32,rfl,JW _,wgy,r31.congr fun j hj => ?_⟩,?_⟩
   · unfold bK dt
     rw [hp]
   · exact ac wgy [_] 31 _ hw
abbrev Ff:Oper:=oS (Op.store 77 (oT 4) (oT 9)) "point.go:57" #[jD 4,jC 4,jP 0,jP 1,jP 2,jP 3,jP 4]
set_option maxRecDepth 20000 in
set_option maxHeartbeats 4000000 in
theorem uo (w:World):Calls Tryz.prog 208 #[] w fun e w'=>e = .returned (.agg (aw 0 0 0 0).toArray)∧Below w.heap.size w w':=by
 have hzp:=eF;obtain ⟨W,g,eW,hg,b,h0⟩:=dM w;have HW:Hid (w.alloc (.cells zP 77)=W):=Hid.mk' eW;have Hg:Hid (w.heap.size=g):=Hid.mk' hg;have wg:w.heap.size≤g:=Nat.le_of_eq hg;have t0:W.there g 0 (aw 0 0 0 0).toArray.size:=h0.there;clear eW hg;go_enter Tryz.func208,Tryz.ntmps208
 go_wp2_with (first
  | (refine be rfl 77 rfl _ gc ?_)
  | (with_reducible (refine id (?_:wpList _ _ _ _ _ _));rw [HW.out,Hg.out];refine J2 rfl 77 _ _ rfl g 0 (aw 0 0 0 0).toArray rfl rfl t0 (a7 _ _ _ _) (bJ _ _ _ _) ?_;clear HW Hg))
 (try simp only [Exit.inBlock,Exit.then]);exact bodyPost_ret (ai Tryz.results208 _ _ g 0 (aw 0 0 0 0) _ rfl (h0.stored (aw 0 0 0 0) rfl).range Tryz.underlying77 rfl (bi _ _ _ _)) rfl ⟨rfl,ac wg _ _ _ b⟩
theorem DZ:W6 (eO xB yB) iw:=⟨rF Dr mI,sV,nZ _ _⟩
set_option maxRecDepth 20000 in
set_option maxHeartbeats 4000000 in
theorem DD (w:World):Calls Tryz.prog 44 #[] w fun e w'=>∃ c,e = .returned (.agg c.toArray)∧R6 c iw∧Below w.heap.size w w':=by
 have hzp:=eF;have hr:R6 (aw xB yB 1 (av xB yB)) iw:=DZ.r6
 have cx:∀ W,Calls Tryz.prog 93 #[] W fun e w'=>e = .returned (.agg (c4 xB).toArray)∧Below W.heap.size W w':=AO
 have cy:∀ W,Calls Tryz.prog 94 #[] W fun e w'=>e = .returned (.agg (c4 yB).toArray)∧Below W.heap.size W w':=zX
 have ca:∀ W,Calls Tryz.prog 92 #[.agg (c4 xB).toArray,.agg (c4 yB).toArray] W fun e w'=>e = .returned (.agg (aw xB yB 1 (av xB yB)).toArray)∧Below W.heap.size W w':=fun W=>rQ xB yB Dr mI W
 generalize av xB yB=tb at *;generalize xB=xb at *;generalize yB=yb at *;generalize iw=pb at *;obtain ⟨W,g,eW,hg,b,h0⟩:=dM w;have HW:Hid (w.alloc (.cells zP 77)=W):=Hid.mk' eW;have Hg:Hid (w.heap.size=g):=Hid.mk' hg;have wg:w.heap.size≤g:=Nat.le_of_eq hg;clear eW hg;go_enter Tryz.func44,Tryz.ntmps44
 go_wp2_with (first
  | (go_at_call 93;rw [HW.out,Hg.out];refine (cx _).mono ?_;clear cx HW Hg;rintro e w1 ⟨rfl,hb1⟩;(replace h0:=h0.still hb1);(replace b:=aa b hb1);clear hb1)
  | (go_at_call 94;refine (cy _).mono ?_;clear cy;rintro e w2 ⟨rfl,hb2⟩;(replace h0:=h0.still hb2);(replace b:=aa b hb2);clear hb2)
  | (go_at_call 92;refine (ca _).mono ?_;clear ca;rintro e w3 ⟨rfl,hb3⟩;(replace h0:=h0.still hb3);(replace b:=aa b hb3);clear hb3;(have t0:w3.there g 0 (aw xb yb 1 tb).toArray.size:=h0.there))
  | (with_reducible (refine id (?_:wpList _ _ _ _ _ _));refine J2 rfl 77 _ _ rfl g 0 (aw xb yb 1 tb).toArray rfl rfl t0 (a7 _ _ _ _) (bJ _ _ _ _) ?_))
 (try simp only [Exit.inBlock,Exit.then]);exact bodyPost_ret (ai Tryz.results44 _ _ g 0 (aw xb yb 1 tb) _ rfl (h0.stored (aw xb yb 1 tb) rfl).range Tryz.underlying77 rfl (bi _ _ _ _)) rfl ⟨_,rfl,hr,ac wg _ _ _ b⟩
set_option maxRecDepth 20000 in
set_option maxHeartbeats 8000000 in
theorem C2 {c d:List Value} {P Q:Fp × Fp} (hP:R6 c P) (hQ:R6 d Q) (w:World) :
 Calls Tryz.prog 56 #[.agg c.toArray,.agg d.toArray] w fun e w'=>∃ c',e = .returned (.agg c'.toArray)∧R6 c' (dc dE P Q)∧Below w.heap.size w w':=by
 have hzp:=eF
 have kc:=fun W=>eK hP W
 have kd:=fun W=>eK hQ W
 have lc:=hP.len;have ld:=hQ.len;clear hP hQ
 obtain ⟨V1,g2,eg2,hg2,bg2,hc⟩:∃ V g,w.alloc (.cells c.toArray 77)=V∧w.heap.size=g∧Below w.heap.size w V∧RW V g 0 c:=⟨_,_,rfl,rfl,(Below.refl _ _).alloc (JW _) _,RW.fresh w _ _⟩
 obtain ⟨V2,g3,eg3,hg3,bg3,hd⟩:∃ V g,V1.alloc (.cells d.toArray 77)=V∧V1.heap.size=g∧Below V1.heap.size V1 V∧RW V g 0 d:=⟨_,_,rfl,rfl,(Below.refl _ _).alloc (JW _) _,RW.fresh V1 _ _⟩
 obtain ⟨W,g4,eg4,hg4,bg4,hres⟩:=dM V2
 have t1:V1.heap.size=w.heap.size+1:=by rw [←eg2];simp
 have t2:V2.heap.size=V1.heap.size+1:=by rw [←eg3];simp
 have HW:Hid (W=((w.alloc (.cells c.toArray 77)).alloc (.cells d.toArray 77)).alloc (.cells zP 77)):=Hid.mk' (by rw [←eg4,←eg3,←eg2]);have q2:Hid (w.heap.size=g2):=Hid.mk' hg2;have q3:Hid (w.heap.size+1=g3):=Hid.mk' (by omega);have q4:Hid (w.heap.size+1+1=g4):=Hid.mk' (by omega);replace hc:=(hc.still bg3).still bg4;replace hd:=hd.still bg4;have hbW:Below w.heap.size w W:=(bg2.trans (bg3.mono (by omega))).trans (bg4.mono (by omega))
 have w4:w.heap.size≤g4:=by omega
 have n24:g2≠g4:=by omega
 have n34:g3≠g4:=by omega
 have l4:=hres.lt;clear eg2 eg3 eg4 hg2 hg3 hg4 bg2 bg3 bg4 t1 t2 V1 V2;go_enter Tryz.func56,Tryz.ntmps56
 go_upto_region 1 with (fail)
 rw [←HW.out,q4.out,q3.out,q2.out];clear HW q4 q3 q2;have hdrew:Below W.heap.size W W.drew:=(Below.refl _ _).drew;replace hc:=hc.still hdrew;replace hd:=hd.still hdrew;replace hres:=hres.still hdrew;refine wp_region_noPanic ?_;replace l4:=JX l4 hdrew.size;refine wp_region_held_drew (S:=fun w'=>aT g4 0 16 W.drew w') (by kernel_rfl) (aT.refl _ _ _ _) (fun hS => ?_);generalize W.drew=Vm1_ at *;refine tk 0 (.agg c.toArray) hS (hy:=(gQ hc n24 77 2 Tryz.underlying77 (fX lc))) (h := ?_);(try simp only [pS]);refine tk 2 (.agg d.toArray) hS (hy:=(gQ hd n34 77 3 Tryz.underlying77 (fX ld))) (h := ?_);(try simp only [pS]);refine cl 1 (kc _) ?_;(clear kc;rintro e wm1_1 ⟨r1,rfl,hr1,hbm1_1⟩);have hSm1_1:=hS.trans (aT.of_below hbm1_1 l4);replace l4:=JX l4 hbm1_1.size;replace hres:=hres.still hbm1_1;refine ⟨_,rfl,hSm1_1,?_⟩;clear hbm1_1;(try simp only [pS]);refine cl 3 (kd _) ?_;(clear kd;rintro e wm1_2 ⟨r2,rfl,hr2,hbm1_2⟩);have hSm1_2:=hSm1_1.trans (aT.of_below hbm1_2 l4);replace l4:=JX l4 hbm1_2.size;replace hres:=hres.still hbm1_2;refine ⟨_,rfl,hSm1_2,?_⟩;clear hbm1_2;(try simp only [pS]);refine cl 4 (td hr1 hr2 _) ?_
 (rintro e wm1_3 ⟨r3,rfl,hr3,hbm1_3⟩)
 have hSm1_3:=hSm1_2.trans (aT.of_below hbm1_3 l4);replace l4:=JX l4 hbm1_3.size;replace hres:=hres.still hbm1_3;refine ⟨_,rfl,hSm1_3,?_⟩;clear hbm1_3;(try simp only [pS]);refine wpAnyH_ready (rs:=[5]) (by kernel_rfl) (by simp) ?_;refine AllReadyH.cons (o:=Ff) rfl (fun K hK => ?_) (AllReadyH.nil);unfold Ff;rw [if_pos (by rfl)];refine wp_store_mid 77 _ _ rfl g4 0 (aw r3.X r3.Y r3.Z r3.T).toArray rfl rfl (ej hres _ _ _ _) (a7 _ _ _ _) (bJ _ _ _ _) ?_;have hSm1_4:=hSm1_3.trans (aT.setCells (b:=g4) (o:=0) (n:=16) wm1_3 (aw r3.X r3.Y r3.Z r3.T) (JW _) (by rw [kG];exact JW _));replace hres:=hres.stored (aw r3.X r3.Y r3.Z r3.T) (et _ _ _ _ _ _ _ _)
 obtain ⟨wm1_4,hwm1_4⟩:∃ W,wm1_3.setCells g4 0 (aw r3.X r3.Y r3.Z r3.T)=W:=⟨_,rfl⟩
 rw [hwm1_4] at hres;rw [hwm1_4] at hSm1_4;rw [show wm1_3.setCells g4 0 (aw r3.X r3.Y r3.Z r3.T).toArray.toList=wm1_4 from hwm1_4];refine hK.out _ _ hSm1_4 (fun h => ?_);clear h hK K hwm1_4;(try dsimp only [Act.put]);refine wpAnyH_done (by kernel_rfl) ?_ _;refine NoPanic.normal ?_;have fin:=(hbW.trans (hdrew.mono hbW.size)).trans (hSm1_4.below w4 (Nat.le_trans hbW.size hdrew.size));go_wp2;exact bodyPost_ret (ai Tryz.results56 _ _ g4 0 (aw r3.X r3.Y r3.Z r3.T) _ rfl hres.range Tryz.underlying77 rfl (bi _ _ _ _)) rfl ⟨_,rfl,hr3.r6,fin⟩
end Go.Proofs.YtibdhadbflfdpaaGreatDoor
