/- What the proof stands on: RPlus6A, ROf, RTimes6. -/
import Derived.Test.YtibdhadbflfdpaaGreatDoorRPlus6
namespace Go.Proofs.YtibdhadbflfdpaaGreatDoor
open Nat renaming le_refl → JW
open Nat renaming lt_of_lt_of_le → JX
open Go renaming wpList_store_mid → J2
open Go renaming wpList_load_mid → J3
open Go.RowKit
theorem bL {L M:Nat→Int} {x y:Nat} (hL:Rw L x) (hM:Rw M y) (w:World):Calls Tryz.prog 120 #[rV L,rV M] w fun e w'=>e = .returned (rV (bB L M))∧Below w.heap.size w w':=cZ L M hL.bd hM.bd w
theorem lu {L M:Nat→Int} {x y:Nat} (hL:Rw L x) (hM:Rw M y) (w:World):Calls Tryz.prog 123 #[rV L,rV M] w fun e w'=>e = .returned (rV (yH L M))∧Below w.heap.size w w':=zO L M hL.far hM.far w
theorem fP {L M:Nat→Int} {x y:Nat} (hL:Rw L x) (hM:Rw M y) (w:World):Calls Tryz.prog 122 #[rV L,rV M] w fun e w'=>e = .returned (rV (bC L M))∧Below w.heap.size w w':=nN L M hL.far hM.far w
theorem iD {L M:Nat→Int} {x y:Nat} (hL:Rw L x) (hM:Rw M y):Rw (bB L M) (av x y):=(je hL hM).wide
theorem pg {r s:P4} {p q:N4} (hr:r.Rep p) (hs:s.Rep q) {D:Nat→Int} {d:Nat} (hD:Rw D d) (w:World) :
 Calls Tryz.prog 60 #[r.V,s.V,rV D] w fun e w'=>∃ t:P4,e = .returned t.V∧t.Rep (kU d p q)∧Below w.heap.size w w':=by
 have a:=iD hr.X hs.X;have b:=iD hr.Y hs.Y;have c0:=iD hr.T hs.T;have c:=iD c0 hD;have e0:=iD hr.Z hs.Z;have f1:=i7 hr.X hr.Y;have f2:=i7 hs.X hs.Y;have f3:=iD f1 f2;have f4:=eG f3 a (aJ _ _);have f:=eG f4 b (aJ _ _);have g:=eG e0 c (aJ _ _);have h:=i7 e0 c;have s':=i7 b a
 have k:=vQ r.X r.Y r.Z r.T s.X s.Y s.Z s.T D _ _ _ _ _ _ _ _ _ _ _ _ _ _ _ _ _
  (fun W=>bL hr.X hs.X W) (fun W=>bL hr.Y hs.Y W) (fun W=>bL hr.T hs.T W) (fun W=>bL c0 hD W) (fun W=>bL hr.Z hs.Z W)
  (fun W=>lu hr.X hr.Y W) (fun W=>lu hs.X hs.Y W) (fun W=>bL f1 f2 W) (fun W=>fP f3 a W) (fun W=>fP f4 b W)
  (fun W=>fP e0 c W) (fun W=>lu e0 c W) (fun W=>lu b a W)
  (fun W=>bL f g W) (fun W=>bL h s' W) (fun W=>bL g h W) (fun W=>bL f s' W) w
 exact k.mono fun e w' ⟨he,hb⟩=>⟨⟨_,_,_,_⟩,he,⟨iD f g,iD h s',iD g h,iD f s'⟩,hb⟩
theorem o9 {x z k:Nat} (hk:k<pF) (hz0:z≠0) (hz:z<pF) (h:k*z%pF=x):av x (de z)=k:=by
 unfold av de;rw [←h,wZ,Nat.mul_assoc,Nat.mul_mod,nj hz0 hz,Nat.mul_one,Nat.mod_mod,Nat.mod_eq_of_lt hk]
theorem DQ:av (cj 0 121665) (de 121666)=dN:=o9 Ce (by decide) (by decide) (by decide)
set_option maxRecDepth 20000 in
set_option maxHeartbeats 2000000 in
theorem xG (w:World):Calls Tryz.prog 61 #[] w fun e w'=>∃ R,e = .returned (rV R)∧Rw R dN∧Below w.heap.size w w':=by
 have hz:=dC
 have hs:∀ (n:Nat) (h:n≤9223372036854775807) W,Calls Tryz.prog 119 #[.int .i64 n] W fun e w'=>∃ R,e = .returned (.agg (aD R).toArray)∧Rw R n∧Below W.heap.size W w':=fun n h W=>(jI n (by omega) (by omega) W).mono fun e w' ⟨he,hb⟩=>⟨_,he,(yF n (by omega) (by omega) n (dI n)).wide,hb⟩
 have c0:∀ W,Calls Tryz.prog 119 #[.int .i64 0] W fun e w'=>∃ R,e = .returned (.agg (aD R).toArray)∧Rw R 0∧Below W.heap.size W w':=hs 0 (by decide)
 have c1:∀ W,Calls Tryz.prog 119 #[.int .i64 121665] W fun e w'=>∃ R,e = .returned (.agg (aD R).toArray)∧Rw R 121665∧Below W.heap.size W w':=hs 121665 (by decide)
 have c2:∀ W,Calls Tryz.prog 119 #[.int .i64 121666] W fun e w'=>∃ R,e = .returned (.agg (aD R).toArray)∧Rw R 121666∧Below W.heap.size W w':=hs 121666 (by decide)
 have cm:∀ A B,Rw A 0→Rw B 121665→∀ W,Calls Tryz.prog 122 #[.agg (aD A).toArray,.agg (aD B).toArray] W fun e w'=>∃ R,e = .returned (.agg (aD R).toArray)∧Rw R (cj 0 121665)∧Below W.heap.size W w':=fun A B hA hB W=>(fP hA hB W).mono fun e w' ⟨he,hb⟩=>⟨_,he,eG hA hB (by decide),hb⟩
 have ci:∀ A,Rw A 121666→∀ W,Calls Tryz.prog 126 #[.agg (aD A).toArray] W fun e w'=>∃ R,e = .returned (.agg (aD R).toArray)∧Rw R (de 121666)∧Below W.heap.size W w':=fun A hA W=>gD A _ hA W
 have ct:∀ A B,Rw A (cj 0 121665)→Rw B (de 121666)→∀ W,Calls Tryz.prog 120 #[.agg (aD A).toArray,.agg (aD B).toArray] W fun e w'=>∃ R,e = .returned (.agg (aD R).toArray)∧Rw R dN∧Below W.heap.size W w':=fun A B hA hB W=>(bL hA hB W).mono fun e w' ⟨he,hb⟩=>⟨_,he,by rw [←DQ];exact iD hA hB,hb⟩
 generalize de 121666=fi6 at *;generalize cj 0 121665=fs5 at *;generalize dN=dd at *;clear hs;obtain ⟨W,g,eW,hg,b,h0⟩:=dj w;have HW:Hid (w.alloc (.cells zI 92)=W):=Hid.mk' eW;have Hg:Hid (w.heap.size=g):=Hid.mk' hg;have wg:w.heap.size≤g:=Nat.le_of_eq hg;clear eW hg;go_enter Tryz.func61,Tryz.ntmps61
 go_wp2_with (first
  | (go_at_call 119;rw [HW.out,Hg.out];refine (c0 _).mono ?_;clear c0 HW Hg;rintro e w1 ⟨R1,rfl,hR1,hb1⟩;(replace h0:=h0.still hb1);(replace b:=aa b hb1);clear hb1)
  | (go_at_call 119;refine (c1 _).mono ?_;clear c1;rintro e w2 ⟨R2,rfl,hR2,hb2⟩;(replace h0:=h0.still hb2);(replace b:=aa b hb2);clear hb2)
  | (go_at_call 122;refine (cm R1 R2 hR1 hR2 _).mono ?_;clear cm;rintro e w3 ⟨R3,rfl,hR3,hb3⟩;(replace h0:=h0.still hb3);(replace b:=aa b hb3);clear hb3)
  | (go_at_call 119;refine (c2 _).mono ?_;clear c2;rintro e w4 ⟨R4,rfl,hR4,hb4⟩;(replace h0:=h0.still hb4);(replace b:=aa b hb4);clear hb4)
  | (go_at_call 126;refine (ci R4 hR4 _).mono ?_;clear ci;rintro e w5 ⟨R5,rfl,hR5,hb5⟩;(replace h0:=h0.still hb5);(replace b:=aa b hb5);clear hb5)
  | (go_at_call 120;refine (ct R3 R5 hR3 hR5 _).mono ?_;clear ct;rintro e w6 ⟨R6,rfl,hR6,hb6⟩;(replace h0:=h0.still hb6);(replace b:=aa b hb6);clear hb6;(have t6:w6.there g 0 (aD R6).toArray.size:=tn h0))
  | (with_reducible (refine id (?_:wpList _ _ _ _ _ _));refine J2 rfl 92 _ _ rfl g 0 (aD R6).toArray rfl rfl t6 (bQ R6) (fC R6) ?_))
 (try simp only [Exit.inBlock,Exit.then]);exact bodyPost_ret (ai Tryz.results61 _ _ g 0 (aD R6) _ rfl (h0.stored (aD R6) (by rw [ao,ao])).range Tryz.underlying92 rfl (aG R6)) rfl ⟨R6,rfl,hR6,ac wg _ _ _ b⟩
theorem ia (n:Nat) (h:n≤9223372036854775807) (W:World):Calls Tryz.prog 119 #[.int .i64 n] W fun e w'=>∃ R,e = .returned (.agg (aD R).toArray)∧Rw R n∧Below W.heap.size W w':=(jI n (by omega) (by omega) W).mono fun e w' ⟨he,hb⟩=>⟨_,he,(yF n (by omega) (by omega) n (dI n)).wide,hb⟩
abbrev FD:Oper:=oS (Op.store 94 (oT 4) (oT 11)) "ref.go:25" #[jD 6,jC 5,jP 0,jP 1,jP 2,jP 3,jP 4,jP 5,jP 6]
set_option maxRecDepth 20000 in
set_option maxHeartbeats 4000000 in
theorem D9 (X Y:Nat→Int) (ct:∀ W,Calls Tryz.prog 120 #[rV X,rV Y] W fun e w'=>e = .returned (rV (bB X Y))∧Below W.heap.size W w') (w:World) :
 Calls Tryz.prog 125 #[rV X,rV Y] w fun e w'=>∃ R1,e = .returned (qV X Y R1 (bB X Y))∧Rw R1 1∧Below w.heap.size w w':=by
 have hz:=dC;have hzq:=jd
 have c1:∀ W,Calls Tryz.prog 119 #[.int .i64 1] W fun e w'=>∃ R,e = .returned (rV R)∧Rw R 1∧Below W.heap.size W w':=ia 1 (by decide)
 obtain ⟨V1,g2,e2,hg2,b2,hx⟩:∃ V g,w.alloc (.cells (aD X).toArray 92)=V∧w.heap.size=g∧Below w.heap.size w V∧RW V g 0 (aD X):=⟨_,_,rfl,rfl,(Below.refl _ _).alloc (JW _) _,RW.fresh w _ _⟩
 obtain ⟨V2,g3,e3,hg3,b3,hy⟩:∃ V g,V1.alloc (.cells (aD Y).toArray 92)=V∧V1.heap.size=g∧Below V1.heap.size V1 V∧RW V g 0 (aD Y):=⟨_,_,rfl,rfl,(Below.refl _ _).alloc (JW _) _,RW.fresh V1 _ _⟩
 obtain ⟨W,g4,e4,hg4,b4,h4⟩:=mv V2
 have t1:V1.heap.size=w.heap.size+1:=by rw [←e2];simp
 have t2:V2.heap.size=V1.heap.size+1:=by rw [←e3];simp
 have HW:Hid (W=((w.alloc (.cells (aD X).toArray 92)).alloc (.cells (aD Y).toArray 92)).alloc (.cells zQ 94)):=Hid.mk' (by rw [←e4,←e3,←e2]);have q2:Hid (w.heap.size=g2):=Hid.mk' hg2;have q3:Hid (w.heap.size+1=g3):=Hid.mk' (by omega);have q4:Hid (w.heap.size+1+1=g4):=Hid.mk' (by omega);replace hx:=(hx.still b3).still b4;replace hy:=hy.still b4;have hbW:Below w.heap.size w W:=(b2.trans (b3.mono (by omega))).trans (b4.mono (by omega))
 have w4:w.heap.size≤g4:=by omega
 have n24:g2≠g4:=by omega
 have n34:g3≠g4:=by omega
 have l4:=h4.lt;clear e2 e3 e4 hg2 hg3 hg4 b2 b3 b4 t1 t2 V1 V2;rw [show rV X = .agg (aD X).toArray from rfl,show rV Y = .agg (aD Y).toArray from rfl];go_enter Tryz.func125,Tryz.ntmps125
 go_upto_region 1 with (fail)
 rw [←HW.out,q4.out,q3.out,q2.out];clear HW q2 q3 q4;have hdrew:Below W.heap.size W W.drew:=(Below.refl _ _).drew;replace hx:=hx.still hdrew;replace hy:=hy.still hdrew;replace h4:=h4.still hdrew;refine wp_region_noPanic ?_;replace l4:=JX l4 hdrew.size;refine wp_region_held_drew (S:=fun w'=>aT g4 0 64 W.drew w') (by kernel_rfl) (aT.refl _ _ _ _) (fun hS => ?_);generalize W.drew=Vv1_ at *;refine tk 0 (rV X) hS (hy:=(gQ hx n24 92 2 Tryz.underlying92 (aG _))) (h := ?_);(try simp only [pS]);refine tk 1 (rV Y) hS (hy:=(gQ hy n34 92 3 Tryz.underlying92 (aG _))) (h := ?_);(try simp only [pS]);refine tk 3 (rV X) hS (hy:=(gQ hx n24 92 2 Tryz.underlying92 (aG _))) (h := ?_);(try simp only [pS]);refine tk 4 (rV Y) hS (hy:=(gQ hy n34 92 3 Tryz.underlying92 (aG _))) (h := ?_);(try simp only [pS]);refine cl 2 (c1 _) ?_;(clear c1;rintro e wv1_1 ⟨R1,rfl,hR1,hbv1_1⟩);have hSv1_1:=hS.trans (aT.of_below hbv1_1 l4);replace l4:=JX l4 hbv1_1.size;replace h4:=h4.still hbv1_1;refine ⟨_,rfl,hSv1_1,?_⟩;clear hbv1_1;(try simp only [pS]);refine cl 5 (ct _) ?_;(clear ct;rintro e wv1_2 ⟨rfl,hbv1_2⟩);have hSv1_2:=hSv1_1.trans (aT.of_below hbv1_2 l4);replace l4:=JX l4 hbv1_2.size;replace h4:=h4.still hbv1_2;refine ⟨_,rfl,hSv1_2,?_⟩;clear hbv1_2;(try simp only [pS]);refine tk 6 (qV X Y R1 (bB X Y)) hSv1_2 (hy:=(eR (by rfl) 94 _ _ _ _ rfl (rV X) (rV Y) (rV R1) (rV (bB X Y)) rfl rfl rfl rfl _ (CJ _ _ _ _))) (h := ?_);(try simp only [pS]);refine wpAnyH_ready (rs:=[7]) (by kernel_rfl) (by simp) ?_;refine AllReadyH.cons (o:=FD) rfl (fun K hK => ?_) (AllReadyH.nil);unfold FD;rw [if_pos (by rfl)];refine wp_store_mid 94 _ _ rfl g4 0 (aW X Y R1 (bB X Y)).toArray rfl rfl (bj h4) (bt _ _ _ _) (eq _ _ _ _) ?_;have hSv1_3:=hSv1_2.trans (aT.setCells (b:=g4) (o:=0) (n:=64) wv1_2 (aW X Y R1 (bB X Y)) (JW _) (by rw [ge];exact JW _));replace h4:=h4.stored (aW X Y R1 (bB X Y)) (bk _ _ _ _ _ _ _ _)
 obtain ⟨wv1_3,hwv1_3⟩:∃ W,wv1_2.setCells g4 0 (aW X Y R1 (bB X Y))=W:=⟨_,rfl⟩
 rw [hwv1_3] at h4;rw [hwv1_3] at hSv1_3;rw [show wv1_2.setCells g4 0 (aW X Y R1 (bB X Y)).toArray.toList=wv1_3 from hwv1_3];refine hK.out _ _ hSv1_3 (fun h => ?_);clear h hK K hwv1_3;(try dsimp only [Act.put]);refine wpAnyH_done (by kernel_rfl) ?_ _;refine NoPanic.normal ?_;have fin:=(hbW.trans (hdrew.mono hbW.size)).trans (hSv1_3.below w4 (Nat.le_trans hbW.size hdrew.size));go_wp2;exact bodyPost_ret (ai Tryz.results125 _ _ g4 0 (aW X Y R1 (bB X Y)) _ rfl h4.range Tryz.underlying94 rfl (dQ _ _ _ _)) rfl ⟨R1,rfl,hR1,fin⟩
theorem nA {X Y:Nat→Int} {x y:Nat} (hX:Rw X x) (hY:Rw Y y) (w:World) :
 Calls Tryz.prog 125 #[rV X,rV Y] w fun e w'=>∃ t:P4,e = .returned t.V∧t.Rep (eO x y)∧Below w.heap.size w w' :=
 (D9 X Y (fun W=>bL hX hY W) w).mono fun _ _ ⟨R1,he,hR,hb⟩=>⟨⟨X,Y,R1,bB X Y⟩,he,⟨hX,hY,hR,iD hX hY⟩,hb⟩
theorem wE:eO 0 1=gJ:=by kernel_rfl
set_option maxRecDepth 20000 in
set_option maxHeartbeats 4000000 in
theorem rv (w:World):Calls Tryz.prog 116 #[] w fun e w'=>∃ t:P4,e = .returned t.V∧t.Rep gJ∧Below w.heap.size w w':=by
 have hzq:=jd
 have c0:∀ W,Calls Tryz.prog 119 #[.int .i64 0] W fun e w'=>∃ R,e = .returned (.agg (aD R).toArray)∧Rw R 0∧Below W.heap.size W w':=ia 0 (by decide)
 have c1:∀ W,Calls Tryz.prog 119 #[.int .i64 1] W fun e w'=>∃ R,e = .returned (.agg (aD R).toArray)∧Rw R 1∧Below W.heap.size W w':=ia 1 (by decide)
 have cf:∀ A B,Rw A 0→Rw B 1→∀ W,Calls Tryz.prog 125 #[.agg (aD A).toArray,.agg (aD B).toArray] W fun e w'=>∃ t:P4,e = .returned (.agg (aW t.X t.Y t.Z t.T).toArray)∧t.Rep gJ∧Below W.heap.size W w':=fun A B hA hB W=>by
  have h:=nA hA hB W;rw [wE] at h;exact h
 generalize gJ=zn at *;obtain ⟨W,g,eW,hg,b,h0⟩:=mv w;have HW:Hid (w.alloc (.cells zQ 94)=W):=Hid.mk' eW;have Hg:Hid (w.heap.size=g):=Hid.mk' hg;have wg:w.heap.size≤g:=Nat.le_of_eq hg;clear eW hg;go_enter Tryz.func116,Tryz.ntmps116
 go_wp2_with (first
  | (go_at_call 119;rw [HW.out,Hg.out];refine (c0 _).mono ?_;clear c0 HW Hg;rintro e w1 ⟨R1,rfl,hR1,hb1⟩;(replace h0:=h0.still hb1);(replace b:=aa b hb1);clear hb1)
  | (go_at_call 119;refine (c1 _).mono ?_;clear c1;rintro e w2 ⟨R2,rfl,hR2,hb2⟩;(replace h0:=h0.still hb2);(replace b:=aa b hb2);clear hb2)
  | (go_at_call 125;refine (cf R1 R2 hR1 hR2 _).mono ?_;clear cf;rintro e w3 ⟨t,rfl,ht,hb3⟩;(replace h0:=h0.still hb3);(replace b:=aa b hb3);clear hb3;(have t6:w3.there g 0 (aW t.X t.Y t.Z t.T).toArray.size:=bj h0))
  | (with_reducible (refine id (?_:wpList _ _ _ _ _ _));refine J2 rfl 94 _ _ rfl g 0 (aW t.X t.Y t.Z t.T).toArray rfl rfl t6 (bt _ _ _ _) (eq _ _ _ _) ?_))
 (try simp only [Exit.inBlock,Exit.then]);exact bodyPost_ret (ai Tryz.results116 _ _ g 0 (aW t.X t.Y t.Z t.T) _ rfl (h0.stored (aW t.X t.Y t.Z t.T) (bk _ _ _ _ _ _ _ _)).range Tryz.underlying94 rfl (dQ _ _ _ _)) rfl ⟨t,rfl,ht,ac wg _ _ _ b⟩
theorem En (ks:Nat→Nat) (hlt:∀ q,ks q<256) (i:Nat):(bits .and .u8 ((ks (i / 8):Int) / 2 ^ (i%8)) 1 == 1)=decide (ks (i / 8) / 2 ^ (i%8)%2=1):=by
 have e:((ks (i / 8):Int) / 2 ^ (i%8))=((ks (i / 8) / 2 ^ (i%8):Nat):Int):=by simp
 have hb:ks (i / 8) / 2 ^ (i%8)<256:=Nat.lt_of_le_of_lt (Nat.div_le_self _ _) (hlt _);rw [e,show (1:Int)=((1:Nat):Int) from rfl,u8_and_nat _ 1 hb (by decide),Nat.and_one_is_mod];generalize ks (i / 8) / 2 ^ (i%8)=v
 rcases Nat.mod_two_eq_zero_or_one v with h | h <;> simp [h]
set_option maxRecDepth 20000 in
set_option maxHeartbeats 8000000 in
theorem sP {r:P4} {p:N4} (hr:r.Rep p) (v:Value) (ks:Nat→Nat) (hks:∀ j,ks j<256) (w:World) (hv:ae w v 32 ks) :
 Calls Tryz.prog 59 #[r.V,v] w fun e w'=>∃ t:P4,e = .returned (.tuple #[t.V,.int .i64 0])∧t.Rep (pL dN p ks 256)∧Below w.heap.size w w':=by
 have hz:=dC;have hzq:=jd
 have cD:∀ W,Calls Tryz.prog 61 #[] W fun e w'=>∃ R,e = .returned (.agg (aD R).toArray)∧Rw R dN∧Below W.heap.size W w':=fun W=>xG W
 have cz:∀ W,Calls Tryz.prog 116 #[] W fun e w'=>∃ t:P4,e = .returned (.agg (aW t.X t.Y t.Z t.T).toArray)∧t.Rep gJ∧Below W.heap.size W w':=fun W=>rv W
 have cP:∀ (D:Nat→Int),Rw D dN→∀ (s t:P4) (x y:N4),s.Rep x→t.Rep y→∀ W,Calls Tryz.prog 60 #[.agg (aW s.X s.Y s.Z s.T).toArray,.agg (aW t.X t.Y t.Z t.T).toArray,.agg (aD D).toArray] W fun e w'=>∃ u:P4,e = .returned (.agg (aW u.X u.Y u.Z u.T).toArray)∧u.Rep (kU dN x y)∧Below W.heap.size W w':=fun D hD s t x y hs ht W=>pg hs ht hD W
 obtain ⟨m0,hm0⟩:∃ m:Nat→N4,m=pL dN p ks:=⟨_,rfl⟩
 have hm1:m0 0=gJ:=by rw [hm0];rfl
 have hmS0:∀ j,m0 (j+1)=if ks ((255 - j) / 8) / 2 ^ ((255 - j)%8)%2=1 then kU dN (kU dN (m0 j) (m0 j)) p else kU dN (m0 j) (m0 j):=fun j=>by rw [hm0];rfl
 rw [←hm0];clear hm0;rw [←hm1] at cz;clear hm1;generalize dN=dd at *;have hmS:=Hid.mk' hmS0;clear hmS0;obtain ⟨bb,ob,cap,hsl,hlb,hcap,hc⟩:∃ bb ob cap,v = .slice (some ⟨bb,ob,none⟩) 32 cap∧bb<w.heap.size∧32≤cap∧∀ j,j<32→w.cell? ⟨bb,ob+j,none⟩=some (.int .u8 (ks j)):=hv.resolve_left (fun ⟨_,_,h⟩=>by omega);subst hsl
 obtain ⟨V1,g2,e1,hg2,b1,hp⟩:∃ V g,w.alloc (.cells (aW r.X r.Y r.Z r.T).toArray 94)=V∧w.heap.size=g∧Below w.heap.size w V∧RW V g 0 (aW r.X r.Y r.Z r.T):=⟨_,_,rfl,rfl,(Below.refl _ _).alloc (JW _) _,RW.fresh w _ _⟩
 obtain ⟨W,g4,e4,hg4,b4,h4⟩:=mv V1
 have t1:V1.heap.size=w.heap.size+1:=by rw [←e1];simp
 have HW:Hid (W=(w.alloc (.cells (aW r.X r.Y r.Z r.T).toArray 94)).alloc (.cells zQ 94)):=Hid.mk' (by rw [←e4,←e1]);have q2:Hid (w.heap.size=g2):=Hid.mk' hg2;have q4:Hid (w.heap.size+1=g4):=Hid.mk' (by omega)
 have w4:w.heap.size≤g4:=by omega
 have n24:g2≠g4:=by omega
 replace hp:=hp.still b4;have hbW:Below w.heap.size w W:=aa b1 b4;clear e1 e4 hg2 hg4 b1 b4 t1 V1 hv;rw [show r.V = .agg (aW r.X r.Y r.Z r.T).toArray from rfl];go_enter Tryz.func59,Tryz.ntmps59
 go_upto_region 5 with (first
  | (go_at_call 61;rw [←HW.out,q4.out,q2.out];refine (cD _).mono ?_;clear cD HW q2 q4;rintro e w3 ⟨D,rfl,hD,hb3⟩;(have l2:=hp.lt);(have l4:=h4.lt);(replace hp:=hp.still hb3);(replace h4:=h4.still hb3);(replace hbW:=aa hbW hb3);(have n26:g2≠w3.heap.size:=Nat.ne_of_lt (JX l2 hb3.size));(have n46:g4≠w3.heap.size:=Nat.ne_of_lt (JX l4 hb3.size));(have w6:w.heap.size≤w3.heap.size:=hbW.size);clear hb3 l2 l4;(have z3:=dx w3);(have t3:=dH w3 D);(obtain ⟨V3,hV3⟩:∃ V,V=(w3.alloc (.cells zI 92)).setCells w3.heap.size 0 (aD D):=⟨_,rfl⟩);(have hd:RW V3 w3.heap.size 0 (aD D):=by rw [hV3];exact z3.stored (aD D) (by rw [ao,ao]));(have b3:Below w3.heap.size w3 V3:=by rw [hV3];exact ac (JW _) _ _ _ ((Below.refl _ _).alloc (JW _) _));(have H3:=Hid.mk' hV3);clear hV3 z3;(replace hp:=hp.still b3);(replace h4:=h4.still b3);(replace hbW:=aa hbW b3);clear b3)
  | (with_reducible (refine id (?_:wpList _ _ _ _ _ _));refine J2 rfl 92 _ _ rfl w3.heap.size 0 (aD D).toArray rfl rfl t3 (bQ D) (fC D) ?_;rw [List.toList_toArray,←H3.out];clear t3 H3)
  | (go_at_call 116;refine (cz _).mono ?_;clear cz;rintro e w5 ⟨t0,rfl,ht0,hb5⟩;(have l2:=hp.lt);(have l4:=h4.lt);(have l6:=hd.lt);(replace hp:=hp.still hb5);(replace h4:=h4.still hb5);(replace hd:=hd.still hb5);(replace hbW:=aa hbW hb5);(have n27:g2≠w5.heap.size:=Nat.ne_of_lt (JX l2 hb5.size));(have n47:g4≠w5.heap.size:=Nat.ne_of_lt (JX l4 hb5.size));(have n67:w3.heap.size≠w5.heap.size:=Nat.ne_of_lt (JX l6 hb5.size));(have w7:w.heap.size≤w5.heap.size:=hbW.size);clear hb5 l2 l4 l6;(have z5:=eT w5);(have t5:(w5.alloc (.cells zQ 94)).there w5.heap.size 0 (aW t0.X t0.Y t0.Z t0.T).toArray.size:=bj z5);(obtain ⟨V5,hV5⟩:∃ V,V=(w5.alloc (.cells zQ 94)).setCells w5.heap.size 0 (aW t0.X t0.Y t0.Z t0.T):=⟨_,rfl⟩);(have ho:RW V5 w5.heap.size 0 (aW t0.X t0.Y t0.Z t0.T):=by rw [hV5];exact z5.stored (aW t0.X t0.Y t0.Z t0.T) (bk _ _ _ _ _ _ _ _));(have b5:Below w5.heap.size w5 V5:=by rw [hV5];exact ac (JW _) _ _ _ ((Below.refl _ _).alloc (JW _) _));(have H5:=Hid.mk' hV5);clear hV5 z5;(replace hp:=hp.still b5);(replace h4:=h4.still b5);(replace hd:=hd.still b5);(replace hbW:=aa hbW b5);clear b5)
  | (with_reducible (refine id (?_:wpList _ _ _ _ _ _));refine J2 rfl 94 _ _ rfl w5.heap.size 0 (aW t0.X t0.Y t0.Z t0.T).toArray rfl rfl t5 (bt _ _ _ _) (eq _ _ _ _) ?_;rw [List.toList_toArray,←H5.out];clear t5 H5))
 dsimp only [Act.put];generalize w3.heap.size=g6 at *;generalize w5.heap.size=g7 at *;go_wp2;go_loopw [8] (fun i wr=>∃ (j:Nat) (t:P4),j≤256∧i = .int .i64 (255 - (j:Int))∧t.Rep (m0 j)∧RW wr g2 0 (aW r.X r.Y r.Z r.T)∧RW wr g4 0 (aW (fun _=>0) (fun _=>0) (fun _=>0) (fun _=>0))∧RW wr g6 0 (aD D)∧RW wr g7 0 (aW t.X t.Y t.Z t.T)∧Below w.heap.size w wr) (fun i _=>257 - (256 - (intOf i+1)).toNat)
 case atStart=>exact ⟨0,t0,Nat.zero_le _,by go_num,ht0,hp,h4,hd,ho,hbW⟩
 case round =>
  obtain ⟨j,t,hj,rfl,ht,kp,k4,kd,ko,kb⟩:=hrel;clear hp h4 hd ho hbW ht0;replace cP:=cP D hD
  by_cases hj2:j<256
  · have hnx:=hmS.out j
    have cc:=(kb.cell (p:=⟨bb,ob+(255 - j) / 8,none⟩) hlb).trans (hc ((255 - j) / 8) (by omega))
    have hi8:(255 - (j:Int)).toNat=255 - j:=by omega
    have hge:¬(255 - (j:Int)<0):=by omega
    have hbit:=En ks hks (255 - j);have c1:=cP t t _ _ ht ht
    have c2:=fun (u:P4) (hu:u.Rep (kU dd (m0 j) (m0 j)))=>cP u r _ _ hu hr
    clear cP hmS
    by_cases hb:ks ((255 - j) / 8) / 2 ^ ((255 - j)%8)%2=1
    · rw [if_pos hb] at hnx
      rw [decide_eq_true hb] at hbit;have Hn:=Hid.mk' hnx;clear hnx hb
      go_wp2_with (first
       | (refine J3 rfl 94 _ rfl g7 0 rfl (aW t.X t.Y t.Z t.T) _ ko.range Tryz.underlying94 rfl (dQ _ _ _ _) ?_)
       | (refine J3 rfl 94 _ rfl g7 0 rfl (aW u.X u.Y u.Z u.T) _ ko2.range Tryz.underlying94 rfl (dQ _ _ _ _) ?_)
       | (refine J3 rfl 94 _ rfl g2 0 rfl (aW r.X r.Y r.Z r.T) _ kp.range Tryz.underlying94 rfl (dQ _ _ _ _) ?_)
       | (refine J3 rfl 92 _ rfl g6 0 rfl (aD D) _ kd.range Tryz.underlying92 rfl (aG _) ?_)
       | (go_at_call 60;refine (c1 _).mono ?_;clear c1;rintro e w9 ⟨u,rfl,hu,hb9⟩;(replace kp:=kp.still hb9);(replace k4:=k4.still hb9);(replace kd:=kd.still hb9);(replace ko:=ko.still hb9);(replace kb:=aa kb hb9);clear hb9 cc;(have tA:w9.there g7 0 (aW u.X u.Y u.Z u.T).toArray.size:=bj ko);(obtain ⟨V9,hV9⟩:∃ V,V=w9.setCells g7 0 (aW u.X u.Y u.Z u.T):=⟨_,rfl⟩);(have ko2:=ko.stored (aW u.X u.Y u.Z u.T) (bk _ _ _ _ _ _ _ _));clear ko;(replace kp:=kp.far g7 0 (aW u.X u.Y u.Z u.T) (.inl n27));(replace k4:=k4.far g7 0 (aW u.X u.Y u.Z u.T) (.inl n47));(replace kd:=kd.far g7 0 (aW u.X u.Y u.Z u.T) (.inl n67));(replace kb:=ac w7 (aW u.X u.Y u.Z u.T) 0 _ kb);rw [←hV9] at ko2 kp k4 kd kb;(have HA:=Hid.mk' hV9);clear hV9;(have cc:=(kb.cell (p:=⟨bb,ob+(255 - j) / 8,none⟩) hlb).trans (hc ((255 - j) / 8) (by omega))))
       | (with_reducible (refine id (?_:wpList _ _ _ _ _ _));refine J2 rfl 94 _ _ rfl g7 0 (aW u.X u.Y u.Z u.T).toArray rfl rfl tA (bt _ _ _ _) (eq _ _ _ _) ?_;rw [List.toList_toArray,←HA.out];clear tA HA)
       | (go_at_call 60;refine (c2 u hu _).mono ?_;clear c2;rintro e w10 ⟨x,rfl,hx,hb10⟩;(replace kp:=kp.still hb10);(replace k4:=k4.still hb10);(replace kd:=kd.still hb10);(replace ko2:=ko2.still hb10);(replace kb:=aa kb hb10);clear hb10 cc;(have tB:w10.there g7 0 (aW x.X x.Y x.Z x.T).toArray.size:=bj ko2);(obtain ⟨V10,hV10⟩:∃ V,V=w10.setCells g7 0 (aW x.X x.Y x.Z x.T):=⟨_,rfl⟩);(have ko3:=ko2.stored (aW x.X x.Y x.Z x.T) (bk _ _ _ _ _ _ _ _));clear ko2;(replace kp:=kp.far g7 0 (aW x.X x.Y x.Z x.T) (.inl n27));(replace k4:=k4.far g7 0 (aW x.X x.Y x.Z x.T) (.inl n47));(replace kd:=kd.far g7 0 (aW x.X x.Y x.Z x.T) (.inl n67));(replace kb:=ac w7 (aW x.X x.Y x.Z x.T) 0 _ kb);rw [←hV10] at ko3 kp k4 kd kb;(have HB:=Hid.mk' hV10);clear hV10)
       | (with_reducible (refine id (?_:wpList _ _ _ _ _ _));refine J2 rfl 94 _ _ rfl g7 0 (aW x.X x.Y x.Z x.T).toArray rfl rfl tB (bt _ _ _ _) (eq _ _ _ _) ?_;rw [List.toList_toArray,←HB.out];clear tB HB))
      go_roundw
      case rel=>exact ⟨j+1,x,by omega,by go_num,by rw [Hn.out];exact hx,kp,k4,kd,ko3,kb⟩
      case measure=>simp [intOf];omega
    · rw [if_neg hb] at hnx
      rw [decide_eq_false hb] at hbit;have Hn:=Hid.mk' hnx;clear hnx hb c2
      go_wp2_with (first
       | (refine J3 rfl 94 _ rfl g7 0 rfl (aW t.X t.Y t.Z t.T) _ ko.range Tryz.underlying94 rfl (dQ _ _ _ _) ?_)
       | (refine J3 rfl 92 _ rfl g6 0 rfl (aD D) _ kd.range Tryz.underlying92 rfl (aG _) ?_)
       | (go_at_call 60;refine (c1 _).mono ?_;clear c1;rintro e w9 ⟨u,rfl,hu,hb9⟩;(replace kp:=kp.still hb9);(replace k4:=k4.still hb9);(replace kd:=kd.still hb9);(replace ko:=ko.still hb9);(replace kb:=aa kb hb9);clear hb9 cc;(have tA:w9.there g7 0 (aW u.X u.Y u.Z u.T).toArray.size:=bj ko);(obtain ⟨V9,hV9⟩:∃ V,V=w9.setCells g7 0 (aW u.X u.Y u.Z u.T):=⟨_,rfl⟩);(have ko2:=ko.stored (aW u.X u.Y u.Z u.T) (bk _ _ _ _ _ _ _ _));clear ko;(replace kp:=kp.far g7 0 (aW u.X u.Y u.Z u.T) (.inl n27));(replace k4:=k4.far g7 0 (aW u.X u.Y u.Z u.T) (.inl n47));(replace kd:=kd.far g7 0 (aW u.X u.Y u.Z u.T) (.inl n67));(replace kb:=ac w7 (aW u.X u.Y u.Z u.T) 0 _ kb);rw [←hV9] at ko2 kp k4 kd kb;(have HA:=Hid.mk' hV9);clear hV9;(have cc:=(kb.cell (p:=⟨bb,ob+(255 - j) / 8,none⟩) hlb).trans (hc ((255 - j) / 8) (by omega))))
       | (with_reducible (refine id (?_:wpList _ _ _ _ _ _));refine J2 rfl 94 _ _ rfl g7 0 (aW u.X u.Y u.Z u.T).toArray rfl rfl tA (bt _ _ _ _) (eq _ _ _ _) ?_;rw [List.toList_toArray,←HA.out];clear tA HA))
      go_roundw
      case rel=>exact ⟨j+1,u,by omega,by go_num,by rw [Hn.out];exact hu,kp,k4,kd,ko2,kb⟩
      case measure=>simp [intOf];omega
  · obtain rfl:j=256:=by omega
    have t4:wr.there g4 0 (aW t.X t.Y t.Z t.T).toArray.size:=bj k4
    go_wp2_with (first
     | (refine J3 rfl 94 _ rfl g7 0 rfl (aW t.X t.Y t.Z t.T) _ ko.range Tryz.underlying94 rfl (dQ _ _ _ _) ?_)
     | (with_reducible (refine id (?_:wpList _ _ _ _ _ _));refine J2 rfl 94 _ _ rfl g4 0 (aW t.X t.Y t.Z t.T).toArray rfl rfl t4 (bt _ _ _ _) (eq _ _ _ _) ?_))
    (try simp only [Exit.inBlock,Exit.then]);exact bodyPost_ret (am Tryz.results59 _ _ g4 0 (aW t.X t.Y t.Z t.T) _ rfl (k4.stored (aW t.X t.Y t.Z t.T) (bk _ _ _ _ _ _ _ _)).range Tryz.underlying94 rfl (dQ _ _ _ _)) rfl ⟨t,rfl,ht,ac w4 _ _ _ kb⟩
end Go.Proofs.YtibdhadbflfdpaaGreatDoor
