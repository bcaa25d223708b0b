/- What Plus of the reference's points does in the model. -/
import Derived.Test.YtibdhadbflfdpaaGreatDoorRQ
namespace Go.Proofs.YtibdhadbflfdpaaGreatDoor
open Nat renaming le_refl → JW
open Nat renaming lt_of_lt_of_le → JX
open Nat renaming le_trans → JY
open Go renaming wpAnyH_ready → J1
open Go renaming wpList_store_mid → J2
open Go renaming wpList_load_mid → J3
open Go renaming wpAnyH_done → J4
open Go.AllReadyH renaming nil → J6
open Go.AllReadyH renaming cons → J7
open Go.NoPanic renaming normal → J8
open Go.RowKit
abbrev qR:Oper:=oN 9 (Op.alloc 92) 0 "ref.go:35" #[]
abbrev F6:Oper:=oN 29 (dA 120 #[oT 26,oT 28] #[92,92]) 92 "ref.go:35" #[jD 1,jD 3]
abbrev FN:Oper:=oN 31 (dA 120 #[oT 29,oT 30] #[92,92]) 92 "ref.go:35" #[jD 4,jD 5,jC 4]
abbrev qU:Oper:=oS (Op.store 92 (oT 9) (oT 31)) "ref.go:35" #[jD 7,jD 6,jC 6,jP 0,jP 1,jP 2,jP 3,jP 4,jP 5,jP 6,jP 7]
abbrev fp:Oper:=oN 11 (Op.alloc 92) 0 "ref.go:37" #[]
abbrev FP:Oper:=oN 41 (dA 123 #[oT 38,oT 40] #[92,92]) 92 "ref.go:37" #[jD 1,jD 3]
abbrev Gk:Oper:=oN 46 (dA 123 #[oT 43,oT 45] #[92,92]) 92 "ref.go:37" #[jD 6,jD 8,jC 4]
abbrev Db:Oper:=oN 47 (dA 120 #[oT 41,oT 46] #[92,92]) 92 "ref.go:37" #[jD 4,jD 9,jC 9]
abbrev BQ:Oper:=oN 49 (dA 122 #[oT 47,oT 48] #[92,92]) 92 "ref.go:37" #[jD 10,jD 11,jC 10]
abbrev CB:Oper:=oN 51 (dA 122 #[oT 49,oT 50] #[92,92]) 92 "ref.go:37" #[jD 12,jD 13,jC 12]
abbrev fq:Oper:=oS (Op.store 92 (oT 11) (oT 51)) "ref.go:37" #[jD 15,jD 14,jC 14,jP 0,jP 1,jP 2,jP 3,jP 4,jP 5,jP 6,jP 7,jP 8,jP 9,jP 10,jP 11,jP 12,jP 13,jP 14,jP 15]
abbrev Cb:Oper:=oS (Op.store 94 (oT 6) (oT 73)) "ref.go:41" #[jD 12,jC 11,jP 0,jP 1,jP 2,jP 3,jP 4,jP 5,jP 6,jP 7,jP 8,jP 9,jP 10,jP 11,jP 12]
set_option maxRecDepth 20000 in
set_option maxHeartbeats 16000000 in
theorem vQ (pX pY pZ pT qX qY qZ qT dd a b c0 c e0 f1 f2 f3 f4 f g h s o1 o2 o3 o4:Nat→Int)
 (k1:∀ W,Calls Tryz.prog 120 #[rV pX,rV qX] W fun e w'=>e = .returned (rV a)∧Below W.heap.size W w')
 (k2:∀ W,Calls Tryz.prog 120 #[rV pY,rV qY] W fun e w'=>e = .returned (rV b)∧Below W.heap.size W w')
 (k3:∀ W,Calls Tryz.prog 120 #[rV pT,rV qT] W fun e w'=>e = .returned (rV c0)∧Below W.heap.size W w')
 (k4:∀ W,Calls Tryz.prog 120 #[rV c0,rV dd] W fun e w'=>e = .returned (rV c)∧Below W.heap.size W w')
 (k5:∀ W,Calls Tryz.prog 120 #[rV pZ,rV qZ] W fun e w'=>e = .returned (rV e0)∧Below W.heap.size W w')
 (k6:∀ W,Calls Tryz.prog 123 #[rV pX,rV pY] W fun e w'=>e = .returned (rV f1)∧Below W.heap.size W w')
 (k7:∀ W,Calls Tryz.prog 123 #[rV qX,rV qY] W fun e w'=>e = .returned (rV f2)∧Below W.heap.size W w')
 (k8:∀ W,Calls Tryz.prog 120 #[rV f1,rV f2] W fun e w'=>e = .returned (rV f3)∧Below W.heap.size W w')
 (k9:∀ W,Calls Tryz.prog 122 #[rV f3,rV a] W fun e w'=>e = .returned (rV f4)∧Below W.heap.size W w')
 (k10:∀ W,Calls Tryz.prog 122 #[rV f4,rV b] W fun e w'=>e = .returned (rV f)∧Below W.heap.size W w')
 (k11:∀ W,Calls Tryz.prog 122 #[rV e0,rV c] W fun e w'=>e = .returned (rV g)∧Below W.heap.size W w')
 (k12:∀ W,Calls Tryz.prog 123 #[rV e0,rV c] W fun e w'=>e = .returned (rV h)∧Below W.heap.size W w')
 (k13:∀ W,Calls Tryz.prog 123 #[rV b,rV a] W fun e w'=>e = .returned (rV s)∧Below W.heap.size W w')
 (k14:∀ W,Calls Tryz.prog 120 #[rV f,rV g] W fun e w'=>e = .returned (rV o1)∧Below W.heap.size W w')
 (k15:∀ W,Calls Tryz.prog 120 #[rV h,rV s] W fun e w'=>e = .returned (rV o2)∧Below W.heap.size W w')
 (k16:∀ W,Calls Tryz.prog 120 #[rV g,rV h] W fun e w'=>e = .returned (rV o3)∧Below W.heap.size W w')
 (k17:∀ W,Calls Tryz.prog 120 #[rV f,rV s] W fun e w'=>e = .returned (rV o4)∧Below W.heap.size W w')
 (w:World) :
 Calls Tryz.prog 60 #[qV pX pY pZ pT,qV qX qY qZ qT,rV dd] w fun e w'=>e = .returned (qV o1 o2 o3 o4)∧Below w.heap.size w w':=by
 have hz:=dC;have hzq:=jd
 obtain ⟨V1,g3,e3,hg3,b3,hp⟩:∃ V g,w.alloc (.cells (aW pX pY pZ pT).toArray 94)=V∧w.heap.size=g∧Below w.heap.size w V∧RW V g 0 (aW pX pY pZ pT):=⟨_,_,rfl,rfl,(Below.refl _ _).alloc (JW _) _,RW.fresh w _ _⟩
 obtain ⟨V2,g4,e4,hg4,b4,hq⟩:∃ V g,V1.alloc (.cells (aW qX qY qZ qT).toArray 94)=V∧V1.heap.size=g∧Below V1.heap.size V1 V∧RW V g 0 (aW qX qY qZ qT):=⟨_,_,rfl,rfl,(Below.refl _ _).alloc (JW _) _,RW.fresh V1 _ _⟩
 obtain ⟨V3,g5,e5,hg5,b5,hd⟩:∃ V g,V2.alloc (.cells (aD dd).toArray 92)=V∧V2.heap.size=g∧Below V2.heap.size V2 V∧RW V g 0 (aD dd):=⟨_,_,rfl,rfl,(Below.refl _ _).alloc (JW _) _,RW.fresh V2 _ _⟩
 obtain ⟨W,g6,e6,hg6,b6,h6⟩:=mv V3
 have t1:V1.heap.size=w.heap.size+1:=by rw [←e3];simp
 have t2:V2.heap.size=V1.heap.size+1:=by rw [←e4];simp
 have t3:V3.heap.size=V2.heap.size+1:=by rw [←e5];simp
 have HW:Hid (W=(((w.alloc (.cells (aW pX pY pZ pT).toArray 94)).alloc (.cells (aW qX qY qZ qT).toArray 94)).alloc (.cells (aD dd).toArray 92)).alloc (.cells zQ 94)):=Hid.mk' (by rw [←e6,←e5,←e4,←e3]);have q3:Hid (w.heap.size=g3):=Hid.mk' hg3;have q4:Hid (w.heap.size+1=g4):=Hid.mk' (by omega);have q5:Hid (w.heap.size+1+1=g5):=Hid.mk' (by omega);have q6:Hid (w.heap.size+1+1+1=g6):=Hid.mk' (by omega);replace hp:=((hp.still b4).still b5).still b6;replace hq:=(hq.still b5).still b6;replace hd:=hd.still b6;have hbW:Below w.heap.size w W:=((b3.trans (b4.mono (by omega))).trans (b5.mono (by omega))).trans (b6.mono (by omega));obtain ⟨hpX,hpY,hpZ,hpT⟩:=parts hp;obtain ⟨hqX,hqY,hqZ,hqT⟩:=parts hq
 have w6:w.heap.size≤g6:=by omega
 clear e3 e4 e5 e6 hg3 hg4 hg5 hg6 b3 b4 b5 b6 t1 t2 t3 hp hq V1 V2 V3;rw [show qV pX pY pZ pT = .agg (aW pX pY pZ pT).toArray from rfl,show qV qX qY qZ qT = .agg (aW qX qY qZ qT).toArray from rfl,show rV dd = .agg (aD dd).toArray from rfl];go_enter Tryz.func60,Tryz.ntmps60
 go_upto_region 1 with (fail)
 rw [←HW.out,q6.out,q5.out,q4.out,q3.out];clear HW q3 q4 q5 q6
 go_cut [7] from 15 (fun s7 wc=>∃ g107,s7 = .pointer (some ⟨g107,0,none⟩)∧Below W.heap.size W wc∧W.heap.size≤g107∧RW wc g107 0 (aD a))
 case first =>
  clear k2 k3 k4 k5 k6 k7 k8 k9 k10 k11 k12 k13 k14 k15 k16 k17;have r1:=hpX.range;have r2:=hqX.range
  have kk:∀ W,Calls Tryz.prog 120 #[.agg (aD pX).toArray,.agg (aD qX).toArray] W fun e w'=>e = .returned (.agg (aD a).toArray)∧Below W.heap.size W w':=k1
  clear k1 hpX hpY hpZ hpT hqX hqY hqZ hqT hd h6 hzq
  go_wp2_with (first
   | (refine J3 rfl 92 _ rfl g3 0 rfl (aD pX) _ r1 Tryz.underlying92 rfl (aG pX) ?_)
   | (refine J3 rfl 92 _ rfl g4 0 rfl (aD qX) _ r2 Tryz.underlying92 rfl (aG qX) ?_)
   | (go_at_call 120;refine (kk _).mono ?_;clear kk r1 r2;rintro e w9 ⟨rfl,hb9⟩;(have th:=dx w9);(have th':=dH w9 a))
   | (with_reducible (refine id (?_:wpList _ _ _ _ _ _));refine J2 rfl 92 _ _ rfl w9.heap.size 0 (aD a).toArray rfl rfl th' (bQ a) (fC a) ?_))
  go_meet
  case rel=>exact ⟨w9.heap.size,rfl,ac hb9.size _ _ _ (hb9.alloc hb9.size _),hb9.size,th.stored (aD a) (by rw [ao,ao])⟩
 case rest =>
 obtain ⟨g107,rfl,hb107,G107,h107⟩:=hcut;have lt6:=h6.lt;replace hpX:=hpX.still hb107;replace hpY:=hpY.still hb107;replace hpZ:=hpZ.still hb107;replace hpT:=hpT.still hb107;replace hqX:=hqX.still hb107;replace hqY:=hqY.still hb107;replace hqZ:=hqZ.still hb107;replace hqT:=hqT.still hb107;replace hd:=hd.still hb107;replace h6:=h6.still hb107
 obtain ⟨U1,hU1⟩:∃ W,W=wc:=⟨_,rfl⟩
 rw [←hU1];rw [←hU1] at hpX hpY hpZ hpT hqX hqY hqZ hqT hd h6 h107 hb107;replace hbW:Below w.heap.size w U1:=aa hbW hb107;clear hU1 hb107
 have m6_7:g107≠g6:=by omega
 clear G107 lt6
 go_upto_region 2 with (fail)
 go_cut [8] from 15 (fun s8 wc=>∃ g108,s8 = .pointer (some ⟨g108,0,none⟩)∧Below U1.heap.size U1 wc∧U1.heap.size≤g108∧RW wc g108 0 (aD b))
 case first =>
  clear k1 k3 k4 k5 k6 k7 k8 k9 k10 k11 k12 k13 k14 k15 k16 k17;have r1:=hpY.range;have r2:=hqY.range
  have kk:∀ W,Calls Tryz.prog 120 #[.agg (aD pY).toArray,.agg (aD qY).toArray] W fun e w'=>e = .returned (.agg (aD b).toArray)∧Below W.heap.size W w':=k2
  clear k2 hpX hpY hpZ hpT hqX hqY hqZ hqT hd h6 h107 hzq
  go_wp2_with (first
   | (refine J3 rfl 92 _ rfl g3 16 rfl (aD pY) _ r1 Tryz.underlying92 rfl (aG pY) ?_)
   | (refine J3 rfl 92 _ rfl g4 16 rfl (aD qY) _ r2 Tryz.underlying92 rfl (aG qY) ?_)
   | (go_at_call 120;refine (kk _).mono ?_;clear kk r1 r2;rintro e w9 ⟨rfl,hb9⟩;(have th:=dx w9);(have th':=dH w9 b))
   | (with_reducible (refine id (?_:wpList _ _ _ _ _ _));refine J2 rfl 92 _ _ rfl w9.heap.size 0 (aD b).toArray rfl rfl th' (bQ b) (fC b) ?_))
  go_meet
  case rel=>exact ⟨w9.heap.size,rfl,ac hb9.size _ _ _ (hb9.alloc hb9.size _),hb9.size,th.stored (aD b) (by rw [ao,ao])⟩
 case rest =>
 obtain ⟨g108,rfl,hb108,G108,h108⟩:=hcut;have lt6:=h6.lt;replace hpX:=hpX.still hb108;replace hpY:=hpY.still hb108;replace hpZ:=hpZ.still hb108;replace hpT:=hpT.still hb108;replace hqX:=hqX.still hb108;replace hqY:=hqY.still hb108;replace hqZ:=hqZ.still hb108;replace hqT:=hqT.still hb108;replace hd:=hd.still hb108;replace h6:=h6.still hb108;replace h107:=h107.still hb108
 obtain ⟨U2,hU2⟩:∃ W,W=wc:=⟨_,rfl⟩
 rw [←hU2];rw [←hU2] at hpX hpY hpZ hpT hqX hqY hqZ hqT hd h6 h107 h108 hb108;replace hbW:Below w.heap.size w U2:=aa hbW hb108;clear hU2 hb108
 have m6_8:g108≠g6:=by omega
 clear G108 lt6
 go_upto_region 3 with (fail)
 go_cut [9] from 15 (fun s9 wc=>∃ g109,s9 = .pointer (some ⟨g109,0,none⟩)∧Below U2.heap.size U2 wc∧U2.heap.size≤g109∧RW wc g109 0 (aD c))
 case first =>
  clear k1 k2 k5 k6 k7 k8 k9 k10 k11 k12 k13 k14 k15 k16 k17;have hdrew:Below U2.heap.size U2 U2.drew:=(Below.refl _ _).drew;replace hpX:=hpX.still hdrew;replace hpY:=hpY.still hdrew;replace hpZ:=hpZ.still hdrew;replace hpT:=hpT.still hdrew;replace hqX:=hqX.still hdrew;replace hqY:=hqY.still hdrew;replace hqZ:=hqZ.still hdrew;replace hqT:=hqT.still hdrew;replace hd:=hd.still hdrew;replace h6:=h6.still hdrew;replace h107:=h107.still hdrew;replace h108:=h108.still hdrew;refine wp_region_noPanic ?_;refine wp_region_held_drew (S:=fun w'=>Below U2.drew.heap.size U2.drew w') (by kernel_rfl) (Below.refl _ _) (fun hS => ?_);generalize U2.drew=Vu3_ at *;refine tk 0 (pA g3 48) hS (hy:=yR) (h := ?_);(try simp only [pS]);refine tk 1 (rV pT) hS (hy:=(d9 hpT 92 25 Tryz.underlying92 (aG _))) (h := ?_);(try simp only [pS]);refine tk 2 (pA g4 48) hS (hy:=yR) (h := ?_);(try simp only [pS]);refine tk 3 (rV qT) hS (hy:=(d9 hqT 92 27 Tryz.underlying92 (aG _))) (h := ?_);(try simp only [pS]);refine tk 5 (rV dd) hS (hy:=(d9 hd 92 5 Tryz.underlying92 (aG _))) (h := ?_);(try simp only [pS]);refine J1 (rs:=[4,7]) (by kernel_rfl) (by simp) ?_;refine J7 (o:=F6) rfl (fun K hK => ?_) (J7 (o:=qR) rfl (fun K hK => ?_) (J6))
  · unfold F6
    go_simp;(go_at_call 120;refine (k3 _).mono ?_;rintro e wu3_1 ⟨rfl,hbu3_1⟩);(try go_simp);have hSu3_1:=aa hS hbu3_1;refine hK.out _ _ hSu3_1 (fun h => ?_);clear h hK K hbu3_1;(try simp only [pS]);refine J1 (rs:=[6,7]) (by kernel_rfl) (by simp) ?_;refine J7 (o:=FN) rfl (fun K hK => ?_) (J7 (o:=qR) rfl (fun K hK => ?_) (J6))
    · unfold FN
      go_simp;(go_at_call 120;refine (k4 _).mono ?_;rintro e wu3_2 ⟨rfl,hbu3_2⟩);(try go_simp);have hSu3_2:=aa hSu3_1 hbu3_2;refine hK.out _ _ hSu3_2 (fun h => ?_);clear h hK K hbu3_2;(try simp only [pS]);refine J1 (rs:=[7]) (by kernel_rfl) (by simp) ?_;refine J7 (o:=qR) rfl (fun K hK => ?_) (J6);unfold qR;go_simp;obtain ⟨wu3_3,gu3_3,hwu3_3,hgu3_3,hbu3_3,ru3_3⟩:=dj wu3_2;rw [hwu3_3,hgu3_3];have hSu3_3:=aa hSu3_2 hbu3_3
      have Gu3_3:Vu3_.heap.size≤gu3_3:=by have:=hSu3_2.size;omega
      refine hK.out _ _ hSu3_3 (fun h => ?_);clear h hK K hbu3_3 hwu3_3 hgu3_3;(try simp only [pS]);refine J1 (rs:=[8]) (by kernel_rfl) (by simp) ?_;refine J7 (o:=qU) rfl (fun K hK => ?_) (J6);unfold qU;rw [if_pos (by rfl)];refine bp _ _ rfl gu3_3 (fun _=>0) c rfl rfl ru3_3 hSu3_3 Gu3_3 (fun wu3_4 r0 hSu3_4 => ?_);refine hK.out _ _ hSu3_4 (fun h => ?_);clear h hK K ru3_3;have ru3_3:=r0;clear r0;(try dsimp only [Act.put]);refine J4 (by kernel_rfl) ?_ _;refine J8 ?_;go_wp2;go_meet
      case rel=>exact ⟨gu3_3,rfl,aa hdrew hSu3_4,JY hdrew.size Gu3_3,ru3_3⟩
    · unfold qR
      go_simp;obtain ⟨wu3_5,gu3_5,hwu3_5,hgu3_5,hbu3_5,ru3_5⟩:=dj wu3_1;rw [hwu3_5,hgu3_5];have hSu3_5:=aa hSu3_1 hbu3_5
      have Gu3_5:Vu3_.heap.size≤gu3_5:=by have:=hSu3_1.size;omega
      refine hK.out _ _ hSu3_5 (fun h => ?_);clear h hK K hbu3_5 hwu3_5 hgu3_5;(try simp only [pS]);refine cl 6 (k4 _) ?_
      (rintro e wu3_6 ⟨rfl,hbu3_6⟩)
      have hSu3_6:=aa hSu3_5 hbu3_6;replace ru3_5:=ru3_5.still hbu3_6;refine ⟨_,rfl,hSu3_6,?_⟩;clear hbu3_6;(try simp only [pS]);refine J1 (rs:=[8]) (by kernel_rfl) (by simp) ?_;refine J7 (o:=qU) rfl (fun K hK => ?_) (J6);unfold qU;rw [if_pos (by rfl)];refine bp _ _ rfl gu3_5 (fun _=>0) c rfl rfl ru3_5 hSu3_6 Gu3_5 (fun wu3_7 r0 hSu3_7 => ?_);refine hK.out _ _ hSu3_7 (fun h => ?_);clear h hK K ru3_5;have ru3_5:=r0;clear r0;(try dsimp only [Act.put]);refine J4 (by kernel_rfl) ?_ _;refine J8 ?_;go_wp2;go_meet
      case rel=>exact ⟨gu3_5,rfl,aa hdrew hSu3_7,JY hdrew.size Gu3_5,ru3_5⟩
  · unfold qR
    go_simp;obtain ⟨wu3_8,gu3_8,hwu3_8,hgu3_8,hbu3_8,ru3_8⟩:=dj Vu3_;rw [hwu3_8,hgu3_8];have hSu3_8:=aa hS hbu3_8
    have Gu3_8:Vu3_.heap.size≤gu3_8:=by have:=hS.size;omega
    refine hK.out _ _ hSu3_8 (fun h => ?_);clear h hK K hbu3_8 hwu3_8 hgu3_8;(try simp only [pS]);refine cl 4 (k3 _) ?_
    (rintro e wu3_9 ⟨rfl,hbu3_9⟩)
    have hSu3_9:=aa hSu3_8 hbu3_9;replace ru3_8:=ru3_8.still hbu3_9;refine ⟨_,rfl,hSu3_9,?_⟩;clear hbu3_9;(try simp only [pS]);refine cl 6 (k4 _) ?_
    (rintro e wu3_10 ⟨rfl,hbu3_10⟩)
    have hSu3_10:=aa hSu3_9 hbu3_10;replace ru3_8:=ru3_8.still hbu3_10;refine ⟨_,rfl,hSu3_10,?_⟩;clear hbu3_10;(try simp only [pS]);refine J1 (rs:=[8]) (by kernel_rfl) (by simp) ?_;refine J7 (o:=qU) rfl (fun K hK => ?_) (J6);unfold qU;rw [if_pos (by rfl)];refine bp _ _ rfl gu3_8 (fun _=>0) c rfl rfl ru3_8 hSu3_10 Gu3_8 (fun wu3_11 r0 hSu3_11 => ?_);refine hK.out _ _ hSu3_11 (fun h => ?_);clear h hK K ru3_8;have ru3_8:=r0;clear r0;(try dsimp only [Act.put]);refine J4 (by kernel_rfl) ?_ _;refine J8 ?_;go_wp2;go_meet
    case rel=>exact ⟨gu3_8,rfl,aa hdrew hSu3_11,JY hdrew.size Gu3_8,ru3_8⟩
 case rest =>
 obtain ⟨g109,rfl,hb109,G109,h109⟩:=hcut;have lt6:=h6.lt;replace hpX:=hpX.still hb109;replace hpY:=hpY.still hb109;replace hpZ:=hpZ.still hb109;replace hpT:=hpT.still hb109;replace hqX:=hqX.still hb109;replace hqY:=hqY.still hb109;replace hqZ:=hqZ.still hb109;replace hqT:=hqT.still hb109;replace hd:=hd.still hb109;replace h6:=h6.still hb109;replace h107:=h107.still hb109;replace h108:=h108.still hb109
 obtain ⟨U3,hU3⟩:∃ W,W=wc:=⟨_,rfl⟩
 rw [←hU3];rw [←hU3] at hpX hpY hpZ hpT hqX hqY hqZ hqT hd h6 h107 h108 h109 hb109;replace hbW:Below w.heap.size w U3:=aa hbW hb109;clear hU3 hb109
 have m6_9:g109≠g6:=by omega
 clear G109 lt6
 go_upto_region 4 with (fail)
 go_cut [10] from 15 (fun s10 wc=>∃ g110,s10 = .pointer (some ⟨g110,0,none⟩)∧Below U3.heap.size U3 wc∧U3.heap.size≤g110∧RW wc g110 0 (aD e0))
 case first =>
  clear k1 k2 k3 k4 k6 k7 k8 k9 k10 k11 k12 k13 k14 k15 k16 k17;have r1:=hpZ.range;have r2:=hqZ.range
  have kk:∀ W,Calls Tryz.prog 120 #[.agg (aD pZ).toArray,.agg (aD qZ).toArray] W fun e w'=>e = .returned (.agg (aD e0).toArray)∧Below W.heap.size W w':=k5
  clear k5 hpX hpY hpZ hpT hqX hqY hqZ hqT hd h6 h107 h108 h109 hzq
  go_wp2_with (first
   | (refine J3 rfl 92 _ rfl g3 32 rfl (aD pZ) _ r1 Tryz.underlying92 rfl (aG pZ) ?_)
   | (refine J3 rfl 92 _ rfl g4 32 rfl (aD qZ) _ r2 Tryz.underlying92 rfl (aG qZ) ?_)
   | (go_at_call 120;refine (kk _).mono ?_;clear kk r1 r2;rintro e w9 ⟨rfl,hb9⟩;(have th:=dx w9);(have th':=dH w9 e0))
   | (with_reducible (refine id (?_:wpList _ _ _ _ _ _));refine J2 rfl 92 _ _ rfl w9.heap.size 0 (aD e0).toArray rfl rfl th' (bQ e0) (fC e0) ?_))
  go_meet
  case rel=>exact ⟨w9.heap.size,rfl,ac hb9.size _ _ _ (hb9.alloc hb9.size _),hb9.size,th.stored (aD e0) (by rw [ao,ao])⟩
 case rest =>
 obtain ⟨g110,rfl,hb110,G110,h110⟩:=hcut;have lt6:=h6.lt;replace hpX:=hpX.still hb110;replace hpY:=hpY.still hb110;replace hpZ:=hpZ.still hb110;replace hpT:=hpT.still hb110;replace hqX:=hqX.still hb110;replace hqY:=hqY.still hb110;replace hqZ:=hqZ.still hb110;replace hqT:=hqT.still hb110;replace hd:=hd.still hb110;replace h6:=h6.still hb110;replace h107:=h107.still hb110;replace h108:=h108.still hb110;replace h109:=h109.still hb110
 obtain ⟨U4,hU4⟩:∃ W,W=wc:=⟨_,rfl⟩
 rw [←hU4];rw [←hU4] at hpX hpY hpZ hpT hqX hqY hqZ hqT hd h6 h107 h108 h109 h110 hb110;replace hbW:Below w.heap.size w U4:=aa hbW hb110;clear hU4 hb110
 have m6_10:g110≠g6:=by omega
 clear G110 lt6
 go_upto_region 5 with (fail)
 go_cut [11] from 15 (fun s11 wc=>∃ g111,s11 = .pointer (some ⟨g111,0,none⟩)∧Below U4.heap.size U4 wc∧U4.heap.size≤g111∧RW wc g111 0 (aD f))
 case first =>
  clear k1 k2 k3 k4 k5 k11 k12 k13 k14 k15 k16 k17;have hdrew:Below U4.heap.size U4 U4.drew:=(Below.refl _ _).drew;replace hpX:=hpX.still hdrew;replace hpY:=hpY.still hdrew;replace hpZ:=hpZ.still hdrew;replace hpT:=hpT.still hdrew;replace hqX:=hqX.still hdrew;replace hqY:=hqY.still hdrew;replace hqZ:=hqZ.still hdrew;replace hqT:=hqT.still hdrew;replace hd:=hd.still hdrew;replace h6:=h6.still hdrew;replace h107:=h107.still hdrew;replace h108:=h108.still hdrew;replace h109:=h109.still hdrew;replace h110:=h110.still hdrew;refine wp_region_noPanic ?_;refine wp_region_held_drew (S:=fun w'=>Below U4.drew.heap.size U4.drew w') (by kernel_rfl) (Below.refl _ _) (fun hS => ?_);generalize U4.drew=Vu5_ at *;refine tk 0 (pA g3 0) hS (hy:=yR) (h := ?_);(try simp only [pS]);refine tk 1 (rV pX) hS (hy:=(d9 hpX 92 37 Tryz.underlying92 (aG _))) (h := ?_);(try simp only [pS]);refine tk 2 (pA g3 16) hS (hy:=yR) (h := ?_);(try simp only [pS]);refine tk 3 (rV pY) hS (hy:=(d9 hpY 92 39 Tryz.underlying92 (aG _))) (h := ?_);(try simp only [pS]);refine tk 5 (pA g4 0) hS (hy:=yR) (h := ?_);(try simp only [pS]);refine tk 6 (rV qX) hS (hy:=(d9 hqX 92 42 Tryz.underlying92 (aG _))) (h := ?_);(try simp only [pS]);refine tk 7 (pA g4 16) hS (hy:=yR) (h := ?_);(try simp only [pS]);refine tk 8 (rV qY) hS (hy:=(d9 hqY 92 44 Tryz.underlying92 (aG _))) (h := ?_);(try simp only [pS]);refine tk 11 (rV a) hS (hy:=(d9 h107 92 7 Tryz.underlying92 (aG _))) (h := ?_);(try simp only [pS]);refine tk 13 (rV b) hS (hy:=(d9 h108 92 8 Tryz.underlying92 (aG _))) (h := ?_);(try simp only [pS]);refine J1 (rs:=[4,15]) (by kernel_rfl) (by simp) ?_;refine J7 (o:=FP) rfl (fun K hK => ?_) (J7 (o:=fp) rfl (fun K hK => ?_) (J6))
  · unfold FP
    go_simp;(go_at_call 123;refine (k6 _).mono ?_;rintro e wu5_1 ⟨rfl,hbu5_1⟩);(try go_simp);have hSu5_1:=aa hS hbu5_1;refine hK.out _ _ hSu5_1 (fun h => ?_);clear h hK K hbu5_1;(try simp only [pS]);refine J1 (rs:=[9,15]) (by kernel_rfl) (by simp) ?_;refine J7 (o:=Gk) rfl (fun K hK => ?_) (J7 (o:=fp) rfl (fun K hK => ?_) (J6))
    · unfold Gk
      go_simp;(go_at_call 123;refine (k7 _).mono ?_;rintro e wu5_2 ⟨rfl,hbu5_2⟩);(try go_simp);have hSu5_2:=aa hSu5_1 hbu5_2;refine hK.out _ _ hSu5_2 (fun h => ?_);clear h hK K hbu5_2;(try simp only [pS]);refine J1 (rs:=[10,15]) (by kernel_rfl) (by simp) ?_;refine J7 (o:=Db) rfl (fun K hK => ?_) (J7 (o:=fp) rfl (fun K hK => ?_) (J6))
      · unfold Db
        go_simp;(go_at_call 120;refine (k8 _).mono ?_;rintro e wu5_3 ⟨rfl,hbu5_3⟩);(try go_simp);have hSu5_3:=aa hSu5_2 hbu5_3;refine hK.out _ _ hSu5_3 (fun h => ?_);clear h hK K hbu5_3;(try simp only [pS]);refine J1 (rs:=[12,15]) (by kernel_rfl) (by simp) ?_;refine J7 (o:=BQ) rfl (fun K hK => ?_) (J7 (o:=fp) rfl (fun K hK => ?_) (J6))
        · unfold BQ
          go_simp;(go_at_call 122;refine (k9 _).mono ?_;rintro e wu5_4 ⟨rfl,hbu5_4⟩);(try go_simp);have hSu5_4:=aa hSu5_3 hbu5_4;refine hK.out _ _ hSu5_4 (fun h => ?_);clear h hK K hbu5_4;(try simp only [pS]);refine J1 (rs:=[14,15]) (by kernel_rfl) (by simp) ?_;refine J7 (o:=CB) rfl (fun K hK => ?_) (J7 (o:=fp) rfl (fun K hK => ?_) (J6))
          · unfold CB
            go_simp;(go_at_call 122;refine (k10 _).mono ?_;rintro e wu5_5 ⟨rfl,hbu5_5⟩);(try go_simp);have hSu5_5:=aa hSu5_4 hbu5_5;refine hK.out _ _ hSu5_5 (fun h => ?_);clear h hK K hbu5_5;(try simp only [pS]);refine J1 (rs:=[15]) (by kernel_rfl) (by simp) ?_;refine J7 (o:=fp) rfl (fun K hK => ?_) (J6);unfold fp;go_simp;obtain ⟨wu5_6,gu5_6,hwu5_6,hgu5_6,hbu5_6,ru5_6⟩:=dj wu5_5;rw [hwu5_6,hgu5_6];have hSu5_6:=aa hSu5_5 hbu5_6
            have Gu5_6:Vu5_.heap.size≤gu5_6:=by have:=hSu5_5.size;omega
            refine hK.out _ _ hSu5_6 (fun h => ?_);clear h hK K hbu5_6 hwu5_6 hgu5_6;(try simp only [pS]);refine J1 (rs:=[16]) (by kernel_rfl) (by simp) ?_;refine J7 (o:=fq) rfl (fun K hK => ?_) (J6);unfold fq;rw [if_pos (by rfl)];refine bp _ _ rfl gu5_6 (fun _=>0) f rfl rfl ru5_6 hSu5_6 Gu5_6 (fun wu5_7 r0 hSu5_7 => ?_);refine hK.out _ _ hSu5_7 (fun h => ?_);clear h hK K ru5_6;have ru5_6:=r0;clear r0;(try dsimp only [Act.put]);refine J4 (by kernel_rfl) ?_ _;refine J8 ?_;go_wp2;go_meet
            case rel=>exact ⟨gu5_6,rfl,aa hdrew hSu5_7,JY hdrew.size Gu5_6,ru5_6⟩
          · unfold fp
            go_simp;obtain ⟨wu5_8,gu5_8,hwu5_8,hgu5_8,hbu5_8,ru5_8⟩:=dj wu5_4;rw [hwu5_8,hgu5_8];have hSu5_8:=aa hSu5_4 hbu5_8
            have Gu5_8:Vu5_.heap.size≤gu5_8:=by have:=hSu5_4.size;omega
            refine hK.out _ _ hSu5_8 (fun h => ?_);clear h hK K hbu5_8 hwu5_8 hgu5_8;(try simp only [pS]);refine cl 14 (k10 _) ?_
            (rintro e wu5_9 ⟨rfl,hbu5_9⟩)
            have hSu5_9:=aa hSu5_8 hbu5_9;replace ru5_8:=ru5_8.still hbu5_9;refine ⟨_,rfl,hSu5_9,?_⟩;clear hbu5_9;(try simp only [pS]);refine J1 (rs:=[16]) (by kernel_rfl) (by simp) ?_;refine J7 (o:=fq) rfl (fun K hK => ?_) (J6);unfold fq;rw [if_pos (by rfl)];refine bp _ _ rfl gu5_8 (fun _=>0) f rfl rfl ru5_8 hSu5_9 Gu5_8 (fun wu5_10 r0 hSu5_10 => ?_);refine hK.out _ _ hSu5_10 (fun h => ?_);clear h hK K ru5_8;have ru5_8:=r0;clear r0;(try dsimp only [Act.put]);refine J4 (by kernel_rfl) ?_ _;refine J8 ?_;go_wp2;go_meet
            case rel=>exact ⟨gu5_8,rfl,aa hdrew hSu5_10,JY hdrew.size Gu5_8,ru5_8⟩
        · unfold fp
          go_simp;obtain ⟨wu5_11,gu5_11,hwu5_11,hgu5_11,hbu5_11,ru5_11⟩:=dj wu5_3;rw [hwu5_11,hgu5_11];have hSu5_11:=aa hSu5_3 hbu5_11
          have Gu5_11:Vu5_.heap.size≤gu5_11:=by have:=hSu5_3.size;omega
          refine hK.out _ _ hSu5_11 (fun h => ?_);clear h hK K hbu5_11 hwu5_11 hgu5_11;(try simp only [pS]);refine cl 12 (k9 _) ?_
          (rintro e wu5_12 ⟨rfl,hbu5_12⟩)
          have hSu5_12:=aa hSu5_11 hbu5_12;replace ru5_11:=ru5_11.still hbu5_12;refine ⟨_,rfl,hSu5_12,?_⟩;clear hbu5_12;(try simp only [pS]);refine cl 14 (k10 _) ?_
          (rintro e wu5_13 ⟨rfl,hbu5_13⟩)
          have hSu5_13:=aa hSu5_12 hbu5_13;replace ru5_11:=ru5_11.still hbu5_13;refine ⟨_,rfl,hSu5_13,?_⟩;clear hbu5_13;(try simp only [pS]);refine J1 (rs:=[16]) (by kernel_rfl) (by simp) ?_;refine J7 (o:=fq) rfl (fun K hK => ?_) (J6);unfold fq;rw [if_pos (by rfl)];refine bp _ _ rfl gu5_11 (fun _=>0) f rfl rfl ru5_11 hSu5_13 Gu5_11 (fun wu5_14 r0 hSu5_14 => ?_);refine hK.out _ _ hSu5_14 (fun h => ?_);clear h hK K ru5_11;have ru5_11:=r0;clear r0;(try dsimp only [Act.put]);refine J4 (by kernel_rfl) ?_ _;refine J8 ?_;go_wp2;go_meet
          case rel=>exact ⟨gu5_11,rfl,aa hdrew hSu5_14,JY hdrew.size Gu5_11,ru5_11⟩
      · unfold fp
        go_simp;obtain ⟨wu5_15,gu5_15,hwu5_15,hgu5_15,hbu5_15,ru5_15⟩:=dj wu5_2;rw [hwu5_15,hgu5_15];have hSu5_15:=aa hSu5_2 hbu5_15
        have Gu5_15:Vu5_.heap.size≤gu5_15:=by have:=hSu5_2.size;omega
        refine hK.out _ _ hSu5_15 (fun h => ?_);clear h hK K hbu5_15 hwu5_15 hgu5_15;(try simp only [pS]);refine cl 10 (k8 _) ?_
        (rintro e wu5_16 ⟨rfl,hbu5_16⟩)
        have hSu5_16:=aa hSu5_15 hbu5_16;replace ru5_15:=ru5_15.still hbu5_16;refine ⟨_,rfl,hSu5_16,?_⟩;clear hbu5_16;(try simp only [pS]);refine cl 12 (k9 _) ?_
        (rintro e wu5_17 ⟨rfl,hbu5_17⟩)
        have hSu5_17:=aa hSu5_16 hbu5_17;replace ru5_15:=ru5_15.still hbu5_17;refine ⟨_,rfl,hSu5_17,?_⟩;clear hbu5_17;(try simp only [pS]);refine cl 14 (k10 _) ?_
        (rintro e wu5_18 ⟨rfl,hbu5_18⟩)
        have hSu5_18:=aa hSu5_17 hbu5_18;replace ru5_15:=ru5_15.still hbu5_18;refine ⟨_,rfl,hSu5_18,?_⟩;clear hbu5_18;(try simp only [pS]);refine J1 (rs:=[16]) (by kernel_rfl) (by simp) ?_;refine J7 (o:=fq) rfl (fun K hK => ?_) (J6);unfold fq;rw [if_pos (by rfl)];refine bp _ _ rfl gu5_15 (fun _=>0) f rfl rfl ru5_15 hSu5_18 Gu5_15 (fun wu5_19 r0 hSu5_19 => ?_);refine hK.out _ _ hSu5_19 (fun h => ?_);clear h hK K ru5_15;have ru5_15:=r0;clear r0;(try dsimp only [Act.put]);refine J4 (by kernel_rfl) ?_ _;refine J8 ?_;go_wp2;go_meet
        case rel=>exact ⟨gu5_15,rfl,aa hdrew hSu5_19,JY hdrew.size Gu5_15,ru5_15⟩
    · unfold fp
      go_simp;obtain ⟨wu5_20,gu5_20,hwu5_20,hgu5_20,hbu5_20,ru5_20⟩:=dj wu5_1;rw [hwu5_20,hgu5_20];have hSu5_20:=aa hSu5_1 hbu5_20
      have Gu5_20:Vu5_.heap.size≤gu5_20:=by have:=hSu5_1.size;omega
      refine hK.out _ _ hSu5_20 (fun h => ?_);clear h hK K hbu5_20 hwu5_20 hgu5_20;(try simp only [pS]);refine cl 9 (k7 _) ?_
      (rintro e wu5_21 ⟨rfl,hbu5_21⟩)
      have hSu5_21:=aa hSu5_20 hbu5_21;replace ru5_20:=ru5_20.still hbu5_21;refine ⟨_,rfl,hSu5_21,?_⟩;clear hbu5_21;(try simp only [pS]);refine cl 10 (k8 _) ?_
      (rintro e wu5_22 ⟨rfl,hbu5_22⟩)
      have hSu5_22:=aa hSu5_21 hbu5_22;replace ru5_20:=ru5_20.still hbu5_22;refine ⟨_,rfl,hSu5_22,?_⟩;clear hbu5_22;(try simp only [pS]);refine cl 12 (k9 _) ?_
      (rintro e wu5_23 ⟨rfl,hbu5_23⟩)
      have hSu5_23:=aa hSu5_22 hbu5_23;replace ru5_20:=ru5_20.still hbu5_23;refine ⟨_,rfl,hSu5_23,?_⟩;clear hbu5_23;(try simp only [pS]);refine cl 14 (k10 _) ?_
      (rintro e wu5_24 ⟨rfl,hbu5_24⟩)
      have hSu5_24:=aa hSu5_23 hbu5_24;replace ru5_20:=ru5_20.still hbu5_24;refine ⟨_,rfl,hSu5_24,?_⟩;clear hbu5_24;(try simp only [pS]);refine J1 (rs:=[16]) (by kernel_rfl) (by simp) ?_;refine J7 (o:=fq) rfl (fun K hK => ?_) (J6);unfold fq;rw [if_pos (by rfl)];refine bp _ _ rfl gu5_20 (fun _=>0) f rfl rfl ru5_20 hSu5_24 Gu5_20 (fun wu5_25 r0 hSu5_25 => ?_);refine hK.out _ _ hSu5_25 (fun h => ?_);clear h hK K ru5_20;have ru5_20:=r0;clear r0;(try dsimp only [Act.put]);refine J4 (by kernel_rfl) ?_ _;refine J8 ?_;go_wp2;go_meet
      case rel=>exact ⟨gu5_20,rfl,aa hdrew hSu5_25,JY hdrew.size Gu5_20,ru5_20⟩
  · unfold fp
    go_simp;obtain ⟨wu5_26,gu5_26,hwu5_26,hgu5_26,hbu5_26,ru5_26⟩:=dj Vu5_;rw [hwu5_26,hgu5_26];have hSu5_26:=aa hS hbu5_26
    have Gu5_26:Vu5_.heap.size≤gu5_26:=by have:=hS.size;omega
    refine hK.out _ _ hSu5_26 (fun h => ?_);clear h hK K hbu5_26 hwu5_26 hgu5_26;(try simp only [pS]);refine cl 4 (k6 _) ?_
    (rintro e wu5_27 ⟨rfl,hbu5_27⟩)
    have hSu5_27:=aa hSu5_26 hbu5_27;replace ru5_26:=ru5_26.still hbu5_27;refine ⟨_,rfl,hSu5_27,?_⟩;clear hbu5_27;(try simp only [pS]);refine cl 9 (k7 _) ?_
    (rintro e wu5_28 ⟨rfl,hbu5_28⟩)
    have hSu5_28:=aa hSu5_27 hbu5_28;replace ru5_26:=ru5_26.still hbu5_28;refine ⟨_,rfl,hSu5_28,?_⟩;clear hbu5_28;(try simp only [pS]);refine cl 10 (k8 _) ?_
    (rintro e wu5_29 ⟨rfl,hbu5_29⟩)
    have hSu5_29:=aa hSu5_28 hbu5_29;replace ru5_26:=ru5_26.still hbu5_29;refine ⟨_,rfl,hSu5_29,?_⟩;clear hbu5_29;(try simp only [pS]);refine cl 12 (k9 _) ?_
    (rintro e wu5_30 ⟨rfl,hbu5_30⟩)
    have hSu5_30:=aa hSu5_29 hbu5_30;replace ru5_26:=ru5_26.still hbu5_30;refine ⟨_,rfl,hSu5_30,?_⟩;clear hbu5_30;(try simp only [pS]);refine cl 14 (k10 _) ?_
    (rintro e wu5_31 ⟨rfl,hbu5_31⟩)
    have hSu5_31:=aa hSu5_30 hbu5_31;replace ru5_26:=ru5_26.still hbu5_31;refine ⟨_,rfl,hSu5_31,?_⟩;clear hbu5_31;(try simp only [pS]);refine J1 (rs:=[16]) (by kernel_rfl) (by simp) ?_;refine J7 (o:=fq) rfl (fun K hK => ?_) (J6);unfold fq;rw [if_pos (by rfl)];refine bp _ _ rfl gu5_26 (fun _=>0) f rfl rfl ru5_26 hSu5_31 Gu5_26 (fun wu5_32 r0 hSu5_32 => ?_);refine hK.out _ _ hSu5_32 (fun h => ?_);clear h hK K ru5_26;have ru5_26:=r0;clear r0;(try dsimp only [Act.put]);refine J4 (by kernel_rfl) ?_ _;refine J8 ?_;go_wp2;go_meet
    case rel=>exact ⟨gu5_26,rfl,aa hdrew hSu5_32,JY hdrew.size Gu5_26,ru5_26⟩
 case rest =>
 obtain ⟨g111,rfl,hb111,G111,h111⟩:=hcut;have lt6:=h6.lt;replace hpX:=hpX.still hb111;replace hpY:=hpY.still hb111;replace hpZ:=hpZ.still hb111;replace hpT:=hpT.still hb111;replace hqX:=hqX.still hb111;replace hqY:=hqY.still hb111;replace hqZ:=hqZ.still hb111;replace hqT:=hqT.still hb111;replace hd:=hd.still hb111;replace h6:=h6.still hb111;replace h107:=h107.still hb111;replace h108:=h108.still hb111;replace h109:=h109.still hb111;replace h110:=h110.still hb111
 obtain ⟨U5,hU5⟩:∃ W,W=wc:=⟨_,rfl⟩
 rw [←hU5];rw [←hU5] at hpX hpY hpZ hpT hqX hqY hqZ hqT hd h6 h107 h108 h109 h110 h111 hb111;replace hbW:Below w.heap.size w U5:=aa hbW hb111;clear hU5 hb111
 have m6_11:g111≠g6:=by omega
 clear G111 lt6
 go_upto_region 6 with (fail)
 go_cut [12] from 15 (fun s12 wc=>∃ g112,s12 = .pointer (some ⟨g112,0,none⟩)∧Below U5.heap.size U5 wc∧U5.heap.size≤g112∧RW wc g112 0 (aD g))
 case first =>
  clear k1 k2 k3 k4 k5 k6 k7 k8 k9 k10 k12 k13 k14 k15 k16 k17;have r1:=h110.range;have r2:=h109.range
  have kk:∀ W,Calls Tryz.prog 122 #[.agg (aD e0).toArray,.agg (aD c).toArray] W fun e w'=>e = .returned (.agg (aD g).toArray)∧Below W.heap.size W w':=k11
  clear k11 hpX hpY hpZ hpT hqX hqY hqZ hqT hd h6 h107 h108 h109 h110 h111 hzq
  go_wp2_with (first
   | (refine J3 rfl 92 _ rfl g110 0 rfl (aD e0) _ r1 Tryz.underlying92 rfl (aG e0) ?_)
   | (refine J3 rfl 92 _ rfl g109 0 rfl (aD c) _ r2 Tryz.underlying92 rfl (aG c) ?_)
   | (go_at_call 122;refine (kk _).mono ?_;clear kk r1 r2;rintro e w9 ⟨rfl,hb9⟩;(have th:=dx w9);(have th':=dH w9 g))
   | (with_reducible (refine id (?_:wpList _ _ _ _ _ _));refine J2 rfl 92 _ _ rfl w9.heap.size 0 (aD g).toArray rfl rfl th' (bQ g) (fC g) ?_))
  go_meet
  case rel=>exact ⟨w9.heap.size,rfl,ac hb9.size _ _ _ (hb9.alloc hb9.size _),hb9.size,th.stored (aD g) (by rw [ao,ao])⟩
 case rest =>
 obtain ⟨g112,rfl,hb112,G112,h112⟩:=hcut;have lt6:=h6.lt;replace hpX:=hpX.still hb112;replace hpY:=hpY.still hb112;replace hpZ:=hpZ.still hb112;replace hpT:=hpT.still hb112;replace hqX:=hqX.still hb112;replace hqY:=hqY.still hb112;replace hqZ:=hqZ.still hb112;replace hqT:=hqT.still hb112;replace hd:=hd.still hb112;replace h6:=h6.still hb112;replace h107:=h107.still hb112;replace h108:=h108.still hb112;replace h109:=h109.still hb112;replace h110:=h110.still hb112;replace h111:=h111.still hb112
 obtain ⟨U6,hU6⟩:∃ W,W=wc:=⟨_,rfl⟩
 rw [←hU6];rw [←hU6] at hpX hpY hpZ hpT hqX hqY hqZ hqT hd h6 h107 h108 h109 h110 h111 h112 hb112;replace hbW:Below w.heap.size w U6:=aa hbW hb112;clear hU6 hb112
 have m6_12:g112≠g6:=by omega
 clear G112 lt6
 go_upto_region 7 with (fail)
 go_cut [13] from 15 (fun s13 wc=>∃ g113,s13 = .pointer (some ⟨g113,0,none⟩)∧Below U6.heap.size U6 wc∧U6.heap.size≤g113∧RW wc g113 0 (aD h))
 case first =>
  clear k1 k2 k3 k4 k5 k6 k7 k8 k9 k10 k11 k13 k14 k15 k16 k17;have r1:=h110.range;have r2:=h109.range
  have kk:∀ W,Calls Tryz.prog 123 #[.agg (aD e0).toArray,.agg (aD c).toArray] W fun e w'=>e = .returned (.agg (aD h).toArray)∧Below W.heap.size W w':=k12
  clear k12 hpX hpY hpZ hpT hqX hqY hqZ hqT hd h6 h107 h108 h109 h110 h111 h112 hzq
  go_wp2_with (first
   | (refine J3 rfl 92 _ rfl g110 0 rfl (aD e0) _ r1 Tryz.underlying92 rfl (aG e0) ?_)
   | (refine J3 rfl 92 _ rfl g109 0 rfl (aD c) _ r2 Tryz.underlying92 rfl (aG c) ?_)
   | (go_at_call 123;refine (kk _).mono ?_;clear kk r1 r2;rintro e w9 ⟨rfl,hb9⟩;(have th:=dx w9);(have th':=dH w9 h))
   | (with_reducible (refine id (?_:wpList _ _ _ _ _ _));refine J2 rfl 92 _ _ rfl w9.heap.size 0 (aD h).toArray rfl rfl th' (bQ h) (fC h) ?_))
  go_meet
  case rel=>exact ⟨w9.heap.size,rfl,ac hb9.size _ _ _ (hb9.alloc hb9.size _),hb9.size,th.stored (aD h) (by rw [ao,ao])⟩
 case rest =>
 obtain ⟨g113,rfl,hb113,G113,h113⟩:=hcut;have lt6:=h6.lt;replace hpX:=hpX.still hb113;replace hpY:=hpY.still hb113;replace hpZ:=hpZ.still hb113;replace hpT:=hpT.still hb113;replace hqX:=hqX.still hb113;replace hqY:=hqY.still hb113;replace hqZ:=hqZ.still hb113;replace hqT:=hqT.still hb113;replace hd:=hd.still hb113;replace h6:=h6.still hb113;replace h107:=h107.still hb113;replace h108:=h108.still hb113;replace h109:=h109.still hb113;replace h110:=h110.still hb113;replace h111:=h111.still hb113;replace h112:=h112.still hb113
 obtain ⟨U7,hU7⟩:∃ W,W=wc:=⟨_,rfl⟩
 rw [←hU7];rw [←hU7] at hpX hpY hpZ hpT hqX hqY hqZ hqT hd h6 h107 h108 h109 h110 h111 h112 h113 hb113;replace hbW:Below w.heap.size w U7:=aa hbW hb113;clear hU7 hb113
 have m6_13:g113≠g6:=by omega
 clear G113 lt6
 go_upto_region 8 with (fail)
 go_cut [14] from 15 (fun s14 wc=>∃ g114,s14 = .pointer (some ⟨g114,0,none⟩)∧Below U7.heap.size U7 wc∧U7.heap.size≤g114∧RW wc g114 0 (aD s))
 case first =>
  clear k1 k2 k3 k4 k5 k6 k7 k8 k9 k10 k11 k12 k14 k15 k16 k17;have r1:=h108.range;have r2:=h107.range
  have kk:∀ W,Calls Tryz.prog 123 #[.agg (aD b).toArray,.agg (aD a).toArray] W fun e w'=>e = .returned (.agg (aD s).toArray)∧Below W.heap.size W w':=k13
  clear k13 hpX hpY hpZ hpT hqX hqY hqZ hqT hd h6 h107 h108 h109 h110 h111 h112 h113 hzq
  go_wp2_with (first
   | (refine J3 rfl 92 _ rfl g108 0 rfl (aD b) _ r1 Tryz.underlying92 rfl (aG b) ?_)
   | (refine J3 rfl 92 _ rfl g107 0 rfl (aD a) _ r2 Tryz.underlying92 rfl (aG a) ?_)
   | (go_at_call 123;refine (kk _).mono ?_;clear kk r1 r2;rintro e w9 ⟨rfl,hb9⟩;(have th:=dx w9);(have th':=dH w9 s))
   | (with_reducible (refine id (?_:wpList _ _ _ _ _ _));refine J2 rfl 92 _ _ rfl w9.heap.size 0 (aD s).toArray rfl rfl th' (bQ s) (fC s) ?_))
  go_meet
  case rel=>exact ⟨w9.heap.size,rfl,ac hb9.size _ _ _ (hb9.alloc hb9.size _),hb9.size,th.stored (aD s) (by rw [ao,ao])⟩
 case rest =>
 obtain ⟨g114,rfl,hb114,G114,h114⟩:=hcut;have lt6:=h6.lt;replace hpX:=hpX.still hb114;replace hpY:=hpY.still hb114;replace hpZ:=hpZ.still hb114;replace hpT:=hpT.still hb114;replace hqX:=hqX.still hb114;replace hqY:=hqY.still hb114;replace hqZ:=hqZ.still hb114;replace hqT:=hqT.still hb114;replace hd:=hd.still hb114;replace h6:=h6.still hb114;replace h107:=h107.still hb114;replace h108:=h108.still hb114;replace h109:=h109.still hb114;replace h110:=h110.still hb114;replace h111:=h111.still hb114;replace h112:=h112.still hb114;replace h113:=h113.still hb114
 obtain ⟨U8,hU8⟩:∃ W,W=wc:=⟨_,rfl⟩
 rw [←hU8];rw [←hU8] at hpX hpY hpZ hpT hqX hqY hqZ hqT hd h6 h107 h108 h109 h110 h111 h112 h113 h114 hb114;replace hbW:Below w.heap.size w U8:=aa hbW hb114;clear hU8 hb114
 have m6_14:g114≠g6:=by omega
 clear G114 lt6
 go_upto_region 9 with (fail)
 have l6:=h6.lt;clear k1 k2 k3 k4 k5 k6 k7 k8 k9 k10 k11 k12 k13 hpX hpY hpZ hpT hqX hqY hqZ hqT hd h107 h108 h109 h110;have hdrew:Below U8.heap.size U8 U8.drew:=(Below.refl _ _).drew;replace h6:=h6.still hdrew;replace h111:=h111.still hdrew;replace h112:=h112.still hdrew;replace h113:=h113.still hdrew;replace h114:=h114.still hdrew;refine wp_region_noPanic ?_;replace l6:=JX l6 hdrew.size;refine wp_region_held_drew (S:=fun w'=>aT g6 0 64 U8.drew w') (by kernel_rfl) (aT.refl _ _ _ _) (fun hS => ?_);generalize U8.drew=Vu9_ at *;refine tk 0 (rV f) hS (hy:=(gQ h111 m6_11 92 11 Tryz.underlying92 (aG _))) (h := ?_);(try simp only [pS]);refine tk 1 (rV g) hS (hy:=(gQ h112 m6_12 92 12 Tryz.underlying92 (aG _))) (h := ?_);(try simp only [pS]);refine tk 3 (rV h) hS (hy:=(gQ h113 m6_13 92 13 Tryz.underlying92 (aG _))) (h := ?_);(try simp only [pS]);refine tk 4 (rV s) hS (hy:=(gQ h114 m6_14 92 14 Tryz.underlying92 (aG _))) (h := ?_);(try simp only [pS]);refine tk 6 (rV g) hS (hy:=(gQ h112 m6_12 92 12 Tryz.underlying92 (aG _))) (h := ?_);(try simp only [pS]);refine tk 7 (rV h) hS (hy:=(gQ h113 m6_13 92 13 Tryz.underlying92 (aG _))) (h := ?_);(try simp only [pS]);refine tk 9 (rV f) hS (hy:=(gQ h111 m6_11 92 11 Tryz.underlying92 (aG _))) (h := ?_);(try simp only [pS]);refine tk 10 (rV s) hS (hy:=(gQ h114 m6_14 92 14 Tryz.underlying92 (aG _))) (h := ?_);(try simp only [pS]);refine cl 2 (k14 _) ?_
 (rintro e wu9_1 ⟨rfl,hbu9_1⟩)
 have hSu9_1:=hS.trans (aT.of_below hbu9_1 l6);replace l6:=JX l6 hbu9_1.size;replace h6:=h6.still hbu9_1;refine ⟨_,rfl,hSu9_1,?_⟩;clear hbu9_1;(try simp only [pS]);refine cl 5 (k15 _) ?_
 (rintro e wu9_2 ⟨rfl,hbu9_2⟩)
 have hSu9_2:=hSu9_1.trans (aT.of_below hbu9_2 l6);replace l6:=JX l6 hbu9_2.size;replace h6:=h6.still hbu9_2;refine ⟨_,rfl,hSu9_2,?_⟩;clear hbu9_2;(try simp only [pS]);refine cl 8 (k16 _) ?_
 (rintro e wu9_3 ⟨rfl,hbu9_3⟩)
 have hSu9_3:=hSu9_2.trans (aT.of_below hbu9_3 l6);replace l6:=JX l6 hbu9_3.size;replace h6:=h6.still hbu9_3;refine ⟨_,rfl,hSu9_3,?_⟩;clear hbu9_3;(try simp only [pS]);refine cl 11 (k17 _) ?_
 (rintro e wu9_4 ⟨rfl,hbu9_4⟩)
 have hSu9_4:=hSu9_3.trans (aT.of_below hbu9_4 l6);replace l6:=JX l6 hbu9_4.size;replace h6:=h6.still hbu9_4;refine ⟨_,rfl,hSu9_4,?_⟩;clear hbu9_4;(try simp only [pS]);refine tk 12 (qV o1 o2 o3 o4) hSu9_4 (hy:=(eR (by rfl) 94 _ _ _ _ rfl (rV o1) (rV o2) (rV o3) (rV o4) rfl rfl rfl rfl _ (CJ _ _ _ _))) (h := ?_);(try simp only [pS]);refine J1 (rs:=[13]) (by kernel_rfl) (by simp) ?_;refine J7 (o:=Cb) rfl (fun K hK => ?_) (J6);unfold Cb;rw [if_pos (by rfl)];refine wp_store_mid 94 _ _ rfl g6 0 (aW o1 o2 o3 o4).toArray rfl rfl (bj h6) (bt _ _ _ _) (eq _ _ _ _) ?_;have hSu9_5:=hSu9_4.trans (aT.setCells (b:=g6) (o:=0) (n:=64) wu9_4 (aW o1 o2 o3 o4) (JW _) (by rw [ge];exact JW _));replace h6:=h6.stored (aW o1 o2 o3 o4) (bk _ _ _ _ _ _ _ _)
 obtain ⟨wu9_5,hwu9_5⟩:∃ W,wu9_4.setCells g6 0 (aW o1 o2 o3 o4)=W:=⟨_,rfl⟩
 rw [hwu9_5] at h6;rw [hwu9_5] at hSu9_5;rw [show wu9_4.setCells g6 0 (aW o1 o2 o3 o4).toArray.toList=wu9_5 from hwu9_5];refine hK.out _ _ hSu9_5 (fun h => ?_);clear h hK K hwu9_5;(try dsimp only [Act.put]);refine J4 (by kernel_rfl) ?_ _;refine J8 ?_;clear k14 k15 k16 k17;have fin:=(hbW.trans (hdrew.mono hbW.size)).trans (hSu9_5.below w6 (JY hbW.size hdrew.size));go_wp2;exact bodyPost_ret (ai Tryz.results60 _ _ g6 0 (aW o1 o2 o3 o4) _ rfl h6.range Tryz.underlying94 rfl (dQ _ _ _ _)) rfl ⟨rfl,fin⟩
end Go.Proofs.YtibdhadbflfdpaaGreatDoor
