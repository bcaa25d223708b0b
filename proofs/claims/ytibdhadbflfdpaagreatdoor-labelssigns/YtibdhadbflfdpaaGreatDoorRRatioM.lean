/- What the proof stands on: RRatio, REnc6. -/
import Derived.Test.YtibdhadbflfdpaaGreatDoorPNumM
import Derived.Test.YtibdhadbflfdpaaGreatDoorRPlus6AM
import Derived.Test.YtibdhadbflfdpaaGreatDoorRefOneM
namespace Go.Proofs.YtibdhadbflfdpaaGreatDoor
open Nat renaming le_refl → JW
open Nat renaming le_trans → JY
open Go renaming wpAnyH_ready → J1
open Go renaming wpList_store_mid → J2
open Go renaming wpList_load_mid → J3
open Go renaming wpAnyH_done → J4
open Go.AllReadyH renaming nil → J6
open Go.AllReadyH renaming cons → J7
open Go.NoPanic renaming normal → J8
open Go.RowKit
theorem iW (n:Nat):bf n 0%2=n%2:=by unfold bf;simp only [Nat.pow_zero,Nat.div_one];omega
theorem Cf {n:Nat} (h:(n%2 == 1)=true):((bf n 0:Nat):Int)%2=1:=by
 have h1:=iW n
 have h2:n%2=1:=by simpa using h
 omega
theorem zq {n:Nat} (h:(n%2 == 1)=false):¬(((bf n 0:Nat):Int)%2=1):=by
 have h1:=iW n
 have h2:¬(n%2=1):=by simpa using h
 omega
abbrev qK:Oper:=oN 6 (Op.alloc 92) 0 "ref.go:177" #[]
abbrev FF:Oper:=oN 10 (dA 126 #[oT 9] #[92]) 92 "ref.go:177" #[jD 1]
abbrev Fj:Oper:=oN 11 (dA 120 #[oT 8,oT 10] #[92,92]) 92 "ref.go:177" #[jD 0,jD 2,jC 2]
abbrev qi:Oper:=oS (Op.store 92 (oT 6) (oT 11)) "ref.go:177" #[jD 4,jD 3,jC 3,jP 0,jP 1,jP 2,jP 3,jP 4]
set_option maxRecDepth 20000 in
set_option maxHeartbeats 16000000 in
theorem vZ (U V:Nat→Int) (vi q y z zz zc nz:Nat) (b1 b2 b3:Bool)
 (kI:∀ W,Calls Tryz.prog 126 #[.agg (aD V).toArray] W fun e w'=>∃ R,e = .returned (.agg (aD R).toArray)∧Rep R vi∧Below W.heap.size W w')
 (kQ:∀ R,Rep R vi→∀ W,Calls Tryz.prog 120 #[.agg (aD U).toArray,.agg (aD R).toArray] W fun e w'=>∃ R,e = .returned (.agg (aD R).toArray)∧Rep R q∧Below W.heap.size W w')
 (kP:∀ Q,Rep Q q→∀ W,Calls Tryz.prog 179 #[.agg (aD Q).toArray,.int .i64 252,.int .i64 14,.int .i64 4] W fun e w'=>∃ R,e = .returned (.agg (aD R).toArray)∧Rep R y∧Below W.heap.size W w')
 (kF:∀ Y Q,Rep Y y→Rep Q q→∀ W,Calls Tryz.prog 180 #[.agg (aD Y).toArray,.agg (aD Q).toArray] W fun e w'=>∃ R,e = .returned (.agg (aD R).toArray)∧Rep R z∧Below W.heap.size W w')
 (kT:∀ Z,Rep Z z→∀ W,Calls Tryz.prog 120 #[.agg (aD Z).toArray,.agg (aD Z).toArray] W fun e w'=>∃ R,e = .returned (.agg (aD R).toArray)∧Rep R zz∧Below W.heap.size W w')
 (kS1:∀ R Q,Rep R zz→Rep Q q→∀ W,Calls Tryz.prog 124 #[.agg (aD R).toArray,.agg (aD Q).toArray] W fun e w'=>e = .returned (.bool b1)∧Below W.heap.size W w')
 (kO:∀ W,Calls Tryz.prog 119 #[.int .i64 0] W fun e w'=>∃ R,e = .returned (.agg (aD R).toArray)∧Rep R 0∧Below W.heap.size W w')
 (kS2:∀ O,Rep O 0→∀ W,Calls Tryz.prog 124 #[.agg (aD V).toArray,.agg (aD O).toArray] W fun e w'=>e = .returned (.bool b2)∧Below W.heap.size W w')
 (kS3:∀ O,Rep O 0→∀ W,Calls Tryz.prog 124 #[.agg (aD U).toArray,.agg (aD O).toArray] W fun e w'=>e = .returned (.bool b3)∧Below W.heap.size W w')
 (kB:∀ Z,Rep Z z→∀ W,Calls Tryz.prog 118 #[.agg (aD Z).toArray] W fun e w'=>∃ s,e = .returned s∧ae w' s 32 (bf zc)∧Below W.heap.size W w')
 (kM:∀ O Z,Rep O 0→Rep Z z→∀ W,Calls Tryz.prog 122 #[.agg (aD O).toArray,.agg (aD Z).toArray] W fun e w'=>∃ R,e = .returned (.agg (aD R).toArray)∧Rw R nz∧Below W.heap.size W w')
 (w:World) :
 Calls Tryz.prog 121 #[rV U,rV V] w fun e w'=>∃ R,e = .returned (.tuple #[rV R,.bool (b1 && !(b2 && !b3))])∧Rw R (if (b1 && !(b2 && !b3))=true then (if zc%2=1 then nz else z) else 0)∧Below w.heap.size w w':=by
 have hz:=dC
 obtain ⟨V1,g2,e1,hg2,c1,hU⟩:∃ V g,w.alloc (.cells (aD U).toArray 92)=V∧w.heap.size=g∧Below w.heap.size w V∧RW V g 0 (aD U):=⟨_,_,rfl,rfl,(Below.refl _ _).alloc (JW _) _,RW.fresh w _ _⟩
 obtain ⟨V2,g3,e2,hg3,c2,hV⟩:∃ V' g,V1.alloc (.cells (aD V).toArray 92)=V'∧V1.heap.size=g∧Below V1.heap.size V1 V'∧RW V' g 0 (aD V):=⟨_,_,rfl,rfl,(Below.refl _ _).alloc (JW _) _,RW.fresh V1 _ _⟩
 obtain ⟨W,g4,e3,hg4,c3,h4⟩:=dj V2
 have t1:V1.heap.size=w.heap.size+1:=by rw [←e1];simp
 have t2':V2.heap.size=V1.heap.size+1:=by rw [←e2];simp
 have HW:Hid (W=((w.alloc (.cells (aD U).toArray 92)).alloc (.cells (aD V).toArray 92)).alloc (.cells zI 92)):=Hid.mk' (by rw [←e3,←e2,←e1]);have q2:Hid (w.heap.size=g2):=Hid.mk' hg2;have q3:Hid (w.heap.size+1=g3):=Hid.mk' (by omega);have q4:Hid (w.heap.size+1+1=g4):=Hid.mk' (by omega);replace hU:=(hU.still c2).still c3;replace hV:=hV.still c3;have hbW:Below w.heap.size w W:=(c1.trans (c2.mono (by omega))).trans (c3.mono (by omega))
 have w4:w.heap.size≤g4:=by omega
 have n24:g2≠g4:=by omega
 have n34:g3≠g4:=by omega
 clear e1 e2 e3 hg2 hg3 hg4 c1 c2 c3 t1 t2' V1 V2
 obtain ⟨ok,hok⟩:∃ ok,ok=(b1 && !(b2 && !b3)):=⟨_,rfl⟩
 obtain ⟨res,hres⟩:∃ r,r=(if ok=true then (if zc%2=1 then nz else z) else 0):=⟨_,rfl⟩
 rw [←hok,←hres];have Hok:=Hid.mk' hok;have Hres:=Hid.mk' hres;clear hok hres;rw [show rV U = .agg (aD U).toArray from rfl,show rV V = .agg (aD V).toArray from rfl];go_enter Tryz.func121,Tryz.ntmps121
 go_upto_region 1 with (fail)
 rw [←HW.out,q4.out,q3.out,q2.out];clear HW q2 q3 q4
 go_cut [6] from 8 (fun s6 wc=>∃ g106 Q,s6 = .pointer (some ⟨g106,0,none⟩)∧Rep Q q∧Below W.heap.size W wc∧W.heap.size≤g106∧RW wc g106 0 (aD Q))
 case first =>
  clear kP kF kT kS1 kO kS2 kS3 kB kM;have hdrew:Below W.heap.size W W.drew:=(Below.refl _ _).drew;replace hU:=hU.still hdrew;replace hV:=hV.still hdrew;replace h4:=h4.still hdrew;refine wp_region_noPanic ?_;refine wp_region_held_drew (S:=fun w'=>Below W.drew.heap.size W.drew w') (by kernel_rfl) (Below.refl _ _) (fun hS => ?_);generalize W.drew=Vx1_ at *;refine tk 0 (rV U) hS (hy:=(d9 hU 92 2 Tryz.underlying92 (aG _))) (h := ?_);(try simp only [pS]);refine tk 1 (rV V) hS (hy:=(d9 hV 92 3 Tryz.underlying92 (aG _))) (h := ?_);(try simp only [pS]);refine J1 (rs:=[2,4]) (by kernel_rfl) (by simp) ?_;refine J7 (o:=FF) rfl (fun K hK => ?_) (J7 (o:=qK) rfl (fun K hK => ?_) (J6))
  · unfold FF
    go_simp;(go_at_call 126;refine (kI _).mono ?_;rintro e wx1_1 ⟨R1,rfl,hR1,hbx1_1⟩);(try go_simp);have hSx1_1:=aa hS hbx1_1;refine hK.out _ _ hSx1_1 (fun h => ?_);clear h hK K hbx1_1;(try simp only [pS]);refine J1 (rs:=[3,4]) (by kernel_rfl) (by simp) ?_;refine J7 (o:=Fj) rfl (fun K hK => ?_) (J7 (o:=qK) rfl (fun K hK => ?_) (J6))
    · unfold Fj
      go_simp;(go_at_call 120;refine (kQ R1 hR1 _).mono ?_;rintro e wx1_2 ⟨Q,rfl,hQ,hbx1_2⟩);(try go_simp);have hSx1_2:=aa hSx1_1 hbx1_2;refine hK.out _ _ hSx1_2 (fun h => ?_);clear h hK K hbx1_2;(try simp only [pS]);refine J1 (rs:=[4]) (by kernel_rfl) (by simp) ?_;refine J7 (o:=qK) rfl (fun K hK => ?_) (J6);unfold qK;go_simp;obtain ⟨wx1_3,gx1_3,hwx1_3,hgx1_3,hbx1_3,rx1_3⟩:=dj wx1_2;rw [hwx1_3,hgx1_3];have hSx1_3:=aa hSx1_2 hbx1_3
      have Gx1_3:Vx1_.heap.size≤gx1_3:=by have:=hSx1_2.size;omega
      refine hK.out _ _ hSx1_3 (fun h => ?_);clear h hK K hbx1_3 hwx1_3 hgx1_3;(try simp only [pS]);refine J1 (rs:=[5]) (by kernel_rfl) (by simp) ?_;refine J7 (o:=qi) rfl (fun K hK => ?_) (J6);unfold qi;rw [if_pos (by rfl)];refine bp _ _ rfl gx1_3 (fun _=>0) Q rfl rfl rx1_3 hSx1_3 Gx1_3 (fun wx1_4 r0 hSx1_4 => ?_);refine hK.out _ _ hSx1_4 (fun h => ?_);clear h hK K rx1_3;have rx1_3:=r0;clear r0;(try dsimp only [Act.put]);refine J4 (by kernel_rfl) ?_ _;refine J8 ?_;go_wp2;go_meet
      case rel=>exact ⟨gx1_3,Q,rfl,hQ,aa hdrew hSx1_4,JY hdrew.size Gx1_3,rx1_3⟩
    · unfold qK
      go_simp;obtain ⟨wx1_5,gx1_5,hwx1_5,hgx1_5,hbx1_5,rx1_5⟩:=dj wx1_1;rw [hwx1_5,hgx1_5];have hSx1_5:=aa hSx1_1 hbx1_5
      have Gx1_5:Vx1_.heap.size≤gx1_5:=by have:=hSx1_1.size;omega
      refine hK.out _ _ hSx1_5 (fun h => ?_);clear h hK K hbx1_5 hwx1_5 hgx1_5;(try simp only [pS]);refine cl 3 (kQ R1 hR1 _) ?_
      (rintro e wx1_6 ⟨Q,rfl,hQ,hbx1_6⟩)
      have hSx1_6:=aa hSx1_5 hbx1_6;replace rx1_5:=rx1_5.still hbx1_6;refine ⟨_,rfl,hSx1_6,?_⟩;clear hbx1_6;(try simp only [pS]);refine J1 (rs:=[5]) (by kernel_rfl) (by simp) ?_;refine J7 (o:=qi) rfl (fun K hK => ?_) (J6);unfold qi;rw [if_pos (by rfl)];refine bp _ _ rfl gx1_5 (fun _=>0) Q rfl rfl rx1_5 hSx1_6 Gx1_5 (fun wx1_7 r0 hSx1_7 => ?_);refine hK.out _ _ hSx1_7 (fun h => ?_);clear h hK K rx1_5;have rx1_5:=r0;clear r0;(try dsimp only [Act.put]);refine J4 (by kernel_rfl) ?_ _;refine J8 ?_;go_wp2;go_meet
      case rel=>exact ⟨gx1_5,Q,rfl,hQ,aa hdrew hSx1_7,JY hdrew.size Gx1_5,rx1_5⟩
  · unfold qK
    go_simp;obtain ⟨wx1_8,gx1_8,hwx1_8,hgx1_8,hbx1_8,rx1_8⟩:=dj Vx1_;rw [hwx1_8,hgx1_8];have hSx1_8:=aa hS hbx1_8
    have Gx1_8:Vx1_.heap.size≤gx1_8:=by have:=hS.size;omega
    refine hK.out _ _ hSx1_8 (fun h => ?_);clear h hK K hbx1_8 hwx1_8 hgx1_8;(try simp only [pS]);refine cl 2 (kI _) ?_
    (rintro e wx1_9 ⟨R1,rfl,hR1,hbx1_9⟩)
    have hSx1_9:=aa hSx1_8 hbx1_9;replace rx1_8:=rx1_8.still hbx1_9;refine ⟨_,rfl,hSx1_9,?_⟩;clear hbx1_9;(try simp only [pS]);refine cl 3 (kQ R1 hR1 _) ?_
    (rintro e wx1_10 ⟨Q,rfl,hQ,hbx1_10⟩)
    have hSx1_10:=aa hSx1_9 hbx1_10;replace rx1_8:=rx1_8.still hbx1_10;refine ⟨_,rfl,hSx1_10,?_⟩;clear hbx1_10;(try simp only [pS]);refine J1 (rs:=[5]) (by kernel_rfl) (by simp) ?_;refine J7 (o:=qi) rfl (fun K hK => ?_) (J6);unfold qi;rw [if_pos (by rfl)];refine bp _ _ rfl gx1_8 (fun _=>0) Q rfl rfl rx1_8 hSx1_10 Gx1_8 (fun wx1_11 r0 hSx1_11 => ?_);refine hK.out _ _ hSx1_11 (fun h => ?_);clear h hK K rx1_8;have rx1_8:=r0;clear r0;(try dsimp only [Act.put]);refine J4 (by kernel_rfl) ?_ _;refine J8 ?_;go_wp2;go_meet
    case rel=>exact ⟨gx1_8,Q,rfl,hQ,aa hdrew hSx1_11,JY hdrew.size Gx1_8,rx1_8⟩
 case rest =>
 obtain ⟨g106,Q,rfl,hQ,hb106,G106,h106⟩:=hcut;have lt4:=h4.lt;replace hU:=hU.still hb106;replace hV:=hV.still hb106;replace h4:=h4.still hb106
 obtain ⟨U1,hU1⟩:∃ W,W=wc:=⟨_,rfl⟩
 rw [←hU1];rw [←hU1] at hU hV h4 h106 hb106;replace hbW:Below w.heap.size w U1:=aa hbW hb106
 have n4_106:g106≠g4:=by omega
 clear hU1 hb106 G106 lt4
 go_upto_region 2 with (fail)
 go_cut [7] from 8 (fun s7 wc=>∃ g107 Y,s7 = .pointer (some ⟨g107,0,none⟩)∧Rep Y y∧Below U1.heap.size U1 wc∧U1.heap.size≤g107∧RW wc g107 0 (aD Y))
 case first =>
  clear kI kQ kF kT kS1 kO kS2 kS3 kB kM;have r1:=h106.range;replace kP:=kP Q hQ
  go_wp2_with (first
   | (refine J3 rfl 92 _ rfl g106 0 rfl (aD Q) _ r1 Tryz.underlying92 rfl (aG Q) ?_)
   | (go_at_call 179;refine (kP _).mono ?_;clear kP r1;rintro e w9 ⟨Y,rfl,hY,hb9⟩;(have th:=dx w9);(have th':=dH w9 Y))
   | (with_reducible (refine id (?_:wpList _ _ _ _ _ _));refine J2 rfl 92 _ _ rfl w9.heap.size 0 (aD Y).toArray rfl rfl th' (bQ Y) (fC Y) ?_))
  go_meet
  case rel=>exact ⟨w9.heap.size,Y,rfl,hY,ac hb9.size _ _ _ (hb9.alloc hb9.size _),hb9.size,th.stored (aD Y) (by rw [ao,ao])⟩
 case rest =>
 obtain ⟨g107,Y,rfl,hY,hb107,G107,h107⟩:=hcut;have lt4:=h4.lt;have lt6:=h106.lt;have lt2:=hU.lt;have lt3:=hV.lt;replace hU:=hU.still hb107;replace hV:=hV.still hb107;replace h4:=h4.still hb107;replace h106:=h106.still hb107
 obtain ⟨U2,hU2⟩:∃ W,W=wc:=⟨_,rfl⟩
 rw [←hU2];rw [←hU2] at hU hV h4 h106 h107 hb107;replace hbW:Below w.heap.size w U2:=aa hbW hb107
 have n4_107:g107≠g4:=by omega
 have n67:g106≠g107:=by omega
 have n27:g2≠g107:=by omega
 have n37:g3≠g107:=by omega
 have w107:w.heap.size≤g107:=JY (JY w4 (Nat.le_of_lt lt4)) G107;clear lt6 lt2 lt3;clear hU2 hb107 G107 lt4
 go_upto_region 3 with (fail)
 replace kF:=kF Y Q hY hQ;have r6:=h106.range;have r7:=h107.range
 go_upto_region 4 with (first
  | (refine J3 rfl 92 _ rfl g107 0 rfl (aD Y) _ r7 Tryz.underlying92 rfl (aG Y) ?_)
  | (refine J3 rfl 92 _ rfl g106 0 rfl (aD Q) _ r6 Tryz.underlying92 rfl (aG Q) ?_)
  | (go_at_call 180;refine (kF _).mono ?_;clear kF r6 r7;rintro e w3 ⟨Z,rfl,hZ,hb3⟩;(replace hU:=hU.still hb3);(replace hV:=hV.still hb3);(replace h4:=h4.still hb3);(replace h106:=h106.still hb3);(replace h107:=h107.still hb3);(replace hbW:=aa hbW hb3);clear hb3;(have t7:w3.there g107 0 (aD Z).toArray.size:=by have:=h107.there;rw [ao] at this;rw [List.size_toArray,ao];exact this);(obtain ⟨V3,hV3⟩:∃ V,V=w3.setCells g107 0 (aD Z):=⟨_,rfl⟩);(replace h107:=h107.stored (aD Z) (by rw [ao,ao]));(replace hU:=hU.far g107 0 (aD Z) (.inl n27));(replace hV:=hV.far g107 0 (aD Z) (.inl n37));(replace h106:=h106.far g107 0 (aD Z) (.inl n67));(replace h4:=h4.far g107 0 (aD Z) (.inl n4_107.symm));(replace hbW:=ac w107 (aD Z) 0 _ hbW);rw [←hV3] at h107 hU hV h106 h4 hbW;(have H3:=Hid.mk' hV3);clear hV3)
  | (with_reducible (refine id (?_:wpList _ _ _ _ _ _));refine J2 rfl 92 _ _ rfl g107 0 (aD Z).toArray rfl rfl t7 (bQ Z) (fC Z) ?_;rw [List.toList_toArray,←H3.out];clear t7 H3))
 (try dsimp only [Act.put]);replace kT:=kT Z hZ;clear kI kQ kP hY
 go_cut [33] from 8 (fun s33 wc=>s33 = .bool (!ok)∧Below V3.heap.size V3 wc)
 case first =>
  clear kB kM Hres
  cases b1 with
  | false =>
   have hdrew:Below V3.heap.size V3 V3.drew:=(Below.refl _ _).drew;replace hU:=hU.still hdrew;replace hV:=hV.still hdrew;replace h106:=h106.still hdrew;replace h107:=h107.still hdrew;refine wp_region_noPanic ?_;refine wp_region_held_drew (S:=fun w'=>Below V3.drew.heap.size V3.drew w') (by kernel_rfl) (Below.refl _ _) (fun hS => ?_);generalize V3.drew=Vxa_ at *;refine tk 0 (rV Z) hS (hy:=(d9 h107 92 7 Tryz.underlying92 (aG _))) (h := ?_);(try simp only [pS]);refine tk 1 (rV Z) hS (hy:=(d9 h107 92 7 Tryz.underlying92 (aG _))) (h := ?_);(try simp only [pS]);refine tk 3 (rV Q) hS (hy:=(d9 h106 92 6 Tryz.underlying92 (aG _))) (h := ?_);(try simp only [pS]);refine cl 2 (kT _) ?_;(clear kT;rintro e wxa_1 ⟨R1,rfl,hR1,hbxa_1⟩;replace kS1:=kS1 R1 Q hR1 hQ);have hSxa_1:=aa hS hbxa_1;refine ⟨_,rfl,hSxa_1,?_⟩;clear hbxa_1;(try simp only [pS]);refine cl 4 (kS1 _) ?_;(clear kS1;rintro e wxa_2 ⟨rfl,hbxa_2⟩);have hSxa_2:=aa hSxa_1 hbxa_2;refine ⟨_,rfl,hSxa_2,?_⟩;clear hbxa_2;(try simp only [pS]);refine tg 5 hSxa_2 ?_;(try simp only [pS]);refine tg 6 hSxa_2 ?_;(try simp only [pS]);refine tk 7 undef hSxa_2 (hy:=(Or.inr ⟨by rfl,rfl⟩)) (h := ?_);(try simp only [pS]);refine tk 8 undef hSxa_2 (hy:=(Or.inr ⟨by rfl,rfl⟩)) (h := ?_);(try simp only [pS]);refine tk 9 undef hSxa_2 (hy:=(Or.inr ⟨by rfl,rfl⟩)) (h := ?_);(try simp only [pS]);refine tk 10 undef hSxa_2 (hy:=(Or.inr ⟨by rfl,rfl⟩)) (h := ?_);(try simp only [pS]);refine tk 11 undef hSxa_2 (hy:=(Or.inr ⟨by rfl,rfl⟩)) (h := ?_);(try simp only [pS]);refine tk 12 undef hSxa_2 (hy:=(Or.inr ⟨by rfl,rfl⟩)) (h := ?_);(try simp only [pS]);refine tk 13 undef hSxa_2 (hy:=(Or.inr ⟨by rfl,rfl⟩)) (h := ?_);(try simp only [pS]);refine tk 14 undef hSxa_2 (hy:=(Or.inr ⟨by rfl,rfl⟩)) (h := ?_);(try simp only [pS]);refine tk 15 undef hSxa_2 (hy:=(Or.inr ⟨by rfl,rfl⟩)) (h := ?_);(try simp only [pS]);refine tg 16 hSxa_2 ?_;(try simp only [pS]);refine J4 (by kernel_rfl) ?_ _;refine J8 ?_;go_wp2;go_meet
   case rel=>exact ⟨by rw [Hok.out];rfl,aa hdrew hSxa_2⟩
  | true =>
   cases b2 with
   | false =>
    have hdrew:Below V3.heap.size V3 V3.drew:=(Below.refl _ _).drew;replace hU:=hU.still hdrew;replace hV:=hV.still hdrew;replace h106:=h106.still hdrew;replace h107:=h107.still hdrew;refine wp_region_noPanic ?_;refine wp_region_held_drew (S:=fun w'=>Below V3.drew.heap.size V3.drew w') (by kernel_rfl) (Below.refl _ _) (fun hS => ?_);generalize V3.drew=Vxb_ at *;refine tk 0 (rV Z) hS (hy:=(d9 h107 92 7 Tryz.underlying92 (aG _))) (h := ?_);(try simp only [pS]);refine tk 1 (rV Z) hS (hy:=(d9 h107 92 7 Tryz.underlying92 (aG _))) (h := ?_);(try simp only [pS]);refine tk 3 (rV Q) hS (hy:=(d9 h106 92 6 Tryz.underlying92 (aG _))) (h := ?_);(try simp only [pS]);refine cl 2 (kT _) ?_;(clear kT;rintro e wxb_1 ⟨R1,rfl,hR1,hbxb_1⟩;replace kS1:=kS1 R1 Q hR1 hQ);have hSxb_1:=aa hS hbxb_1;refine ⟨_,rfl,hSxb_1,?_⟩;clear hbxb_1;(try simp only [pS]);refine cl 4 (kS1 _) ?_;(clear kS1;rintro e wxb_2 ⟨rfl,hbxb_2⟩);have hSxb_2:=aa hSxb_1 hbxb_2;refine ⟨_,rfl,hSxb_2,?_⟩;clear hbxb_2;(try simp only [pS]);refine tg 5 hSxb_2 ?_;(try simp only [pS]);refine tg 6 hSxb_2 ?_;(try simp only [pS]);refine tk 7 (rV V) hSxb_2 (hy:=(d9 hV 92 3 Tryz.underlying92 (aG _))) (h := ?_);(try simp only [pS]);refine cl 8 (kO _) ?_
    (rintro e wxb_5 ⟨O1,rfl,hO1,hbxb_5⟩)
    have hSxb_5:=aa hSxb_2 hbxb_5;refine ⟨_,rfl,hSxb_5,?_⟩;clear hbxb_5;(try simp only [pS]);refine cl 9 (kS2 O1 hO1 _) ?_;(clear kS2;rintro e wxb_6 ⟨rfl,hbxb_6⟩);have hSxb_6:=aa hSxb_5 hbxb_6;refine ⟨_,rfl,hSxb_6,?_⟩;clear hbxb_6;(try simp only [pS]);refine tg 10 hSxb_6 ?_;(try simp only [pS]);refine tk 11 undef hSxb_6 (hy:=(Or.inr ⟨by rfl,rfl⟩)) (h := ?_);(try simp only [pS]);refine tk 12 undef hSxb_6 (hy:=(Or.inr ⟨by rfl,rfl⟩)) (h := ?_);(try simp only [pS]);refine tk 13 undef hSxb_6 (hy:=(Or.inr ⟨by rfl,rfl⟩)) (h := ?_);(try simp only [pS]);refine tk 14 undef hSxb_6 (hy:=(Or.inr ⟨by rfl,rfl⟩)) (h := ?_);(try simp only [pS]);refine tg 15 hSxb_6 ?_;(try simp only [pS]);refine tg 16 hSxb_6 ?_;(try simp only [pS]);refine J4 (by kernel_rfl) ?_ _;refine J8 ?_;go_wp2;go_meet
    case rel=>exact ⟨by rw [Hok.out];rfl,aa hdrew hSxb_6⟩
   | true =>
    cases b3 with
    | false =>
     have hdrew:Below V3.heap.size V3 V3.drew:=(Below.refl _ _).drew;replace hU:=hU.still hdrew;replace hV:=hV.still hdrew;replace h106:=h106.still hdrew;replace h107:=h107.still hdrew;refine wp_region_noPanic ?_;refine wp_region_held_drew (S:=fun w'=>Below V3.drew.heap.size V3.drew w') (by kernel_rfl) (Below.refl _ _) (fun hS => ?_);generalize V3.drew=Vxc_ at *;refine tk 0 (rV Z) hS (hy:=(d9 h107 92 7 Tryz.underlying92 (aG _))) (h := ?_);(try simp only [pS]);refine tk 1 (rV Z) hS (hy:=(d9 h107 92 7 Tryz.underlying92 (aG _))) (h := ?_);(try simp only [pS]);refine tk 3 (rV Q) hS (hy:=(d9 h106 92 6 Tryz.underlying92 (aG _))) (h := ?_);(try simp only [pS]);refine cl 2 (kT _) ?_;(clear kT;rintro e wxc_1 ⟨R1,rfl,hR1,hbxc_1⟩;replace kS1:=kS1 R1 Q hR1 hQ);have hSxc_1:=aa hS hbxc_1;refine ⟨_,rfl,hSxc_1,?_⟩;clear hbxc_1;(try simp only [pS]);refine cl 4 (kS1 _) ?_;(clear kS1;rintro e wxc_2 ⟨rfl,hbxc_2⟩);have hSxc_2:=aa hSxc_1 hbxc_2;refine ⟨_,rfl,hSxc_2,?_⟩;clear hbxc_2;(try simp only [pS]);refine tg 5 hSxc_2 ?_;(try simp only [pS]);refine tg 6 hSxc_2 ?_;(try simp only [pS]);refine tk 7 (rV V) hSxc_2 (hy:=(d9 hV 92 3 Tryz.underlying92 (aG _))) (h := ?_);(try simp only [pS]);refine cl 8 (kO _) ?_
     (rintro e wxc_5 ⟨O1,rfl,hO1,hbxc_5⟩)
     have hSxc_5:=aa hSxc_2 hbxc_5;refine ⟨_,rfl,hSxc_5,?_⟩;clear hbxc_5;(try simp only [pS]);refine cl 9 (kS2 O1 hO1 _) ?_;(clear kS2;rintro e wxc_6 ⟨rfl,hbxc_6⟩);have hSxc_6:=aa hSxc_5 hbxc_6;refine ⟨_,rfl,hSxc_6,?_⟩;clear hbxc_6;(try simp only [pS]);refine tg 10 hSxc_6 ?_;(try simp only [pS]);refine tk 11 (rV U) hSxc_6 (hy:=(d9 hU 92 2 Tryz.underlying92 (aG _))) (h := ?_);(try simp only [pS]);refine cl 12 (kO _) ?_
     (rintro e wxc_8 ⟨O2,rfl,hO2,hbxc_8⟩)
     have hSxc_8:=aa hSxc_6 hbxc_8;refine ⟨_,rfl,hSxc_8,?_⟩;clear hbxc_8;(try simp only [pS]);refine cl 13 (kS3 O2 hO2 _) ?_;(clear kS3;rintro e wxc_9 ⟨rfl,hbxc_9⟩);have hSxc_9:=aa hSxc_8 hbxc_9;refine ⟨_,rfl,hSxc_9,?_⟩;clear hbxc_9;(try simp only [pS]);refine tg 14 hSxc_9 ?_;(try simp only [pS]);refine tg 15 hSxc_9 ?_;(try simp only [pS]);refine tg 16 hSxc_9 ?_;(try simp only [pS]);refine J4 (by kernel_rfl) ?_ _;refine J8 ?_;go_wp2;go_meet
     case rel=>exact ⟨by rw [Hok.out];rfl,aa hdrew hSxc_9⟩
    | true =>
     have hdrew:Below V3.heap.size V3 V3.drew:=(Below.refl _ _).drew;replace hU:=hU.still hdrew;replace hV:=hV.still hdrew;replace h106:=h106.still hdrew;replace h107:=h107.still hdrew;refine wp_region_noPanic ?_;refine wp_region_held_drew (S:=fun w'=>Below V3.drew.heap.size V3.drew w') (by kernel_rfl) (Below.refl _ _) (fun hS => ?_);generalize V3.drew=Vxd_ at *;refine tk 0 (rV Z) hS (hy:=(d9 h107 92 7 Tryz.underlying92 (aG _))) (h := ?_);(try simp only [pS]);refine tk 1 (rV Z) hS (hy:=(d9 h107 92 7 Tryz.underlying92 (aG _))) (h := ?_);(try simp only [pS]);refine tk 3 (rV Q) hS (hy:=(d9 h106 92 6 Tryz.underlying92 (aG _))) (h := ?_);(try simp only [pS]);refine cl 2 (kT _) ?_;(clear kT;rintro e wxd_1 ⟨R1,rfl,hR1,hbxd_1⟩;replace kS1:=kS1 R1 Q hR1 hQ);have hSxd_1:=aa hS hbxd_1;refine ⟨_,rfl,hSxd_1,?_⟩;clear hbxd_1;(try simp only [pS]);refine cl 4 (kS1 _) ?_;(clear kS1;rintro e wxd_2 ⟨rfl,hbxd_2⟩);have hSxd_2:=aa hSxd_1 hbxd_2;refine ⟨_,rfl,hSxd_2,?_⟩;clear hbxd_2;(try simp only [pS]);refine tg 5 hSxd_2 ?_;(try simp only [pS]);refine tg 6 hSxd_2 ?_;(try simp only [pS]);refine tk 7 (rV V) hSxd_2 (hy:=(d9 hV 92 3 Tryz.underlying92 (aG _))) (h := ?_);(try simp only [pS]);refine cl 8 (kO _) ?_
     (rintro e wxd_5 ⟨O1,rfl,hO1,hbxd_5⟩)
     have hSxd_5:=aa hSxd_2 hbxd_5;refine ⟨_,rfl,hSxd_5,?_⟩;clear hbxd_5;(try simp only [pS]);refine cl 9 (kS2 O1 hO1 _) ?_;(clear kS2;rintro e wxd_6 ⟨rfl,hbxd_6⟩);have hSxd_6:=aa hSxd_5 hbxd_6;refine ⟨_,rfl,hSxd_6,?_⟩;clear hbxd_6;(try simp only [pS]);refine tg 10 hSxd_6 ?_;(try simp only [pS]);refine tk 11 (rV U) hSxd_6 (hy:=(d9 hU 92 2 Tryz.underlying92 (aG _))) (h := ?_);(try simp only [pS]);refine cl 12 (kO _) ?_
     (rintro e wxd_8 ⟨O2,rfl,hO2,hbxd_8⟩)
     have hSxd_8:=aa hSxd_6 hbxd_8;refine ⟨_,rfl,hSxd_8,?_⟩;clear hbxd_8;(try simp only [pS]);refine cl 13 (kS3 O2 hO2 _) ?_;(clear kS3;rintro e wxd_9 ⟨rfl,hbxd_9⟩);have hSxd_9:=aa hSxd_8 hbxd_9;refine ⟨_,rfl,hSxd_9,?_⟩;clear hbxd_9;(try simp only [pS]);refine tg 14 hSxd_9 ?_;(try simp only [pS]);refine tg 15 hSxd_9 ?_;(try simp only [pS]);refine tg 16 hSxd_9 ?_;(try simp only [pS]);refine J4 (by kernel_rfl) ?_ _;refine J8 ?_;go_wp2;go_meet
     case rel=>exact ⟨by rw [Hok.out];rfl,aa hdrew hSxd_9⟩
 case rest =>
 obtain ⟨rfl,hb5⟩:=hcut;replace h107:=h107.still hb5;replace h4:=h4.still hb5;replace hbW:=aa hbW hb5;clear hb5 hU hV h106 kT kS1 kS2 kS3 hQ Hok
 cases ok with
 | false =>
  have Hr:Hid (res=0):=Hid.mk' (by rw [Hres.out];rfl);clear Hres
  go_wp2_with (first
   | (go_at_call 119;refine (kO _).mono ?_;clear kO;rintro e w6 ⟨O,rfl,hO,hb6⟩;(replace h4:=h4.still hb6);(replace hbW:=aa hbW hb6);(have t4:w6.there g4 0 (aD O).toArray.size:=by have:=h4.there;rw [ao] at this;rw [List.size_toArray,ao];exact this))
   | (with_reducible (refine id (?_:wpList _ _ _ _ _ _));refine J2 rfl 92 _ _ rfl g4 0 (aD O).toArray rfl rfl t4 (bQ O) (fC O) ?_))
  (try simp only [Exit.inBlock,Exit.then]);exact bodyPost_ret (am Tryz.results121 _ _ g4 0 (aD O) _ rfl (h4.stored (aD O) (by rw [ao,ao])).range Tryz.underlying92 rfl (aG _)) rfl ⟨O,rfl,by rw [Hr.out];exact hO.wide,ac w4 _ _ _ hbW⟩
 | true =>
  replace kB:=kB Z hZ
  cases hpar:(zc%2 == 1) with
  | false =>
   have Hr:Hid (res=z):=Hid.mk' (by rw [Hres.out,if_pos rfl,if_neg (by simpa using hpar)]);have hrem:=zq hpar;clear Hres hpar kM kO
   go_wp2_with (first
    | (refine J3 rfl 92 _ rfl g107 0 rfl (aD Z) _ h107.range Tryz.underlying92 rfl (aG _) ?_)
    | (go_at_call 118;refine (kB _).mono ?_;clear kB;rintro e w6 ⟨s6,rfl,hs6,hb6⟩;(replace h4:=h4.still hb6);(replace h107:=h107.still hb6);(replace hbW:=aa hbW hb6);clear hb6;(obtain ⟨bb,ob,cap,hsl,hl,hcap,hc⟩:∃ bb ob cap,s6 = .slice (some ⟨bb,ob,none⟩) 32 cap∧bb<w6.heap.size∧32≤cap∧∀ j,j<32→w6.cell? ⟨bb,ob+j,none⟩=some (.int .u8 (bf zc j)):=hs6.resolve_left (fun ⟨_,_,h⟩=>by omega));subst hsl;clear hs6;(have cc:=hc 0 (by decide));rw [Nat.add_zero] at cc;clear hc;(have t4:w6.there g4 0 (aD Z).toArray.size:=by have:=h4.there;rw [ao] at this;rw [List.size_toArray,ao];exact this))
    | (with_reducible (refine id (?_:wpList _ _ _ _ _ _));refine J2 rfl 92 _ _ rfl g4 0 (aD Z).toArray rfl rfl t4 (bQ Z) (fC Z) ?_))
   (try simp only [Exit.inBlock,Exit.then]);exact bodyPost_ret (am Tryz.results121 _ _ g4 0 (aD Z) _ rfl (h4.stored (aD Z) (by rw [ao,ao])).range Tryz.underlying92 rfl (aG _)) rfl ⟨Z,rfl,by rw [Hr.out];exact hZ.wide,ac w4 _ _ _ hbW⟩
  | true =>
   have Hr:Hid (res=nz):=Hid.mk' (by rw [Hres.out,if_pos rfl,if_pos (by simpa using hpar)]);have hrem:=Cf hpar;clear Hres hpar
   go_upto_region 7 with (first
    | (refine J3 rfl 92 _ rfl g107 0 rfl (aD Z) _ h107.range Tryz.underlying92 rfl (aG _) ?_)
    | (go_at_call 118;refine (kB _).mono ?_;clear kB;rintro e w6 ⟨s6,rfl,hs6,hb6⟩;(replace h4:=h4.still hb6);(replace h107:=h107.still hb6);(replace hbW:=aa hbW hb6);clear hb6;(obtain ⟨bb,ob,cap,hsl,hl,hcap,hc⟩:∃ bb ob cap,s6 = .slice (some ⟨bb,ob,none⟩) 32 cap∧bb<w6.heap.size∧32≤cap∧∀ j,j<32→w6.cell? ⟨bb,ob+j,none⟩=some (.int .u8 (bf zc j)):=hs6.resolve_left (fun ⟨_,_,h⟩=>by omega));subst hsl;clear hs6;(have cc:=hc 0 (by decide));rw [Nat.add_zero] at cc;clear hc))
   (try simp only [pS]);clear hrem cc hcap hl
   have kM':=fun O hO=>kM O Z hO hZ
   clear kM;have hdrew:Below w6.heap.size w6 w6.drew:=(Below.refl _ _).drew;replace hbW:=aa hbW hdrew;replace h4:=h4.still hdrew;replace h107:=h107.still hdrew;refine wp_region_noPanic ?_;refine wp_region_held_drew (S:=fun _=>True) (by kernel_rfl) trivial (fun _ => ?_);generalize w6.drew=Vxe_ at *;refine J1 (rs:=[0,1]) (by kernel_rfl) (by simp) ?_;refine J7 (o:=oN 41 (dA 119 #[Operand.const (Value.int IntKind.i64 0)] #[3]) 92 "ref.go:184" #[]) rfl (fun K hK => ?_) (J7 (o:=oN 42 (Op.load 92 (oT 7)) 92 "ref.go:184" #[]) rfl (fun K hK => ?_) (J6))
   · go_simp
     (go_at_call 119;refine (kO _).mono ?_;clear kO;rintro e wxe_1 ⟨O,rfl,hO,hbS⟩;(replace h4:=h4.still hbS);(replace h107:=h107.still hbS);(replace hbW:=aa hbW hbS);clear hbS);(try go_simp);refine hK.out _ _ trivial (fun h => ?_);clear h hK K;(try simp only [pS]);refine J1 (rs:=[1]) (by kernel_rfl) (by simp) ?_;refine J7 (o:=oN 42 (Op.load 92 (oT 7)) 92 "ref.go:184" #[]) rfl (fun K hK => ?_) (J6);rw [if_pos (by rfl)];refine wp_load_mid 92 _ rfl g107 0 rfl (aD Z) _ h107.range Tryz.underlying92 rfl (aG _) ?_;refine hK.out _ _ trivial (fun h => ?_);clear h hK K;rw [show Value.agg (aD Z).toArray=rV Z from rfl];(try simp only [pS]);refine J1 (rs:=[2]) (by kernel_rfl) (by simp) ?_;refine J7 (o:=oN 43 (dA 122 #[oT 41,oT 42] #[92,92]) 92 "ref.go:184" #[jD 0,jD 1,jC 0]) rfl (fun K hK => ?_) (J6);go_simp;(go_at_call 122;refine (kM' O hO _).mono ?_;clear kM';rintro e wxe_3 ⟨MZ,rfl,hMZ,hbS⟩;(replace h4:=h4.still hbS);(replace h107:=h107.still hbS);(replace hbW:=aa hbW hbS);clear hbS);(try go_simp);refine hK.out _ _ trivial (fun h => ?_);clear h hK K;(try simp only [pS]);refine J1 (rs:=[3]) (by kernel_rfl) (by simp) ?_;refine J7 (o:=oS (Op.store 92 (oT 7) (oT 43)) "ref.go:184" #[jD 2,jC 2,jP 0,jP 1,jP 2]) rfl (fun K hK => ?_) (J6);rw [if_pos (by rfl)];refine wp_store_mid 92 _ _ rfl g107 0 (aD MZ).toArray rfl rfl (by have:=h107.there;rw [ao] at this;rw [List.size_toArray,ao];exact this) (bQ _) (fC _) ?_;have Oxe_4:=aT.setCells (b:=g107) (o:=0) (n:=(aD MZ).length) wxe_3 (aD MZ) (JW _) (JW _);replace hbW:=ac w107 (aD MZ) 0 _ hbW;replace h107:=h107.stored (aD MZ) (by rw [ao,ao]);replace h4:=h4.far g107 0 (aD MZ) (.inl n4_107.symm)
     obtain ⟨wxe_4,hwxe_4⟩:∃ W,wxe_3.setCells g107 0 (aD MZ)=W:=⟨_,rfl⟩
     rw [hwxe_4] at h4;rw [hwxe_4] at hbW;rw [hwxe_4] at h107;rw [hwxe_4] at Oxe_4;rw [show wxe_3.setCells g107 0 (aD MZ).toArray.toList=wxe_4 from hwxe_4];refine hK.out _ _ trivial (fun h => ?_);clear h hK K hwxe_4;(try dsimp only [Act.put]);refine J4 (by kernel_rfl) ?_ _;refine J8 ?_
     have t4:wxe_4.there g4 0 (aD MZ).toArray.size:=by have:=h4.there;rw [ao] at this;rw [List.size_toArray,ao];exact this
     go_wp2_with (first
      | (refine J3 rfl 92 _ rfl g107 0 rfl (aD MZ) _ h107.range Tryz.underlying92 rfl (aG _) ?_)
      | (with_reducible (refine id (?_:wpList _ _ _ _ _ _));refine J2 rfl 92 _ _ rfl g4 0 (aD MZ).toArray rfl rfl t4 (bQ MZ) (fC MZ) ?_))
     (try simp only [Exit.inBlock,Exit.then]);exact bodyPost_ret (am Tryz.results121 _ _ g4 0 (aD MZ) _ rfl (h4.stored (aD MZ) (by rw [ao,ao])).range Tryz.underlying92 rfl (aG _)) rfl ⟨MZ,rfl,by rw [Hr.out];exact hMZ,ac w4 _ _ _ hbW⟩
   · rw [if_pos (by rfl)]
     refine wp_load_mid 92 _ rfl g107 0 rfl (aD Z) _ h107.range Tryz.underlying92 rfl (aG _) ?_;refine hK.out _ _ trivial (fun h => ?_);clear h hK K;rw [show Value.agg (aD Z).toArray=rV Z from rfl];(try simp only [pS]);refine J1 (rs:=[0]) (by kernel_rfl) (by simp) ?_;refine J7 (o:=oN 41 (dA 119 #[Operand.const (Value.int IntKind.i64 0)] #[3]) 92 "ref.go:184" #[]) rfl (fun K hK => ?_) (J6);go_simp;(go_at_call 119;refine (kO _).mono ?_;clear kO;rintro e wxe_6 ⟨O,rfl,hO,hbS⟩;(replace h4:=h4.still hbS);(replace h107:=h107.still hbS);(replace hbW:=aa hbW hbS);clear hbS);(try go_simp);refine hK.out _ _ trivial (fun h => ?_);clear h hK K;(try simp only [pS]);refine J1 (rs:=[2]) (by kernel_rfl) (by simp) ?_;refine J7 (o:=oN 43 (dA 122 #[oT 41,oT 42] #[92,92]) 92 "ref.go:184" #[jD 0,jD 1,jC 0]) rfl (fun K hK => ?_) (J6);go_simp;(go_at_call 122;refine (kM' O hO _).mono ?_;clear kM';rintro e wxe_7 ⟨MZ,rfl,hMZ,hbS⟩;(replace h4:=h4.still hbS);(replace h107:=h107.still hbS);(replace hbW:=aa hbW hbS);clear hbS);(try go_simp);refine hK.out _ _ trivial (fun h => ?_);clear h hK K;(try simp only [pS]);refine J1 (rs:=[3]) (by kernel_rfl) (by simp) ?_;refine J7 (o:=oS (Op.store 92 (oT 7) (oT 43)) "ref.go:184" #[jD 2,jC 2,jP 0,jP 1,jP 2]) rfl (fun K hK => ?_) (J6);rw [if_pos (by rfl)];refine wp_store_mid 92 _ _ rfl g107 0 (aD MZ).toArray rfl rfl (by have:=h107.there;rw [ao] at this;rw [List.size_toArray,ao];exact this) (bQ _) (fC _) ?_;have Oxe_8:=aT.setCells (b:=g107) (o:=0) (n:=(aD MZ).length) wxe_7 (aD MZ) (JW _) (JW _);replace hbW:=ac w107 (aD MZ) 0 _ hbW;replace h107:=h107.stored (aD MZ) (by rw [ao,ao]);replace h4:=h4.far g107 0 (aD MZ) (.inl n4_107.symm)
     obtain ⟨wxe_8,hwxe_8⟩:∃ W,wxe_7.setCells g107 0 (aD MZ)=W:=⟨_,rfl⟩
     rw [hwxe_8] at h4;rw [hwxe_8] at hbW;rw [hwxe_8] at h107;rw [hwxe_8] at Oxe_8;rw [show wxe_7.setCells g107 0 (aD MZ).toArray.toList=wxe_8 from hwxe_8];refine hK.out _ _ trivial (fun h => ?_);clear h hK K hwxe_8;(try dsimp only [Act.put]);refine J4 (by kernel_rfl) ?_ _;refine J8 ?_
     have t4:wxe_8.there g4 0 (aD MZ).toArray.size:=by have:=h4.there;rw [ao] at this;rw [List.size_toArray,ao];exact this
     go_wp2_with (first
      | (refine J3 rfl 92 _ rfl g107 0 rfl (aD MZ) _ h107.range Tryz.underlying92 rfl (aG _) ?_)
      | (with_reducible (refine id (?_:wpList _ _ _ _ _ _));refine J2 rfl 92 _ _ rfl g4 0 (aD MZ).toArray rfl rfl t4 (bQ MZ) (fC MZ) ?_))
     (try simp only [Exit.inBlock,Exit.then]);exact bodyPost_ret (am Tryz.results121 _ _ g4 0 (aD MZ) _ rfl (h4.stored (aD MZ) (by rw [ao,ao])).range Tryz.underlying92 rfl (aG _)) rfl ⟨MZ,rfl,by rw [Hr.out];exact hMZ,ac w4 _ _ _ hbW⟩
def gv (w w':World) (v:Value) (n:Nat) (X:Nat→Nat):Prop:=∃ g cap,v = .slice (some ⟨g,0,none⟩) n cap∧n≤cap∧w.heap.size≤g∧ah .u8 w' g 0 n X
theorem gv.bytes {w w':World} {v:Value} {n:Nat} {X:Nat→Nat} (h:gv w w' v n X) (h0:0<n):ae w' v n X:=by
 obtain ⟨g,cap,rfl,hc,-,hr⟩:=h;exact .inr ⟨g,0,cap,rfl,block_lt_of_cell (hr 0 h0).1,hc,fun j hj=>(hr j hj).1⟩
theorem ys:∀ a:Nat,a<128→∀ b:Nat,b<2→bits .or .u8 (a:Int) (((128*b:Nat)):Int)=((a+128*b:Nat):Int):=by decide +kernel
theorem sQ:∀ b:Nat,b<256→bits .and .u8 (b:Int) 1=((b%2:Nat):Int):=by decide +kernel
theorem eu {y:Nat} (h:y<pF):bf y 31<128:=by
 unfold bf;have:y / 256 ^ 31<128:=Nat.div_lt_of_lt_mul (Nat.lt_of_lt_of_le h (by decide));exact Nat.lt_of_le_of_lt (Nat.mod_le _ _) this
def dt (x y:Nat) (j:Nat):Nat:=if j=31 then bf y 31+128*(x%2) else bf y j
set_option maxRecDepth 20000 in
set_option maxHeartbeats 4000000 in
theorem Cz {r:P4} {p:N4} (hr:r.Rep p) (w:World) :
 Calls Tryz.prog 62 #[r.V] w fun e w'=>∃ s,e = .returned s∧gv w w' s 32 (dt (av p.X (de p.Z)) (av p.Y (de p.Z)))∧Below w.heap.size w w':=by
 have hz:=dC
 have ci:∀ W,Calls Tryz.prog 126 #[.agg (aD r.Z).toArray] W fun e w'=>∃ R,e = .returned (.agg (aD R).toArray)∧Rw R (de p.Z)∧Below W.heap.size W w':=fun W=>gD r.Z _ hr.Z W
 have cx:∀ I,Rw I (de p.Z)→∀ W,Calls Tryz.prog 120 #[.agg (aD r.X).toArray,.agg (aD I).toArray] W fun e w'=>∃ R,e = .returned (.agg (aD R).toArray)∧Rw R (av p.X (de p.Z))∧Below W.heap.size W w':=fun I hI W=>(bL hr.X hI W).mono fun _ _ ⟨he,hb⟩=>⟨_,he,iD hr.X hI,hb⟩
 have cy:∀ I,Rw I (de p.Z)→∀ W,Calls Tryz.prog 120 #[.agg (aD r.Y).toArray,.agg (aD I).toArray] W fun e w'=>∃ R,e = .returned (.agg (aD R).toArray)∧Rw R (av p.Y (de p.Z))∧Below W.heap.size W w':=fun I hI W=>(bL hr.Y hI W).mono fun _ _ ⟨he,hb⟩=>⟨_,he,iD hr.Y hI,hb⟩
 have cB:∀ (R:Nat→Int) (a:Nat),Rw R a→a<pF→∀ W,Calls Tryz.prog 118 #[.agg (aD R).toArray] W fun e w'=>∃ v,e = .returned v∧bx W.heap.size w' v 32 (bf a)∧Below W.heap.size W w':=fun R a hR ha W=>vr R a hR ha W
 have hxl:=aJ p.X (de p.Z);have hyl:=aJ p.Y (de p.Z);generalize av p.X (de p.Z)=x at *;generalize av p.Y (de p.Z)=y at *;generalize de p.Z=iz at *;have e1:=sQ (bf x 0) (dD x 0);have e2:=ys (bf y 31) (eu hyl) (x%2) (Nat.mod_lt _ (by decide));have e0:bf x 0%2=x%2:=iW x;rw [e0] at e1
 obtain ⟨W,g1,eW,hg1,b,hp⟩:∃ V g,w.alloc (.cells (aW r.X r.Y r.Z r.T).toArray 94)=V∧w.heap.size=g∧Below w.heap.size w V∧RW V g 0 (aW r.X r.Y r.Z r.T):=⟨_,_,rfl,rfl,(Below.refl _ _).alloc (JW _) _,RW.fresh w _ _⟩
 obtain ⟨hX,hY,hZ,-⟩:=parts hp;have HW:Hid (w.alloc (.cells (aW r.X r.Y r.Z r.T).toArray 94)=W):=Hid.mk' eW;have Hg:Hid (w.heap.size=g1):=Hid.mk' hg1;clear eW hg1 hp e0;rw [show r.V = .agg (aW r.X r.Y r.Z r.T).toArray from rfl];go_enter Tryz.func62,Tryz.ntmps62
 go_upto_region 4 with (first
  | (rw [HW.out,Hg.out];refine J3 rfl 92 _ rfl g1 32 rfl (aD r.Z) _ hZ.range Tryz.underlying92 rfl (aG _) ?_;clear HW Hg)
  | (refine J3 rfl 92 _ rfl g1 0 rfl (aD r.X) _ hX.range Tryz.underlying92 rfl (aG _) ?_)
  | (refine J3 rfl 92 _ rfl g1 16 rfl (aD r.Y) _ hY.range Tryz.underlying92 rfl (aG _) ?_)
  | (refine J3 rfl 92 _ rfl w1.heap.size 0 rfl (aD I) _ hI3.range Tryz.underlying92 rfl (aG _) ?_)
  | (go_at_call 126;refine (ci _).mono ?_;clear ci;rintro e w1 ⟨I,rfl,hI,hb1⟩;(replace hX:=hX.still hb1);(replace hY:=hY.still hb1);(replace b:=aa b hb1);clear hb1;(have z1:=dx w1);(have t1:=dH w1 I);(obtain ⟨V1,hV1⟩:∃ V,V=(w1.alloc (.cells zI 92)).setCells w1.heap.size 0 (aD I):=⟨_,rfl⟩);(have hI3:RW V1 w1.heap.size 0 (aD I):=by rw [hV1];exact z1.stored (aD I) (by rw [ao,ao]));(have b1:Below w1.heap.size w1 V1:=by rw [hV1];exact ac (JW _) _ _ _ ((Below.refl _ _).alloc (JW _) _));(have H1:=Hid.mk' hV1);clear hV1 z1;(replace hX:=hX.still b1);(replace hY:=hY.still b1);(replace b:=aa b b1);clear b1;replace cx:=cx I hI;replace cy:=cy I hI)
  | (with_reducible (refine id (?_:wpList _ _ _ _ _ _));refine J2 rfl 92 _ _ rfl w1.heap.size 0 (aD I).toArray rfl rfl t1 (bQ I) (fC I) ?_;rw [List.toList_toArray,←H1.out];clear t1 H1)
  | (go_at_call 120;refine (cx _).mono ?_;clear cx;rintro e w2 ⟨A,rfl,hA,hb2⟩;(replace hY:=hY.still hb2);(replace hI3:=hI3.still hb2);(replace b:=aa b hb2);clear hb2 hX;(have cBx:=cB A x hA hxl))
  | (go_at_call 118;refine (cBx _).mono ?_;clear cBx;rintro e w3 ⟨vx,rfl,ox,hb3⟩;(replace hY:=hY.still hb3);(replace hI3:=hI3.still hb3);(replace b:=aa b hb3);clear hb3;(obtain ⟨gx,capx,hvx,hgx,hgxl,hcx,rx⟩:∃ g cap,vx = .slice (some ⟨g,0,none⟩) 32 cap∧w2.heap.size≤g∧g<w3.heap.size∧32≤cap∧ah .u8 w3 g 0 32 (bf x):=ox.form.resolve_left (fun h=>by omega));subst hvx;clear ox hgx)
  | (go_at_call 120;refine (cy _).mono ?_;clear cy;rintro e w4 ⟨B,rfl,hB,hb4⟩;(replace rx:=rx.below hb4 hgxl);(replace hgxl:=Nat.lt_of_lt_of_le hgxl hb4.size);(replace b:=aa b hb4);clear hb4 hY hI3;(have cBy:=cB B y hB hyl))
  | (go_at_call 118;refine (cBy _).mono ?_;clear cBy cB;rintro e w5 ⟨vy,rfl,oy,hb5⟩;(replace rx:=rx.below hb5 hgxl);(have sb:=b.size);(replace b:=aa b hb5);clear hb5;(obtain ⟨gy,capy,hvy,hgy,hgyl,hcy,ry⟩:∃ g cap,vy = .slice (some ⟨g,0,none⟩) 32 cap∧w4.heap.size≤g∧g<w5.heap.size∧32≤cap∧ah .u8 w5 g 0 32 (bf y):=oy.form.resolve_left (fun h=>by omega));subst hvy;clear oy;(have nxy:gx≠gy:=by omega);(have wgy:w.heap.size≤gy:=JY sb hgy);clear sb))
 have c0:=(rx 0 (by decide)).1;have c31:=(ry 31 (by decide)).1;have f31:=(ry 31 (by decide)).2;rw [Nat.zero_add] at c0 c31 f31
 have e3:bits .or .u8 (bf y 31:Int) ((x:Int)%2*128)=((bf y 31+128*(x%2):Nat):Int):=by
  rw [←e2];congr 1;omega
 have r31:=ry.set (i:=31) (by decide) (v:=bits .or .u8 (bf y 31:Int) ((x:Int)%2*128)) (u:=bf y 31+128*(x%2)) e3;rw [Nat.zero_add] at r31;have E3:=Hid.mk' e3;clear e2 e3;go_region
 all_goals go_wp2
 go_ret;have bs:Below w.heap.size w (w5.setCell ⟨gy,31,none⟩ (.int .u8 (bits .or .u8 (bf y 31:Int) ((x:Int)%2*128)))):=ac wgy [_] 31 _ b;have bd:Below (w5.setCell ⟨gy,31,none⟩ (.int .u8 (bits .or .u8 (bf y 31:Int) ((x:Int)%2*128)))).heap.size (w5.setCell ⟨gy,31,none⟩ (.int .u8 (bits .or .u8 (bf y 31:Int) ((x:Int)%2*128)))) (w5.setCell ⟨gy,31,none⟩ (.int .u8 (bits .or .u8 (bf y 31:Int) ((x:Int)%2*128)))).drew:=(Below.refl _ _).drew;have rd:=r31.below bd (block_lt_of_cell (r31 0 (by decide)).1);refine ⟨_,rfl,⟨gy,capy,rfl,hcy,wgy,rd.congr (fun j hj => ?_)⟩,aa bs bd⟩;unfold bK dt;rfl
end Go.Proofs.YtibdhadbflfdpaaGreatDoor
