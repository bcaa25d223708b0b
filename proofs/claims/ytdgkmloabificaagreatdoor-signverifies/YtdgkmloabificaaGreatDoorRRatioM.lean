/- What the proof stands on: RRatio, REnc6, RefPow2, Api, Know, Lent, Sums. -/
import Derived.Test.YtdgkmloabificaaGreatDoorBaseM
import Derived.Test.YtdgkmloabificaaGreatDoorLimbsM
import Derived.Test.YtdgkmloabificaaGreatDoorPNumM
import Derived.Test.YtdgkmloabificaaGreatDoorRPlus6M
import Derived.Test.YtdgkmloabificaaGreatDoorRefFromM
namespace Go.Proofs.YtdgkmloabificaaGreatDoor
open Go.RowKit
theorem byt0_mod (n:Nat):byt n 0%2=n%2:=by unfold byt;simp only [Nat.pow_zero,Nat.div_one];omega
theorem rem2_odd {n:Nat} (h:(n%2 == 1)=true):((byt n 0:Nat):Int)%2=1:=by
 have h1:=byt0_mod n
 have h2:n%2=1:=by simpa using h
 omega
theorem rem2_even {n:Nat} (h:(n%2 == 1)=false):¬(((byt n 0:Nat):Int)%2=1):=by
 have h1:=byt0_mod n
 have h2:¬(n%2=1):=by simpa using h
 omega
abbrev qx1x4:Oper:=oN 6 (Op.alloc 66) 0 "ref.go:177" #[]
abbrev qx1x2:Oper:=oN 10 (cF1 77 #[oT 9] #[66]) 66 "ref.go:177" #[jD 1]
abbrev qx1x3:Oper:=oN 11 (cF1 71 #[oT 8,oT 10] #[66,66]) 66 "ref.go:177" #[jD 0,jD 2,jC 2]
abbrev qx1x5:Oper:=oS (Op.store 66 (oT 6) (oT 11)) "ref.go:177" #[jD 4,jD 3,jC 3,jP 0,jP 1,jP 2,jP 3,jP 4]
set_option maxRecDepth 20000 in
set_option maxHeartbeats 16000000 in
theorem rratio_raw (U V:Nat→Int) (vi q y z zz zc nz:Nat) (b1 b2 b3:Bool)
 (kI:∀ W,Calls Tryz.prog 77 #[.agg (i16 V).toArray] W fun e w'=>∃ R,e = .returned (.agg (i16 R).toArray)∧Rep R vi∧Below W.heap.size W w')
 (kQ:∀ R,Rep R vi→∀ W,Calls Tryz.prog 71 #[.agg (i16 U).toArray,.agg (i16 R).toArray] W fun e w'=>∃ R,e = .returned (.agg (i16 R).toArray)∧Rep R q∧Below W.heap.size W w')
 (kP:∀ Q,Rep Q q→∀ W,Calls Tryz.prog 108 #[.agg (i16 Q).toArray,.int .i64 252,.int .i64 14,.int .i64 4] W fun e w'=>∃ R,e = .returned (.agg (i16 R).toArray)∧Rep R y∧Below W.heap.size W w')
 (kF:∀ Y Q,Rep Y y→Rep Q q→∀ W,Calls Tryz.prog 109 #[.agg (i16 Y).toArray,.agg (i16 Q).toArray] W fun e w'=>∃ R,e = .returned (.agg (i16 R).toArray)∧Rep R z∧Below W.heap.size W w')
 (kT:∀ Z,Rep Z z→∀ W,Calls Tryz.prog 71 #[.agg (i16 Z).toArray,.agg (i16 Z).toArray] W fun e w'=>∃ R,e = .returned (.agg (i16 R).toArray)∧Rep R zz∧Below W.heap.size W w')
 (kS1:∀ R Q,Rep R zz→Rep Q q→∀ W,Calls Tryz.prog 75 #[.agg (i16 R).toArray,.agg (i16 Q).toArray] W fun e w'=>e = .returned (.bool b1)∧Below W.heap.size W w')
 (kO:∀ W,Calls Tryz.prog 70 #[.int .i64 0] W fun e w'=>∃ R,e = .returned (.agg (i16 R).toArray)∧Rep R 0∧Below W.heap.size W w')
 (kS2:∀ O,Rep O 0→∀ W,Calls Tryz.prog 75 #[.agg (i16 V).toArray,.agg (i16 O).toArray] W fun e w'=>e = .returned (.bool b2)∧Below W.heap.size W w')
 (kS3:∀ O,Rep O 0→∀ W,Calls Tryz.prog 75 #[.agg (i16 U).toArray,.agg (i16 O).toArray] W fun e w'=>e = .returned (.bool b3)∧Below W.heap.size W w')
 (kB:∀ Z,Rep Z z→∀ W,Calls Tryz.prog 69 #[.agg (i16 Z).toArray] W fun e w'=>∃ s,e = .returned s∧BytesIn w' s 32 (byt zc)∧Below W.heap.size W w')
 (kM:∀ O Z,Rep O 0→Rep Z z→∀ W,Calls Tryz.prog 73 #[.agg (i16 O).toArray,.agg (i16 Z).toArray] W fun e w'=>∃ R,e = .returned (.agg (i16 R).toArray)∧Rw R nz∧Below W.heap.size W w')
 (w:World) :
 Calls Tryz.prog 72 #[rV U,rV V] w fun e w'=>∃ R,e = .returned (.tuple #[rV R,.bool (b1 && !(b2 && !b3))])∧Rw R (if (b1 && !(b2 && !b3))=true then (if zc%2=1 then nz else z) else 0)∧Below w.heap.size w w':=by
 have hz:=zeroR
 obtain ⟨V1,g2,e1,hg2,c1,hU⟩:∃ V g,w.alloc (.cells (i16 U).toArray 66)=V∧w.heap.size=g∧Below w.heap.size w V∧RW V g 0 (i16 U):=⟨_,_,rfl,rfl,(Below.refl _ _).alloc (Nat.le_refl _) _,RW.fresh w _ _⟩
 obtain ⟨V2,g3,e2,hg3,c2,hV⟩:∃ V' g,V1.alloc (.cells (i16 V).toArray 66)=V'∧V1.heap.size=g∧Below V1.heap.size V1 V'∧RW V' g 0 (i16 V):=⟨_,_,rfl,rfl,(Below.refl _ _).alloc (Nat.le_refl _) _,RW.fresh V1 _ _⟩
 obtain ⟨W,g4,e3,hg4,c3,h4⟩:=freshR V2
 have t1:V1.heap.size=w.heap.size+1:=by rw [←e1];simp
 have t2':V2.heap.size=V1.heap.size+1:=by rw [←e2];simp
 have HW:Hid (W=((w.alloc (.cells (i16 U).toArray 66)).alloc (.cells (i16 V).toArray 66)).alloc (.cells zI 66)):=Hid.mk' (by rw [←e3,←e2,←e1])
 have q2:Hid (w.heap.size=g2):=Hid.mk' hg2
 have q3:Hid (w.heap.size+1=g3):=Hid.mk' (by omega)
 have q4:Hid (w.heap.size+1+1=g4):=Hid.mk' (by omega)
 replace hU:=(hU.still c2).still c3
 replace hV:=hV.still c3
 have hbW:Below w.heap.size w W:=(c1.trans (c2.mono (by omega))).trans (c3.mono (by omega))
 have w4:w.heap.size≤g4:=by omega
 have n24:g2≠g4:=by omega
 have n34:g3≠g4:=by omega
 clear e1 e2 e3 hg2 hg3 hg4 c1 c2 c3 t1 t2' V1 V2
 obtain ⟨ok,hok⟩:∃ ok,ok=(b1 && !(b2 && !b3)):=⟨_,rfl⟩
 obtain ⟨res,hres⟩:∃ r,r=(if ok=true then (if zc%2=1 then nz else z) else 0):=⟨_,rfl⟩
 rw [←hok,←hres]
 have Hok:=Hid.mk' hok
 have Hres:=Hid.mk' hres
 clear hok hres
 rw [show rV U = .agg (i16 U).toArray from rfl,show rV V = .agg (i16 V).toArray from rfl]
 go_enter Tryz.func72,Tryz.ntmps72
 go_upto_region 1 with (fail)
 rw [←HW.out,q4.out,q3.out,q2.out]
 clear HW q2 q3 q4
 go_cut [6] from 8 (fun s6 wc=>∃ g106 Q,s6 = .pointer (some ⟨g106,0,none⟩)∧Rep Q q∧Below W.heap.size W wc∧W.heap.size≤g106∧RW wc g106 0 (i16 Q))
 case first =>
  clear kP kF kT kS1 kO kS2 kS3 kB kM
  have hdrew:Below W.heap.size W W.drew:=(Below.refl _ _).drew
  replace hU:=hU.still hdrew
  replace hV:=hV.still hdrew
  replace h4:=h4.still hdrew
  refine wp_region_noPanic ?_
  refine wp_region_held_drew (S:=fun w'=>Below W.drew.heap.size W.drew w') (by kernel_rfl) (Below.refl _ _) (fun hS => ?_)
  generalize W.drew=Vx1_ at *
  refine tkH 0 (oN 8 (Op.load 66 (oT 2)) 66 "ref.go:177" #[]) (rV U) hS (ldH hU 66 2 Tryz.underlying66 (infoI _)) ?_
  (try simp only [pS])
  refine tkH 1 (oN 9 (Op.load 66 (oT 3)) 66 "ref.go:177" #[]) (rV V) hS (ldH hV 66 3 Tryz.underlying66 (infoI _)) ?_
  (try simp only [pS])
  refine wpAnyH_ready (rs:=[2,4]) (by kernel_rfl) (by simp) ?_
  refine AllReadyH.cons (o:=qx1x2) rfl (fun K hK => ?_) (AllReadyH.cons (o:=qx1x4) rfl (fun K hK => ?_) (AllReadyH.nil))
  · unfold qx1x2
    go_simp
    (go_at_call 77;refine (kI _).mono ?_;rintro e wx1_1 ⟨R1,rfl,hR1,hbx1_1⟩)
    (try go_simp)
    have hSx1_1:=below_next hS hbx1_1
    refine hK.out _ _ hSx1_1 (fun h => ?_)
    clear h hK K hbx1_1
    (try simp only [pS])
    refine wpAnyH_ready (rs:=[3,4]) (by kernel_rfl) (by simp) ?_
    refine AllReadyH.cons (o:=qx1x3) rfl (fun K hK => ?_) (AllReadyH.cons (o:=qx1x4) rfl (fun K hK => ?_) (AllReadyH.nil))
    · unfold qx1x3
      go_simp
      (go_at_call 71;refine (kQ R1 hR1 _).mono ?_;rintro e wx1_2 ⟨Q,rfl,hQ,hbx1_2⟩)
      (try go_simp)
      have hSx1_2:=below_next hSx1_1 hbx1_2
      refine hK.out _ _ hSx1_2 (fun h => ?_)
      clear h hK K hbx1_2
      (try simp only [pS])
      refine wpAnyH_ready (rs:=[4]) (by kernel_rfl) (by simp) ?_
      refine AllReadyH.cons (o:=qx1x4) rfl (fun K hK => ?_) (AllReadyH.nil)
      unfold qx1x4
      go_simp
      obtain ⟨wx1_3,gx1_3,hwx1_3,hgx1_3,hbx1_3,rx1_3⟩:=freshR wx1_2
      rw [hwx1_3,hgx1_3]
      have hSx1_3:=below_next hSx1_2 hbx1_3
      have Gx1_3:Vx1_.heap.size≤gx1_3:=by have:=hSx1_2.size;omega
      refine hK.out _ _ hSx1_3 (fun h => ?_)
      clear h hK K hbx1_3 hwx1_3 hgx1_3
      (try simp only [pS])
      refine wpAnyH_ready (rs:=[5]) (by kernel_rfl) (by simp) ?_
      refine AllReadyH.cons (o:=qx1x5) rfl (fun K hK => ?_) (AllReadyH.nil)
      unfold qx1x5
      rw [if_pos (by rfl)]
      refine ref_store _ _ rfl gx1_3 (fun _=>0) Q rfl rfl rx1_3 hSx1_3 Gx1_3 (fun wx1_4 r0 hSx1_4 => ?_)
      refine hK.out _ _ hSx1_4 (fun h => ?_)
      clear h hK K rx1_3
      have rx1_3:=r0
      clear r0
      (try dsimp only [Act.put])
      refine wpAnyH_done (by kernel_rfl) ?_ _
      refine NoPanic.normal ?_
      go_wp2
      go_meet
      case rel=>exact ⟨gx1_3,Q,rfl,hQ,below_next hdrew hSx1_4,Nat.le_trans hdrew.size Gx1_3,rx1_3⟩
    · unfold qx1x4
      go_simp
      obtain ⟨wx1_5,gx1_5,hwx1_5,hgx1_5,hbx1_5,rx1_5⟩:=freshR wx1_1
      rw [hwx1_5,hgx1_5]
      have hSx1_5:=below_next hSx1_1 hbx1_5
      have Gx1_5:Vx1_.heap.size≤gx1_5:=by have:=hSx1_1.size;omega
      refine hK.out _ _ hSx1_5 (fun h => ?_)
      clear h hK K hbx1_5 hwx1_5 hgx1_5
      (try simp only [pS])
      refine callH 3 (oN 11 (cF1 71 #[oT 8,oT 10] #[66,66]) 66 "ref.go:177" #[jD 0,jD 2,jC 2]) (kQ R1 hR1 _) ?_
      (rintro e wx1_6 ⟨Q,rfl,hQ,hbx1_6⟩)
      have hSx1_6:=below_next hSx1_5 hbx1_6
      replace rx1_5:=rx1_5.still hbx1_6
      refine ⟨_,rfl,hSx1_6,?_⟩
      clear hbx1_6
      (try simp only [pS])
      refine wpAnyH_ready (rs:=[5]) (by kernel_rfl) (by simp) ?_
      refine AllReadyH.cons (o:=qx1x5) rfl (fun K hK => ?_) (AllReadyH.nil)
      unfold qx1x5
      rw [if_pos (by rfl)]
      refine ref_store _ _ rfl gx1_5 (fun _=>0) Q rfl rfl rx1_5 hSx1_6 Gx1_5 (fun wx1_7 r0 hSx1_7 => ?_)
      refine hK.out _ _ hSx1_7 (fun h => ?_)
      clear h hK K rx1_5
      have rx1_5:=r0
      clear r0
      (try dsimp only [Act.put])
      refine wpAnyH_done (by kernel_rfl) ?_ _
      refine NoPanic.normal ?_
      go_wp2
      go_meet
      case rel=>exact ⟨gx1_5,Q,rfl,hQ,below_next hdrew hSx1_7,Nat.le_trans hdrew.size Gx1_5,rx1_5⟩
  · unfold qx1x4
    go_simp
    obtain ⟨wx1_8,gx1_8,hwx1_8,hgx1_8,hbx1_8,rx1_8⟩:=freshR Vx1_
    rw [hwx1_8,hgx1_8]
    have hSx1_8:=below_next hS hbx1_8
    have Gx1_8:Vx1_.heap.size≤gx1_8:=by have:=hS.size;omega
    refine hK.out _ _ hSx1_8 (fun h => ?_)
    clear h hK K hbx1_8 hwx1_8 hgx1_8
    (try simp only [pS])
    refine callH 2 (oN 10 (cF1 77 #[oT 9] #[66]) 66 "ref.go:177" #[jD 1]) (kI _) ?_
    (rintro e wx1_9 ⟨R1,rfl,hR1,hbx1_9⟩)
    have hSx1_9:=below_next hSx1_8 hbx1_9
    replace rx1_8:=rx1_8.still hbx1_9
    refine ⟨_,rfl,hSx1_9,?_⟩
    clear hbx1_9
    (try simp only [pS])
    refine callH 3 (oN 11 (cF1 71 #[oT 8,oT 10] #[66,66]) 66 "ref.go:177" #[jD 0,jD 2,jC 2]) (kQ R1 hR1 _) ?_
    (rintro e wx1_10 ⟨Q,rfl,hQ,hbx1_10⟩)
    have hSx1_10:=below_next hSx1_9 hbx1_10
    replace rx1_8:=rx1_8.still hbx1_10
    refine ⟨_,rfl,hSx1_10,?_⟩
    clear hbx1_10
    (try simp only [pS])
    refine wpAnyH_ready (rs:=[5]) (by kernel_rfl) (by simp) ?_
    refine AllReadyH.cons (o:=qx1x5) rfl (fun K hK => ?_) (AllReadyH.nil)
    unfold qx1x5
    rw [if_pos (by rfl)]
    refine ref_store _ _ rfl gx1_8 (fun _=>0) Q rfl rfl rx1_8 hSx1_10 Gx1_8 (fun wx1_11 r0 hSx1_11 => ?_)
    refine hK.out _ _ hSx1_11 (fun h => ?_)
    clear h hK K rx1_8
    have rx1_8:=r0
    clear r0
    (try dsimp only [Act.put])
    refine wpAnyH_done (by kernel_rfl) ?_ _
    refine NoPanic.normal ?_
    go_wp2
    go_meet
    case rel=>exact ⟨gx1_8,Q,rfl,hQ,below_next hdrew hSx1_11,Nat.le_trans hdrew.size Gx1_8,rx1_8⟩
 case rest =>
 obtain ⟨g106,Q,rfl,hQ,hb106,G106,h106⟩:=hcut
 have lt4:=h4.lt
 replace hU:=hU.still hb106
 replace hV:=hV.still hb106
 replace h4:=h4.still hb106
 obtain ⟨U1,hU1⟩:∃ W,W=wc:=⟨_,rfl⟩
 rw [←hU1]
 rw [←hU1] at hU hV h4 h106 hb106
 replace hbW:Below w.heap.size w U1:=below_next hbW hb106
 have n4_106:g106≠g4:=by omega
 clear hU1 hb106 G106 lt4
 go_upto_region 2 with (fail)
 go_cut [7] from 8 (fun s7 wc=>∃ g107 Y,s7 = .pointer (some ⟨g107,0,none⟩)∧Rep Y y∧Below U1.heap.size U1 wc∧U1.heap.size≤g107∧RW wc g107 0 (i16 Y))
 case first =>
  clear kI kQ kF kT kS1 kO kS2 kS3 kB kM
  have r1:=h106.range
  replace kP:=kP Q hQ
  go_wp2_with (first
   | (refine wpList_load_mid rfl 66 _ rfl g106 0 rfl (i16 Q) _ r1 Tryz.underlying66 rfl (infoI Q) ?_)
   | (go_at_call 108;refine (kP _).mono ?_;clear kP r1;rintro e w9 ⟨Y,rfl,hY,hb9⟩;(have th:=freshR' w9);(have th':=freshRt w9 Y))
   | (with_reducible (refine id (?_:wpList _ _ _ _ _ _));refine wpList_store_mid rfl 66 _ _ rfl w9.heap.size 0 (i16 Y).toArray rfl rfl th' (infoIA Y) (oneI Y) ?_))
  go_meet
  case rel=>exact ⟨w9.heap.size,Y,rfl,hY,below_setCells hb9.size _ _ _ (hb9.alloc hb9.size _),hb9.size,th.stored (i16 Y) (by rw [i16_len,i16_len])⟩
 case rest =>
 obtain ⟨g107,Y,rfl,hY,hb107,G107,h107⟩:=hcut
 have lt4:=h4.lt
 have lt6:=h106.lt
 have lt2:=hU.lt
 have lt3:=hV.lt
 replace hU:=hU.still hb107
 replace hV:=hV.still hb107
 replace h4:=h4.still hb107
 replace h106:=h106.still hb107
 obtain ⟨U2,hU2⟩:∃ W,W=wc:=⟨_,rfl⟩
 rw [←hU2]
 rw [←hU2] at hU hV h4 h106 h107 hb107
 replace hbW:Below w.heap.size w U2:=below_next hbW hb107
 have n4_107:g107≠g4:=by omega
 have n67:g106≠g107:=by omega
 have n27:g2≠g107:=by omega
 have n37:g3≠g107:=by omega
 have w107:w.heap.size≤g107:=Nat.le_trans (Nat.le_trans w4 (Nat.le_of_lt lt4)) G107
 clear lt6 lt2 lt3
 clear hU2 hb107 G107 lt4
 go_upto_region 3 with (fail)
 replace kF:=kF Y Q hY hQ
 have r6:=h106.range
 have r7:=h107.range
 go_upto_region 4 with (first
  | (refine wpList_load_mid rfl 66 _ rfl g107 0 rfl (i16 Y) _ r7 Tryz.underlying66 rfl (infoI Y) ?_)
  | (refine wpList_load_mid rfl 66 _ rfl g106 0 rfl (i16 Q) _ r6 Tryz.underlying66 rfl (infoI Q) ?_)
  | (go_at_call 109;refine (kF _).mono ?_;clear kF r6 r7;rintro e w3 ⟨Z,rfl,hZ,hb3⟩;(replace hU:=hU.still hb3);(replace hV:=hV.still hb3);(replace h4:=h4.still hb3);(replace h106:=h106.still hb3);(replace h107:=h107.still hb3);(replace hbW:=below_next hbW hb3);clear hb3;(have t7:w3.there g107 0 (i16 Z).toArray.size:=by have:=h107.there;rw [i16_len] at this;rw [List.size_toArray,i16_len];exact this);(obtain ⟨V3,hV3⟩:∃ V,V=w3.setCells g107 0 (i16 Z):=⟨_,rfl⟩);(replace h107:=h107.stored (i16 Z) (by rw [i16_len,i16_len]));(replace hU:=hU.far g107 0 (i16 Z) (.inl n27));(replace hV:=hV.far g107 0 (i16 Z) (.inl n37));(replace h106:=h106.far g107 0 (i16 Z) (.inl n67));(replace h4:=h4.far g107 0 (i16 Z) (.inl n4_107.symm));(replace hbW:=below_setCells w107 (i16 Z) 0 _ hbW);rw [←hV3] at h107 hU hV h106 h4 hbW;(have H3:=Hid.mk' hV3);clear hV3)
  | (with_reducible (refine id (?_:wpList _ _ _ _ _ _));refine wpList_store_mid rfl 66 _ _ rfl g107 0 (i16 Z).toArray rfl rfl t7 (infoIA Z) (oneI Z) ?_;rw [List.toList_toArray,←H3.out];clear t7 H3))
 (try dsimp only [Act.put])
 replace kT:=kT Z hZ
 clear kI kQ kP hY
 go_cut [33] from 8 (fun s33 wc=>s33 = .bool (!ok)∧Below V3.heap.size V3 wc)
 case first =>
  clear kB kM Hres
  cases b1 with
  | false =>
   have hdrew:Below V3.heap.size V3 V3.drew:=(Below.refl _ _).drew
   replace hU:=hU.still hdrew
   replace hV:=hV.still hdrew
   replace h106:=h106.still hdrew
   replace h107:=h107.still hdrew
   refine wp_region_noPanic ?_
   refine wp_region_held_drew (S:=fun w'=>Below V3.drew.heap.size V3.drew w') (by kernel_rfl) (Below.refl _ _) (fun hS => ?_)
   generalize V3.drew=Vxa_ at *
   refine tkH 0 (oN 17 (Op.load 66 (oT 7)) 66 "ref.go:180" #[]) (rV Z) hS (ldH h107 66 7 Tryz.underlying66 (infoI _)) ?_
   (try simp only [pS])
   refine tkH 1 (oN 18 (Op.load 66 (oT 7)) 66 "ref.go:180" #[]) (rV Z) hS (ldH h107 66 7 Tryz.underlying66 (infoI _)) ?_
   (try simp only [pS])
   refine tkH 3 (oN 20 (Op.load 66 (oT 6)) 66 "ref.go:180" #[]) (rV Q) hS (ldH h106 66 6 Tryz.underlying66 (infoI _)) ?_
   (try simp only [pS])
   refine callH 2 (oN 19 (cF1 71 #[oT 17,oT 18] #[66,66]) 66 "ref.go:180" #[jD 0,jD 1]) (kT _) ?_
   (clear kT;rintro e wxa_1 ⟨R1,rfl,hR1,hbxa_1⟩;replace kS1:=kS1 R1 Q hR1 hQ)
   have hSxa_1:=below_next hS hbxa_1
   refine ⟨_,rfl,hSxa_1,?_⟩
   clear hbxa_1
   (try simp only [pS])
   refine callH 4 (oN 21 (cF1 75 #[oT 19,oT 20] #[66,66]) 4 "ref.go:180" #[jD 2,jD 3,jC 2]) (kS1 _) ?_
   (clear kS1;rintro e wxa_2 ⟨rfl,hbxa_2⟩)
   have hSxa_2:=below_next hSxa_1 hbxa_2
   refine ⟨_,rfl,hSxa_2,?_⟩
   clear hbxa_2
   (try simp only [pS])
   refine tkH 5 (oN 22 (Op.unOp UnOp.not 4 (oT 21)) 4 "ref.go:180" #[jD 4]) ?vxa_3 hSxa_2 (Or.inl ⟨by rfl,?hxa_3⟩) ?rxa_3
   case hxa_3 =>
    intro w hSw
    go_simp
    try with_reducible rfl
   (try simp only [pS])
   refine tkH 6 (oN 23 (Op.move (oT 22)) 4 "ref.go:180" #[jD 5,jC 4]) ?vxa_4 hSxa_2 (Or.inl ⟨by rfl,?hxa_4⟩) ?rxa_4
   case hxa_4 =>
    intro w hSw
    go_simp
    try with_reducible rfl
   (try simp only [pS])
   refine tkH 7 ({ dst:=some 24,op:=Op.load 66 (oT 3),type:=66,pos := "ref.go:180", after:=#[jG 6],guard:=some (6,false) }) undef hSxa_2 (Or.inr ⟨by rfl,rfl⟩) ?_
   (try simp only [pS])
   refine tkH 8 ({ dst:=some 25,op:=cF1 70 #[Operand.const (Value.int IntKind.i64 0)] #[3],type:=66,pos := "ref.go:180", after:=#[jC 6,jG 6],guard:=some (6,false) }) undef hSxa_2 (Or.inr ⟨by rfl,rfl⟩) ?_
   (try simp only [pS])
   refine tkH 9 ({ dst:=some 26,op:=cF1 75 #[oT 24,oT 25] #[66,66],type:=4,pos := "ref.go:180", after:=#[jD 7,jD 8,jC 8,jG 6],guard:=some (6,false) }) undef hSxa_2 (Or.inr ⟨by rfl,rfl⟩) ?_
   (try simp only [pS])
   refine tkH 10 ({ dst:=some 27,op:=Op.move (oT 26),type:=4,pos := "ref.go:180", after:=#[jD 9,jC 9,jG 6],guard:=some (6,false) }) undef hSxa_2 (Or.inr ⟨by rfl,rfl⟩) ?_
   (try simp only [pS])
   refine tkH 11 ({ dst:=some 28,op:=Op.load 66 (oT 2),type:=66,pos := "ref.go:180", after:=#[jG 10],guard:=some (10,true) }) undef hSxa_2 (Or.inr ⟨by rfl,rfl⟩) ?_
   (try simp only [pS])
   refine tkH 12 ({ dst:=some 29,op:=cF1 70 #[Operand.const (Value.int IntKind.i64 0)] #[3],type:=66,pos := "ref.go:180", after:=#[jC 10,jG 10],guard:=some (10,true) }) undef hSxa_2 (Or.inr ⟨by rfl,rfl⟩) ?_
   (try simp only [pS])
   refine tkH 13 ({ dst:=some 30,op:=cF1 75 #[oT 28,oT 29] #[66,66],type:=4,pos := "ref.go:180", after:=#[jD 11,jD 12,jC 12,jG 10],guard:=some (10,true) }) undef hSxa_2 (Or.inr ⟨by rfl,rfl⟩) ?_
   (try simp only [pS])
   refine tkH 14 ({ dst:=some 31,op:=Op.unOp UnOp.not 4 (oT 30),type:=4,pos := "ref.go:180", after:=#[jD 13,jG 10],guard:=some (10,true) }) undef hSxa_2 (Or.inr ⟨by rfl,rfl⟩) ?_
   (try simp only [pS])
   refine tkH 15 ({ dst:=some 32,op:=Op.pick (oT 27) (oT 31) (Operand.const (Value.bool false)),type:=4,pos := "ref.go:180", after:=#[jD 10,jD 14,jG 6],guard:=some (6,false) }) undef hSxa_2 (Or.inr ⟨by rfl,rfl⟩) ?_
   (try simp only [pS])
   refine tkH 16 (oN 33 (Op.pick (oT 23) (Operand.const (Value.bool true)) (oT 32)) 4 "ref.go:180" #[jD 6,jD 15]) ?vxa_5 hSxa_2 (Or.inl ⟨by rfl,?hxa_5⟩) ?rxa_5
   case hxa_5 =>
    intro w hSw
    go_simp
    try with_reducible rfl
   (try simp only [pS])
   refine wpAnyH_done (by kernel_rfl) ?_ _
   refine NoPanic.normal ?_
   go_wp2
   go_meet
   case rel=>exact ⟨by rw [Hok.out];rfl,below_next hdrew hSxa_2⟩
  | true =>
   cases b2 with
   | false =>
    have hdrew:Below V3.heap.size V3 V3.drew:=(Below.refl _ _).drew
    replace hU:=hU.still hdrew
    replace hV:=hV.still hdrew
    replace h106:=h106.still hdrew
    replace h107:=h107.still hdrew
    refine wp_region_noPanic ?_
    refine wp_region_held_drew (S:=fun w'=>Below V3.drew.heap.size V3.drew w') (by kernel_rfl) (Below.refl _ _) (fun hS => ?_)
    generalize V3.drew=Vxb_ at *
    refine tkH 0 (oN 17 (Op.load 66 (oT 7)) 66 "ref.go:180" #[]) (rV Z) hS (ldH h107 66 7 Tryz.underlying66 (infoI _)) ?_
    (try simp only [pS])
    refine tkH 1 (oN 18 (Op.load 66 (oT 7)) 66 "ref.go:180" #[]) (rV Z) hS (ldH h107 66 7 Tryz.underlying66 (infoI _)) ?_
    (try simp only [pS])
    refine tkH 3 (oN 20 (Op.load 66 (oT 6)) 66 "ref.go:180" #[]) (rV Q) hS (ldH h106 66 6 Tryz.underlying66 (infoI _)) ?_
    (try simp only [pS])
    refine callH 2 (oN 19 (cF1 71 #[oT 17,oT 18] #[66,66]) 66 "ref.go:180" #[jD 0,jD 1]) (kT _) ?_
    (clear kT;rintro e wxb_1 ⟨R1,rfl,hR1,hbxb_1⟩;replace kS1:=kS1 R1 Q hR1 hQ)
    have hSxb_1:=below_next hS hbxb_1
    refine ⟨_,rfl,hSxb_1,?_⟩
    clear hbxb_1
    (try simp only [pS])
    refine callH 4 (oN 21 (cF1 75 #[oT 19,oT 20] #[66,66]) 4 "ref.go:180" #[jD 2,jD 3,jC 2]) (kS1 _) ?_
    (clear kS1;rintro e wxb_2 ⟨rfl,hbxb_2⟩)
    have hSxb_2:=below_next hSxb_1 hbxb_2
    refine ⟨_,rfl,hSxb_2,?_⟩
    clear hbxb_2
    (try simp only [pS])
    refine tkH 5 (oN 22 (Op.unOp UnOp.not 4 (oT 21)) 4 "ref.go:180" #[jD 4]) ?vxb_3 hSxb_2 (Or.inl ⟨by rfl,?hxb_3⟩) ?rxb_3
    case hxb_3 =>
     intro w hSw
     go_simp
     try with_reducible rfl
    (try simp only [pS])
    refine tkH 6 (oN 23 (Op.move (oT 22)) 4 "ref.go:180" #[jD 5,jC 4]) ?vxb_4 hSxb_2 (Or.inl ⟨by rfl,?hxb_4⟩) ?rxb_4
    case hxb_4 =>
     intro w hSw
     go_simp
     try with_reducible rfl
    (try simp only [pS])
    refine tkH 7 ({ dst:=some 24,op:=Op.load 66 (oT 3),type:=66,pos := "ref.go:180", after:=#[jG 6],guard:=some (6,false) }) (rV V) hSxb_2 (ldH hV 66 3 Tryz.underlying66 (infoI _)) ?_
    (try simp only [pS])
    refine callH 8 ({ dst:=some 25,op:=cF1 70 #[Operand.const (Value.int IntKind.i64 0)] #[3],type:=66,pos := "ref.go:180", after:=#[jC 6,jG 6],guard:=some (6,false) }) (kO _) ?_
    (rintro e wxb_5 ⟨O1,rfl,hO1,hbxb_5⟩)
    have hSxb_5:=below_next hSxb_2 hbxb_5
    refine ⟨_,rfl,hSxb_5,?_⟩
    clear hbxb_5
    (try simp only [pS])
    refine callH 9 ({ dst:=some 26,op:=cF1 75 #[oT 24,oT 25] #[66,66],type:=4,pos := "ref.go:180", after:=#[jD 7,jD 8,jC 8,jG 6],guard:=some (6,false) }) (kS2 O1 hO1 _) ?_
    (clear kS2;rintro e wxb_6 ⟨rfl,hbxb_6⟩)
    have hSxb_6:=below_next hSxb_5 hbxb_6
    refine ⟨_,rfl,hSxb_6,?_⟩
    clear hbxb_6
    (try simp only [pS])
    refine tkH 10 ({ dst:=some 27,op:=Op.move (oT 26),type:=4,pos := "ref.go:180", after:=#[jD 9,jC 9,jG 6],guard:=some (6,false) }) ?vxb_7 hSxb_6 (Or.inl ⟨by rfl,?hxb_7⟩) ?rxb_7
    case hxb_7 =>
     intro w hSw
     go_simp
     try with_reducible rfl
    (try simp only [pS])
    refine tkH 11 ({ dst:=some 28,op:=Op.load 66 (oT 2),type:=66,pos := "ref.go:180", after:=#[jG 10],guard:=some (10,true) }) undef hSxb_6 (Or.inr ⟨by rfl,rfl⟩) ?_
    (try simp only [pS])
    refine tkH 12 ({ dst:=some 29,op:=cF1 70 #[Operand.const (Value.int IntKind.i64 0)] #[3],type:=66,pos := "ref.go:180", after:=#[jC 10,jG 10],guard:=some (10,true) }) undef hSxb_6 (Or.inr ⟨by rfl,rfl⟩) ?_
    (try simp only [pS])
    refine tkH 13 ({ dst:=some 30,op:=cF1 75 #[oT 28,oT 29] #[66,66],type:=4,pos := "ref.go:180", after:=#[jD 11,jD 12,jC 12,jG 10],guard:=some (10,true) }) undef hSxb_6 (Or.inr ⟨by rfl,rfl⟩) ?_
    (try simp only [pS])
    refine tkH 14 ({ dst:=some 31,op:=Op.unOp UnOp.not 4 (oT 30),type:=4,pos := "ref.go:180", after:=#[jD 13,jG 10],guard:=some (10,true) }) undef hSxb_6 (Or.inr ⟨by rfl,rfl⟩) ?_
    (try simp only [pS])
    refine tkH 15 ({ dst:=some 32,op:=Op.pick (oT 27) (oT 31) (Operand.const (Value.bool false)),type:=4,pos := "ref.go:180", after:=#[jD 10,jD 14,jG 6],guard:=some (6,false) }) ?vxb_8 hSxb_6 (Or.inl ⟨by rfl,?hxb_8⟩) ?rxb_8
    case hxb_8 =>
     intro w hSw
     go_simp
     try with_reducible rfl
    (try simp only [pS])
    refine tkH 16 (oN 33 (Op.pick (oT 23) (Operand.const (Value.bool true)) (oT 32)) 4 "ref.go:180" #[jD 6,jD 15]) ?vxb_9 hSxb_6 (Or.inl ⟨by rfl,?hxb_9⟩) ?rxb_9
    case hxb_9 =>
     intro w hSw
     go_simp
     try with_reducible rfl
    (try simp only [pS])
    refine wpAnyH_done (by kernel_rfl) ?_ _
    refine NoPanic.normal ?_
    go_wp2
    go_meet
    case rel=>exact ⟨by rw [Hok.out];rfl,below_next hdrew hSxb_6⟩
   | true =>
    cases b3 with
    | false =>
     have hdrew:Below V3.heap.size V3 V3.drew:=(Below.refl _ _).drew
     replace hU:=hU.still hdrew
     replace hV:=hV.still hdrew
     replace h106:=h106.still hdrew
     replace h107:=h107.still hdrew
     refine wp_region_noPanic ?_
     refine wp_region_held_drew (S:=fun w'=>Below V3.drew.heap.size V3.drew w') (by kernel_rfl) (Below.refl _ _) (fun hS => ?_)
     generalize V3.drew=Vxc_ at *
     refine tkH 0 (oN 17 (Op.load 66 (oT 7)) 66 "ref.go:180" #[]) (rV Z) hS (ldH h107 66 7 Tryz.underlying66 (infoI _)) ?_
     (try simp only [pS])
     refine tkH 1 (oN 18 (Op.load 66 (oT 7)) 66 "ref.go:180" #[]) (rV Z) hS (ldH h107 66 7 Tryz.underlying66 (infoI _)) ?_
     (try simp only [pS])
     refine tkH 3 (oN 20 (Op.load 66 (oT 6)) 66 "ref.go:180" #[]) (rV Q) hS (ldH h106 66 6 Tryz.underlying66 (infoI _)) ?_
     (try simp only [pS])
     refine callH 2 (oN 19 (cF1 71 #[oT 17,oT 18] #[66,66]) 66 "ref.go:180" #[jD 0,jD 1]) (kT _) ?_
     (clear kT;rintro e wxc_1 ⟨R1,rfl,hR1,hbxc_1⟩;replace kS1:=kS1 R1 Q hR1 hQ)
     have hSxc_1:=below_next hS hbxc_1
     refine ⟨_,rfl,hSxc_1,?_⟩
     clear hbxc_1
     (try simp only [pS])
     refine callH 4 (oN 21 (cF1 75 #[oT 19,oT 20] #[66,66]) 4 "ref.go:180" #[jD 2,jD 3,jC 2]) (kS1 _) ?_
     (clear kS1;rintro e wxc_2 ⟨rfl,hbxc_2⟩)
     have hSxc_2:=below_next hSxc_1 hbxc_2
     refine ⟨_,rfl,hSxc_2,?_⟩
     clear hbxc_2
     (try simp only [pS])
     refine tkH 5 (oN 22 (Op.unOp UnOp.not 4 (oT 21)) 4 "ref.go:180" #[jD 4]) ?vxc_3 hSxc_2 (Or.inl ⟨by rfl,?hxc_3⟩) ?rxc_3
     case hxc_3 =>
      intro w hSw
      go_simp
      try with_reducible rfl
     (try simp only [pS])
     refine tkH 6 (oN 23 (Op.move (oT 22)) 4 "ref.go:180" #[jD 5,jC 4]) ?vxc_4 hSxc_2 (Or.inl ⟨by rfl,?hxc_4⟩) ?rxc_4
     case hxc_4 =>
      intro w hSw
      go_simp
      try with_reducible rfl
     (try simp only [pS])
     refine tkH 7 ({ dst:=some 24,op:=Op.load 66 (oT 3),type:=66,pos := "ref.go:180", after:=#[jG 6],guard:=some (6,false) }) (rV V) hSxc_2 (ldH hV 66 3 Tryz.underlying66 (infoI _)) ?_
     (try simp only [pS])
     refine callH 8 ({ dst:=some 25,op:=cF1 70 #[Operand.const (Value.int IntKind.i64 0)] #[3],type:=66,pos := "ref.go:180", after:=#[jC 6,jG 6],guard:=some (6,false) }) (kO _) ?_
     (rintro e wxc_5 ⟨O1,rfl,hO1,hbxc_5⟩)
     have hSxc_5:=below_next hSxc_2 hbxc_5
     refine ⟨_,rfl,hSxc_5,?_⟩
     clear hbxc_5
     (try simp only [pS])
     refine callH 9 ({ dst:=some 26,op:=cF1 75 #[oT 24,oT 25] #[66,66],type:=4,pos := "ref.go:180", after:=#[jD 7,jD 8,jC 8,jG 6],guard:=some (6,false) }) (kS2 O1 hO1 _) ?_
     (clear kS2;rintro e wxc_6 ⟨rfl,hbxc_6⟩)
     have hSxc_6:=below_next hSxc_5 hbxc_6
     refine ⟨_,rfl,hSxc_6,?_⟩
     clear hbxc_6
     (try simp only [pS])
     refine tkH 10 ({ dst:=some 27,op:=Op.move (oT 26),type:=4,pos := "ref.go:180", after:=#[jD 9,jC 9,jG 6],guard:=some (6,false) }) ?vxc_7 hSxc_6 (Or.inl ⟨by rfl,?hxc_7⟩) ?rxc_7
     case hxc_7 =>
      intro w hSw
      go_simp
      try with_reducible rfl
     (try simp only [pS])
     refine tkH 11 ({ dst:=some 28,op:=Op.load 66 (oT 2),type:=66,pos := "ref.go:180", after:=#[jG 10],guard:=some (10,true) }) (rV U) hSxc_6 (ldH hU 66 2 Tryz.underlying66 (infoI _)) ?_
     (try simp only [pS])
     refine callH 12 ({ dst:=some 29,op:=cF1 70 #[Operand.const (Value.int IntKind.i64 0)] #[3],type:=66,pos := "ref.go:180", after:=#[jC 10,jG 10],guard:=some (10,true) }) (kO _) ?_
     (rintro e wxc_8 ⟨O2,rfl,hO2,hbxc_8⟩)
     have hSxc_8:=below_next hSxc_6 hbxc_8
     refine ⟨_,rfl,hSxc_8,?_⟩
     clear hbxc_8
     (try simp only [pS])
     refine callH 13 ({ dst:=some 30,op:=cF1 75 #[oT 28,oT 29] #[66,66],type:=4,pos := "ref.go:180", after:=#[jD 11,jD 12,jC 12,jG 10],guard:=some (10,true) }) (kS3 O2 hO2 _) ?_
     (clear kS3;rintro e wxc_9 ⟨rfl,hbxc_9⟩)
     have hSxc_9:=below_next hSxc_8 hbxc_9
     refine ⟨_,rfl,hSxc_9,?_⟩
     clear hbxc_9
     (try simp only [pS])
     refine tkH 14 ({ dst:=some 31,op:=Op.unOp UnOp.not 4 (oT 30),type:=4,pos := "ref.go:180", after:=#[jD 13,jG 10],guard:=some (10,true) }) ?vxc_10 hSxc_9 (Or.inl ⟨by rfl,?hxc_10⟩) ?rxc_10
     case hxc_10 =>
      intro w hSw
      go_simp
      try with_reducible rfl
     (try simp only [pS])
     refine tkH 15 ({ dst:=some 32,op:=Op.pick (oT 27) (oT 31) (Operand.const (Value.bool false)),type:=4,pos := "ref.go:180", after:=#[jD 10,jD 14,jG 6],guard:=some (6,false) }) ?vxc_11 hSxc_9 (Or.inl ⟨by rfl,?hxc_11⟩) ?rxc_11
     case hxc_11 =>
      intro w hSw
      go_simp
      try with_reducible rfl
     (try simp only [pS])
     refine tkH 16 (oN 33 (Op.pick (oT 23) (Operand.const (Value.bool true)) (oT 32)) 4 "ref.go:180" #[jD 6,jD 15]) ?vxc_12 hSxc_9 (Or.inl ⟨by rfl,?hxc_12⟩) ?rxc_12
     case hxc_12 =>
      intro w hSw
      go_simp
      try with_reducible rfl
     (try simp only [pS])
     refine wpAnyH_done (by kernel_rfl) ?_ _
     refine NoPanic.normal ?_
     go_wp2
     go_meet
     case rel=>exact ⟨by rw [Hok.out];rfl,below_next hdrew hSxc_9⟩
    | true =>
     have hdrew:Below V3.heap.size V3 V3.drew:=(Below.refl _ _).drew
     replace hU:=hU.still hdrew
     replace hV:=hV.still hdrew
     replace h106:=h106.still hdrew
     replace h107:=h107.still hdrew
     refine wp_region_noPanic ?_
     refine wp_region_held_drew (S:=fun w'=>Below V3.drew.heap.size V3.drew w') (by kernel_rfl) (Below.refl _ _) (fun hS => ?_)
     generalize V3.drew=Vxd_ at *
     refine tkH 0 (oN 17 (Op.load 66 (oT 7)) 66 "ref.go:180" #[]) (rV Z) hS (ldH h107 66 7 Tryz.underlying66 (infoI _)) ?_
     (try simp only [pS])
     refine tkH 1 (oN 18 (Op.load 66 (oT 7)) 66 "ref.go:180" #[]) (rV Z) hS (ldH h107 66 7 Tryz.underlying66 (infoI _)) ?_
     (try simp only [pS])
     refine tkH 3 (oN 20 (Op.load 66 (oT 6)) 66 "ref.go:180" #[]) (rV Q) hS (ldH h106 66 6 Tryz.underlying66 (infoI _)) ?_
     (try simp only [pS])
     refine callH 2 (oN 19 (cF1 71 #[oT 17,oT 18] #[66,66]) 66 "ref.go:180" #[jD 0,jD 1]) (kT _) ?_
     (clear kT;rintro e wxd_1 ⟨R1,rfl,hR1,hbxd_1⟩;replace kS1:=kS1 R1 Q hR1 hQ)
     have hSxd_1:=below_next hS hbxd_1
     refine ⟨_,rfl,hSxd_1,?_⟩
     clear hbxd_1
     (try simp only [pS])
     refine callH 4 (oN 21 (cF1 75 #[oT 19,oT 20] #[66,66]) 4 "ref.go:180" #[jD 2,jD 3,jC 2]) (kS1 _) ?_
     (clear kS1;rintro e wxd_2 ⟨rfl,hbxd_2⟩)
     have hSxd_2:=below_next hSxd_1 hbxd_2
     refine ⟨_,rfl,hSxd_2,?_⟩
     clear hbxd_2
     (try simp only [pS])
     refine tkH 5 (oN 22 (Op.unOp UnOp.not 4 (oT 21)) 4 "ref.go:180" #[jD 4]) ?vxd_3 hSxd_2 (Or.inl ⟨by rfl,?hxd_3⟩) ?rxd_3
     case hxd_3 =>
      intro w hSw
      go_simp
      try with_reducible rfl
     (try simp only [pS])
     refine tkH 6 (oN 23 (Op.move (oT 22)) 4 "ref.go:180" #[jD 5,jC 4]) ?vxd_4 hSxd_2 (Or.inl ⟨by rfl,?hxd_4⟩) ?rxd_4
     case hxd_4 =>
      intro w hSw
      go_simp
      try with_reducible rfl
     (try simp only [pS])
     refine tkH 7 ({ dst:=some 24,op:=Op.load 66 (oT 3),type:=66,pos := "ref.go:180", after:=#[jG 6],guard:=some (6,false) }) (rV V) hSxd_2 (ldH hV 66 3 Tryz.underlying66 (infoI _)) ?_
     (try simp only [pS])
     refine callH 8 ({ dst:=some 25,op:=cF1 70 #[Operand.const (Value.int IntKind.i64 0)] #[3],type:=66,pos := "ref.go:180", after:=#[jC 6,jG 6],guard:=some (6,false) }) (kO _) ?_
     (rintro e wxd_5 ⟨O1,rfl,hO1,hbxd_5⟩)
     have hSxd_5:=below_next hSxd_2 hbxd_5
     refine ⟨_,rfl,hSxd_5,?_⟩
     clear hbxd_5
     (try simp only [pS])
     refine callH 9 ({ dst:=some 26,op:=cF1 75 #[oT 24,oT 25] #[66,66],type:=4,pos := "ref.go:180", after:=#[jD 7,jD 8,jC 8,jG 6],guard:=some (6,false) }) (kS2 O1 hO1 _) ?_
     (clear kS2;rintro e wxd_6 ⟨rfl,hbxd_6⟩)
     have hSxd_6:=below_next hSxd_5 hbxd_6
     refine ⟨_,rfl,hSxd_6,?_⟩
     clear hbxd_6
     (try simp only [pS])
     refine tkH 10 ({ dst:=some 27,op:=Op.move (oT 26),type:=4,pos := "ref.go:180", after:=#[jD 9,jC 9,jG 6],guard:=some (6,false) }) ?vxd_7 hSxd_6 (Or.inl ⟨by rfl,?hxd_7⟩) ?rxd_7
     case hxd_7 =>
      intro w hSw
      go_simp
      try with_reducible rfl
     (try simp only [pS])
     refine tkH 11 ({ dst:=some 28,op:=Op.load 66 (oT 2),type:=66,pos := "ref.go:180", after:=#[jG 10],guard:=some (10,true) }) (rV U) hSxd_6 (ldH hU 66 2 Tryz.underlying66 (infoI _)) ?_
     (try simp only [pS])
     refine callH 12 ({ dst:=some 29,op:=cF1 70 #[Operand.const (Value.int IntKind.i64 0)] #[3],type:=66,pos := "ref.go:180", after:=#[jC 10,jG 10],guard:=some (10,true) }) (kO _) ?_
     (rintro e wxd_8 ⟨O2,rfl,hO2,hbxd_8⟩)
     have hSxd_8:=below_next hSxd_6 hbxd_8
     refine ⟨_,rfl,hSxd_8,?_⟩
     clear hbxd_8
     (try simp only [pS])
     refine callH 13 ({ dst:=some 30,op:=cF1 75 #[oT 28,oT 29] #[66,66],type:=4,pos := "ref.go:180", after:=#[jD 11,jD 12,jC 12,jG 10],guard:=some (10,true) }) (kS3 O2 hO2 _) ?_
     (clear kS3;rintro e wxd_9 ⟨rfl,hbxd_9⟩)
     have hSxd_9:=below_next hSxd_8 hbxd_9
     refine ⟨_,rfl,hSxd_9,?_⟩
     clear hbxd_9
     (try simp only [pS])
     refine tkH 14 ({ dst:=some 31,op:=Op.unOp UnOp.not 4 (oT 30),type:=4,pos := "ref.go:180", after:=#[jD 13,jG 10],guard:=some (10,true) }) ?vxd_10 hSxd_9 (Or.inl ⟨by rfl,?hxd_10⟩) ?rxd_10
     case hxd_10 =>
      intro w hSw
      go_simp
      try with_reducible rfl
     (try simp only [pS])
     refine tkH 15 ({ dst:=some 32,op:=Op.pick (oT 27) (oT 31) (Operand.const (Value.bool false)),type:=4,pos := "ref.go:180", after:=#[jD 10,jD 14,jG 6],guard:=some (6,false) }) ?vxd_11 hSxd_9 (Or.inl ⟨by rfl,?hxd_11⟩) ?rxd_11
     case hxd_11 =>
      intro w hSw
      go_simp
      try with_reducible rfl
     (try simp only [pS])
     refine tkH 16 (oN 33 (Op.pick (oT 23) (Operand.const (Value.bool true)) (oT 32)) 4 "ref.go:180" #[jD 6,jD 15]) ?vxd_12 hSxd_9 (Or.inl ⟨by rfl,?hxd_12⟩) ?rxd_12
     case hxd_12 =>
      intro w hSw
      go_simp
      try with_reducible rfl
     (try simp only [pS])
     refine wpAnyH_done (by kernel_rfl) ?_ _
     refine NoPanic.normal ?_
     go_wp2
     go_meet
     case rel=>exact ⟨by rw [Hok.out];rfl,below_next hdrew hSxd_9⟩
 case rest =>
 obtain ⟨rfl,hb5⟩:=hcut
 replace h107:=h107.still hb5
 replace h4:=h4.still hb5
 replace hbW:=below_next hbW hb5
 clear hb5 hU hV h106 kT kS1 kS2 kS3 hQ Hok
 cases ok with
 | false =>
  have Hr:Hid (res=0):=Hid.mk' (by rw [Hres.out];rfl)
  clear Hres
  go_wp2_with (first
   | (go_at_call 70;refine (kO _).mono ?_;clear kO;rintro e w6 ⟨O,rfl,hO,hb6⟩;(replace h4:=h4.still hb6);(replace hbW:=below_next hbW hb6);(have t4:w6.there g4 0 (i16 O).toArray.size:=by have:=h4.there;rw [i16_len] at this;rw [List.size_toArray,i16_len];exact this))
   | (with_reducible (refine id (?_:wpList _ _ _ _ _ _));refine wpList_store_mid rfl 66 _ _ rfl g4 0 (i16 O).toArray rfl rfl t4 (infoIA O) (oneI O) ?_))
  (try simp only [Exit.inBlock,Exit.then])
  exact bodyPost_ret (results_cell_tmp Tryz.results72 _ _ g4 0 (i16 O) _ rfl (h4.stored (i16 O) (by rw [i16_len,i16_len])).range Tryz.underlying66 rfl (infoI _)) rfl ⟨O,rfl,by rw [Hr.out];exact hO.wide,below_setCells w4 _ _ _ hbW⟩
 | true =>
  replace kB:=kB Z hZ
  cases hpar:(zc%2 == 1) with
  | false =>
   have Hr:Hid (res=z):=Hid.mk' (by rw [Hres.out,if_pos rfl,if_neg (by simpa using hpar)])
   have hrem:=rem2_even hpar
   clear Hres hpar kM kO
   go_wp2_with (first
    | (refine wpList_load_mid rfl 66 _ rfl g107 0 rfl (i16 Z) _ h107.range Tryz.underlying66 rfl (infoI _) ?_)
    | (go_at_call 69;refine (kB _).mono ?_;clear kB;rintro e w6 ⟨s6,rfl,hs6,hb6⟩;(replace h4:=h4.still hb6);(replace h107:=h107.still hb6);(replace hbW:=below_next hbW hb6);clear hb6;(obtain ⟨bb,ob,cap,hsl,hl,hcap,hc⟩:∃ bb ob cap,s6 = .slice (some ⟨bb,ob,none⟩) 32 cap∧bb<w6.heap.size∧32≤cap∧∀ j,j<32→w6.cell? ⟨bb,ob+j,none⟩=some (.int .u8 (byt zc j)):=hs6.resolve_left (fun ⟨_,_,h⟩=>by omega));subst hsl;clear hs6;(have cc:=hc 0 (by decide));rw [Nat.add_zero] at cc;clear hc;(have t4:w6.there g4 0 (i16 Z).toArray.size:=by have:=h4.there;rw [i16_len] at this;rw [List.size_toArray,i16_len];exact this))
    | (with_reducible (refine id (?_:wpList _ _ _ _ _ _));refine wpList_store_mid rfl 66 _ _ rfl g4 0 (i16 Z).toArray rfl rfl t4 (infoIA Z) (oneI Z) ?_))
   (try simp only [Exit.inBlock,Exit.then])
   exact bodyPost_ret (results_cell_tmp Tryz.results72 _ _ g4 0 (i16 Z) _ rfl (h4.stored (i16 Z) (by rw [i16_len,i16_len])).range Tryz.underlying66 rfl (infoI _)) rfl ⟨Z,rfl,by rw [Hr.out];exact hZ.wide,below_setCells w4 _ _ _ hbW⟩
  | true =>
   have Hr:Hid (res=nz):=Hid.mk' (by rw [Hres.out,if_pos rfl,if_pos (by simpa using hpar)])
   have hrem:=rem2_odd hpar
   clear Hres hpar
   go_upto_region 7 with (first
    | (refine wpList_load_mid rfl 66 _ rfl g107 0 rfl (i16 Z) _ h107.range Tryz.underlying66 rfl (infoI _) ?_)
    | (go_at_call 69;refine (kB _).mono ?_;clear kB;rintro e w6 ⟨s6,rfl,hs6,hb6⟩;(replace h4:=h4.still hb6);(replace h107:=h107.still hb6);(replace hbW:=below_next hbW hb6);clear hb6;(obtain ⟨bb,ob,cap,hsl,hl,hcap,hc⟩:∃ bb ob cap,s6 = .slice (some ⟨bb,ob,none⟩) 32 cap∧bb<w6.heap.size∧32≤cap∧∀ j,j<32→w6.cell? ⟨bb,ob+j,none⟩=some (.int .u8 (byt zc j)):=hs6.resolve_left (fun ⟨_,_,h⟩=>by omega));subst hsl;clear hs6;(have cc:=hc 0 (by decide));rw [Nat.add_zero] at cc;clear hc))
   (try simp only [pS])
   clear hrem cc hcap hl
   have kM':=fun O hO=>kM O Z hO hZ
   clear kM
   have hdrew:Below w6.heap.size w6 w6.drew:=(Below.refl _ _).drew
   replace hbW:=below_next hbW hdrew
   replace h4:=h4.still hdrew
   replace h107:=h107.still hdrew
   refine wp_region_noPanic ?_
   refine wp_region_held_drew (S:=fun _=>True) (by kernel_rfl) trivial (fun _ => ?_)
   generalize w6.drew=Vxe_ at *
   refine wpAnyH_ready (rs:=[0,1]) (by kernel_rfl) (by simp) ?_
   refine AllReadyH.cons (o:=oN 41 (cF1 70 #[Operand.const (Value.int IntKind.i64 0)] #[3]) 66 "ref.go:184" #[]) rfl (fun K hK => ?_) (AllReadyH.cons (o:=oN 42 (Op.load 66 (oT 7)) 66 "ref.go:184" #[]) rfl (fun K hK => ?_) (AllReadyH.nil))
   · go_simp
     (go_at_call 70;refine (kO _).mono ?_;clear kO;rintro e wxe_1 ⟨O,rfl,hO,hbS⟩;(replace h4:=h4.still hbS);(replace h107:=h107.still hbS);(replace hbW:=below_next hbW hbS);clear hbS)
     (try go_simp)
     refine hK.out _ _ trivial (fun h => ?_)
     clear h hK K
     (try simp only [pS])
     refine wpAnyH_ready (rs:=[1]) (by kernel_rfl) (by simp) ?_
     refine AllReadyH.cons (o:=oN 42 (Op.load 66 (oT 7)) 66 "ref.go:184" #[]) rfl (fun K hK => ?_) (AllReadyH.nil)
     rw [if_pos (by rfl)]
     refine wp_load_mid 66 _ rfl g107 0 rfl (i16 Z) _ h107.range Tryz.underlying66 rfl (infoI _) ?_
     refine hK.out _ _ trivial (fun h => ?_)
     clear h hK K
     rw [show Value.agg (i16 Z).toArray=rV Z from rfl]
     (try simp only [pS])
     refine wpAnyH_ready (rs:=[2]) (by kernel_rfl) (by simp) ?_
     refine AllReadyH.cons (o:=oN 43 (cF1 73 #[oT 41,oT 42] #[66,66]) 66 "ref.go:184" #[jD 0,jD 1,jC 0]) rfl (fun K hK => ?_) (AllReadyH.nil)
     go_simp
     (go_at_call 73;refine (kM' O hO _).mono ?_;clear kM';rintro e wxe_3 ⟨MZ,rfl,hMZ,hbS⟩;(replace h4:=h4.still hbS);(replace h107:=h107.still hbS);(replace hbW:=below_next hbW hbS);clear hbS)
     (try go_simp)
     refine hK.out _ _ trivial (fun h => ?_)
     clear h hK K
     (try simp only [pS])
     refine wpAnyH_ready (rs:=[3]) (by kernel_rfl) (by simp) ?_
     refine AllReadyH.cons (o:=oS (Op.store 66 (oT 7) (oT 43)) "ref.go:184" #[jD 2,jC 2,jP 0,jP 1,jP 2]) rfl (fun K hK => ?_) (AllReadyH.nil)
     rw [if_pos (by rfl)]
     refine wp_store_mid 66 _ _ rfl g107 0 (i16 MZ).toArray rfl rfl (by have:=h107.there;rw [i16_len] at this;rw [List.size_toArray,i16_len];exact this) (infoIA _) (oneI _) ?_
     have Oxe_4:=Out.setCells (b:=g107) (o:=0) (n:=(i16 MZ).length) wxe_3 (i16 MZ) (Nat.le_refl _) (Nat.le_refl _)
     replace hbW:=below_setCells w107 (i16 MZ) 0 _ hbW
     replace h107:=h107.stored (i16 MZ) (by rw [i16_len,i16_len])
     replace h4:=h4.far g107 0 (i16 MZ) (.inl n4_107.symm)
     obtain ⟨wxe_4,hwxe_4⟩:∃ W,wxe_3.setCells g107 0 (i16 MZ)=W:=⟨_,rfl⟩
     rw [hwxe_4] at h4
     rw [hwxe_4] at hbW
     rw [hwxe_4] at h107
     rw [hwxe_4] at Oxe_4
     rw [show wxe_3.setCells g107 0 (i16 MZ).toArray.toList=wxe_4 from hwxe_4]
     refine hK.out _ _ trivial (fun h => ?_)
     clear h hK K hwxe_4
     (try dsimp only [Act.put])
     refine wpAnyH_done (by kernel_rfl) ?_ _
     refine NoPanic.normal ?_
     have t4:wxe_4.there g4 0 (i16 MZ).toArray.size:=by have:=h4.there;rw [i16_len] at this;rw [List.size_toArray,i16_len];exact this
     go_wp2_with (first
      | (refine wpList_load_mid rfl 66 _ rfl g107 0 rfl (i16 MZ) _ h107.range Tryz.underlying66 rfl (infoI _) ?_)
      | (with_reducible (refine id (?_:wpList _ _ _ _ _ _));refine wpList_store_mid rfl 66 _ _ rfl g4 0 (i16 MZ).toArray rfl rfl t4 (infoIA MZ) (oneI MZ) ?_))
     (try simp only [Exit.inBlock,Exit.then])
     exact bodyPost_ret (results_cell_tmp Tryz.results72 _ _ g4 0 (i16 MZ) _ rfl (h4.stored (i16 MZ) (by rw [i16_len,i16_len])).range Tryz.underlying66 rfl (infoI _)) rfl ⟨MZ,rfl,by rw [Hr.out];exact hMZ,below_setCells w4 _ _ _ hbW⟩
   · rw [if_pos (by rfl)]
     refine wp_load_mid 66 _ rfl g107 0 rfl (i16 Z) _ h107.range Tryz.underlying66 rfl (infoI _) ?_
     refine hK.out _ _ trivial (fun h => ?_)
     clear h hK K
     rw [show Value.agg (i16 Z).toArray=rV Z from rfl]
     (try simp only [pS])
     refine wpAnyH_ready (rs:=[0]) (by kernel_rfl) (by simp) ?_
     refine AllReadyH.cons (o:=oN 41 (cF1 70 #[Operand.const (Value.int IntKind.i64 0)] #[3]) 66 "ref.go:184" #[]) rfl (fun K hK => ?_) (AllReadyH.nil)
     go_simp
     (go_at_call 70;refine (kO _).mono ?_;clear kO;rintro e wxe_6 ⟨O,rfl,hO,hbS⟩;(replace h4:=h4.still hbS);(replace h107:=h107.still hbS);(replace hbW:=below_next hbW hbS);clear hbS)
     (try go_simp)
     refine hK.out _ _ trivial (fun h => ?_)
     clear h hK K
     (try simp only [pS])
     refine wpAnyH_ready (rs:=[2]) (by kernel_rfl) (by simp) ?_
     refine AllReadyH.cons (o:=oN 43 (cF1 73 #[oT 41,oT 42] #[66,66]) 66 "ref.go:184" #[jD 0,jD 1,jC 0]) rfl (fun K hK => ?_) (AllReadyH.nil)
     go_simp
     (go_at_call 73;refine (kM' O hO _).mono ?_;clear kM';rintro e wxe_7 ⟨MZ,rfl,hMZ,hbS⟩;(replace h4:=h4.still hbS);(replace h107:=h107.still hbS);(replace hbW:=below_next hbW hbS);clear hbS)
     (try go_simp)
     refine hK.out _ _ trivial (fun h => ?_)
     clear h hK K
     (try simp only [pS])
     refine wpAnyH_ready (rs:=[3]) (by kernel_rfl) (by simp) ?_
     refine AllReadyH.cons (o:=oS (Op.store 66 (oT 7) (oT 43)) "ref.go:184" #[jD 2,jC 2,jP 0,jP 1,jP 2]) rfl (fun K hK => ?_) (AllReadyH.nil)
     rw [if_pos (by rfl)]
     refine wp_store_mid 66 _ _ rfl g107 0 (i16 MZ).toArray rfl rfl (by have:=h107.there;rw [i16_len] at this;rw [List.size_toArray,i16_len];exact this) (infoIA _) (oneI _) ?_
     have Oxe_8:=Out.setCells (b:=g107) (o:=0) (n:=(i16 MZ).length) wxe_7 (i16 MZ) (Nat.le_refl _) (Nat.le_refl _)
     replace hbW:=below_setCells w107 (i16 MZ) 0 _ hbW
     replace h107:=h107.stored (i16 MZ) (by rw [i16_len,i16_len])
     replace h4:=h4.far g107 0 (i16 MZ) (.inl n4_107.symm)
     obtain ⟨wxe_8,hwxe_8⟩:∃ W,wxe_7.setCells g107 0 (i16 MZ)=W:=⟨_,rfl⟩
     rw [hwxe_8] at h4
     rw [hwxe_8] at hbW
     rw [hwxe_8] at h107
     rw [hwxe_8] at Oxe_8
     rw [show wxe_7.setCells g107 0 (i16 MZ).toArray.toList=wxe_8 from hwxe_8]
     refine hK.out _ _ trivial (fun h => ?_)
     clear h hK K hwxe_8
     (try dsimp only [Act.put])
     refine wpAnyH_done (by kernel_rfl) ?_ _
     refine NoPanic.normal ?_
     have t4:wxe_8.there g4 0 (i16 MZ).toArray.size:=by have:=h4.there;rw [i16_len] at this;rw [List.size_toArray,i16_len];exact this
     go_wp2_with (first
      | (refine wpList_load_mid rfl 66 _ rfl g107 0 rfl (i16 MZ) _ h107.range Tryz.underlying66 rfl (infoI _) ?_)
      | (with_reducible (refine id (?_:wpList _ _ _ _ _ _));refine wpList_store_mid rfl 66 _ _ rfl g4 0 (i16 MZ).toArray rfl rfl t4 (infoIA MZ) (oneI MZ) ?_))
     (try simp only [Exit.inBlock,Exit.then])
     exact bodyPost_ret (results_cell_tmp Tryz.results72 _ _ g4 0 (i16 MZ) _ rfl (h4.stored (i16 MZ) (by rw [i16_len,i16_len])).range Tryz.underlying66 rfl (infoI _)) rfl ⟨MZ,rfl,by rw [Hr.out];exact hMZ,below_setCells w4 _ _ _ hbW⟩
end Go.Proofs.YtdgkmloabificaaGreatDoor
namespace Go.Proofs.YtdgkmloabificaaGreatDoor
open Go.RowKit
def NewC (w w':World) (v:Value) (n:Nat) (X:Nat→Nat):Prop:=∃ g cap,v = .slice (some ⟨g,0,none⟩) n cap∧n≤cap∧w.heap.size≤g∧RowAt .u8 w' g 0 n X
theorem NewC.bytes {w w':World} {v:Value} {n:Nat} {X:Nat→Nat} (h:NewC w w' v n X) (h0:0<n):BytesIn w' v n X:=by
 obtain ⟨g,cap,rfl,hc,-,hr⟩:=h
 exact .inr ⟨g,0,cap,rfl,block_lt_of_cell (hr 0 h0).1,hc,fun j hj=>(hr j hj).1⟩
theorem enc_bit:∀ a:Nat,a<128→∀ b:Nat,b<2→bits .or .u8 (a:Int) (((128*b:Nat)):Int)=((a+128*b:Nat):Int):=by decide +kernel
theorem and1_u8:∀ b:Nat,b<256→bits .and .u8 (b:Int) 1=((b%2:Nat):Int):=by decide +kernel
theorem byt31_lt {y:Nat} (h:y<pF):byt y 31<128:=by
 unfold byt
 have:y / 256 ^ 31<128:=Nat.div_lt_of_lt_mul (Nat.lt_of_lt_of_le h (by decide))
 exact Nat.lt_of_le_of_lt (Nat.mod_le _ _) this
def encXY (x y:Nat) (j:Nat):Nat:=if j=31 then byt y 31+128*(x%2) else byt y j
set_option maxRecDepth 20000 in
set_option maxHeartbeats 4000000 in
theorem renc_any {r:P4} {p:N4} (hr:r.Rep p) (w:World) :
 Calls Tryz.prog 36 #[r.V] w fun e w'=>∃ s,e = .returned s∧NewC w w' s 32 (encXY (fmul p.X (finv p.Z)) (fmul p.Y (finv p.Z)))∧Below w.heap.size w w':=by
 have hz:=zeroR
 have ci:∀ W,Calls Tryz.prog 77 #[.agg (i16 r.Z).toArray] W fun e w'=>∃ R,e = .returned (.agg (i16 R).toArray)∧Rw R (finv p.Z)∧Below W.heap.size W w':=fun W=>rinverse_wide r.Z _ hr.Z W
 have cx:∀ I,Rw I (finv p.Z)→∀ W,Calls Tryz.prog 71 #[.agg (i16 r.X).toArray,.agg (i16 I).toArray] W fun e w'=>∃ R,e = .returned (.agg (i16 R).toArray)∧Rw R (fmul p.X (finv p.Z))∧Below W.heap.size W w':=fun I hI W=>(rtimes_w hr.X hI W).mono fun _ _ ⟨he,hb⟩=>⟨_,he,rw_t hr.X hI,hb⟩
 have cy:∀ I,Rw I (finv p.Z)→∀ W,Calls Tryz.prog 71 #[.agg (i16 r.Y).toArray,.agg (i16 I).toArray] W fun e w'=>∃ R,e = .returned (.agg (i16 R).toArray)∧Rw R (fmul p.Y (finv p.Z))∧Below W.heap.size W w':=fun I hI W=>(rtimes_w hr.Y hI W).mono fun _ _ ⟨he,hb⟩=>⟨_,he,rw_t hr.Y hI,hb⟩
 have cB:∀ (R:Nat→Int) (a:Nat),Rw R a→a<pF→∀ W,Calls Tryz.prog 69 #[.agg (i16 R).toArray] W fun e w'=>∃ v,e = .returned v∧Own W.heap.size w' v 32 (byt a)∧Below W.heap.size W w':=fun R a hR ha W=>rw_bytes R a hR ha W
 have hxl:=fmul_lt p.X (finv p.Z)
 have hyl:=fmul_lt p.Y (finv p.Z)
 generalize fmul p.X (finv p.Z)=x at *
 generalize fmul p.Y (finv p.Z)=y at *
 generalize finv p.Z=iz at *
 have e1:=and1_u8 (byt x 0) (byt_lt x 0)
 have e2:=enc_bit (byt y 31) (byt31_lt hyl) (x%2) (Nat.mod_lt _ (by decide))
 have e0:byt x 0%2=x%2:=byt0_mod x
 rw [e0] at e1
 obtain ⟨W,g1,eW,hg1,b,hp⟩:∃ V g,w.alloc (.cells (q64 r.X r.Y r.Z r.T).toArray 68)=V∧w.heap.size=g∧Below w.heap.size w V∧RW V g 0 (q64 r.X r.Y r.Z r.T):=⟨_,_,rfl,rfl,(Below.refl _ _).alloc (Nat.le_refl _) _,RW.fresh w _ _⟩
 obtain ⟨hX,hY,hZ,-⟩:=parts hp
 have HW:Hid (w.alloc (.cells (q64 r.X r.Y r.Z r.T).toArray 68)=W):=Hid.mk' eW
 have Hg:Hid (w.heap.size=g1):=Hid.mk' hg1
 clear eW hg1 hp e0
 rw [show r.V = .agg (q64 r.X r.Y r.Z r.T).toArray from rfl]
 go_enter Tryz.func36,Tryz.ntmps36
 go_upto_region 4 with (first
  | (rw [HW.out,Hg.out];refine wpList_load_mid rfl 66 _ rfl g1 32 rfl (i16 r.Z) _ hZ.range Tryz.underlying66 rfl (infoI _) ?_;clear HW Hg)
  | (refine wpList_load_mid rfl 66 _ rfl g1 0 rfl (i16 r.X) _ hX.range Tryz.underlying66 rfl (infoI _) ?_)
  | (refine wpList_load_mid rfl 66 _ rfl g1 16 rfl (i16 r.Y) _ hY.range Tryz.underlying66 rfl (infoI _) ?_)
  | (refine wpList_load_mid rfl 66 _ rfl w1.heap.size 0 rfl (i16 I) _ hI3.range Tryz.underlying66 rfl (infoI _) ?_)
  | (go_at_call 77;refine (ci _).mono ?_;clear ci;rintro e w1 ⟨I,rfl,hI,hb1⟩;(replace hX:=hX.still hb1);(replace hY:=hY.still hb1);(replace b:=below_next b hb1);clear hb1;(have z1:=freshR' w1);(have t1:=freshRt w1 I);(obtain ⟨V1,hV1⟩:∃ V,V=(w1.alloc (.cells zI 66)).setCells w1.heap.size 0 (i16 I):=⟨_,rfl⟩);(have hI3:RW V1 w1.heap.size 0 (i16 I):=by rw [hV1];exact z1.stored (i16 I) (by rw [i16_len,i16_len]));(have b1:Below w1.heap.size w1 V1:=by rw [hV1];exact below_setCells (Nat.le_refl _) _ _ _ ((Below.refl _ _).alloc (Nat.le_refl _) _));(have H1:=Hid.mk' hV1);clear hV1 z1;(replace hX:=hX.still b1);(replace hY:=hY.still b1);(replace b:=below_next b b1);clear b1;replace cx:=cx I hI;replace cy:=cy I hI)
  | (with_reducible (refine id (?_:wpList _ _ _ _ _ _));refine wpList_store_mid rfl 66 _ _ rfl w1.heap.size 0 (i16 I).toArray rfl rfl t1 (infoIA I) (oneI I) ?_;rw [List.toList_toArray,←H1.out];clear t1 H1)
  | (go_at_call 71;refine (cx _).mono ?_;clear cx;rintro e w2 ⟨A,rfl,hA,hb2⟩;(replace hY:=hY.still hb2);(replace hI3:=hI3.still hb2);(replace b:=below_next b hb2);clear hb2 hX;(have cBx:=cB A x hA hxl))
  | (go_at_call 69;refine (cBx _).mono ?_;clear cBx;rintro e w3 ⟨vx,rfl,ox,hb3⟩;(replace hY:=hY.still hb3);(replace hI3:=hI3.still hb3);(replace b:=below_next b hb3);clear hb3;(obtain ⟨gx,capx,hvx,hgx,hgxl,hcx,rx⟩:∃ g cap,vx = .slice (some ⟨g,0,none⟩) 32 cap∧w2.heap.size≤g∧g<w3.heap.size∧32≤cap∧RowAt .u8 w3 g 0 32 (byt x):=ox.form.resolve_left (fun h=>by omega));subst hvx;clear ox hgx)
  | (go_at_call 71;refine (cy _).mono ?_;clear cy;rintro e w4 ⟨B,rfl,hB,hb4⟩;(replace rx:=rx.below hb4 hgxl);(replace hgxl:=Nat.lt_of_lt_of_le hgxl hb4.size);(replace b:=below_next b hb4);clear hb4 hY hI3;(have cBy:=cB B y hB hyl))
  | (go_at_call 69;refine (cBy _).mono ?_;clear cBy cB;rintro e w5 ⟨vy,rfl,oy,hb5⟩;(replace rx:=rx.below hb5 hgxl);(have sb:=b.size);(replace b:=below_next b hb5);clear hb5;(obtain ⟨gy,capy,hvy,hgy,hgyl,hcy,ry⟩:∃ g cap,vy = .slice (some ⟨g,0,none⟩) 32 cap∧w4.heap.size≤g∧g<w5.heap.size∧32≤cap∧RowAt .u8 w5 g 0 32 (byt y):=oy.form.resolve_left (fun h=>by omega));subst hvy;clear oy;(have nxy:gx≠gy:=by omega);(have wgy:w.heap.size≤gy:=Nat.le_trans sb hgy);clear sb))
 have c0:=(rx 0 (by decide)).1
 have c31:=(ry 31 (by decide)).1
 have f31:=(ry 31 (by decide)).2
 rw [Nat.zero_add] at c0 c31 f31
 have e3:bits .or .u8 (byt y 31:Int) ((x:Int)%2*128)=((byt y 31+128*(x%2):Nat):Int):=by
  rw [←e2]
  congr 1
  omega
 have r31:=ry.set (i:=31) (by decide) (v:=bits .or .u8 (byt y 31:Int) ((x:Int)%2*128)) (u:=byt y 31+128*(x%2)) e3
 rw [Nat.zero_add] at r31
 have E3:=Hid.mk' e3
 clear e2 e3
 go_region
 all_goals go_wp2
 go_ret
 have bs:Below w.heap.size w (w5.setCell ⟨gy,31,none⟩ (.int .u8 (bits .or .u8 (byt y 31:Int) ((x:Int)%2*128)))):=below_setCells wgy [_] 31 _ b
 have bd:Below (w5.setCell ⟨gy,31,none⟩ (.int .u8 (bits .or .u8 (byt y 31:Int) ((x:Int)%2*128)))).heap.size (w5.setCell ⟨gy,31,none⟩ (.int .u8 (bits .or .u8 (byt y 31:Int) ((x:Int)%2*128)))) (w5.setCell ⟨gy,31,none⟩ (.int .u8 (bits .or .u8 (byt y 31:Int) ((x:Int)%2*128)))).drew:=(Below.refl _ _).drew
 have rd:=r31.below bd (block_lt_of_cell (r31 0 (by decide)).1)
 refine ⟨_,rfl,⟨gy,capy,rfl,hcy,wgy,rd.congr (fun j hj => ?_)⟩,below_next bs bd⟩
 unfold upd encXY
 rfl
end Go.Proofs.YtdgkmloabificaaGreatDoor
namespace Go.Proofs.YtdgkmloabificaaGreatDoor
open Go.RowKit
theorem rpow8_bits:(List.range 252).all (fun i=>decide (i<4∨7237005577332262213973186563042994240829374041602535252466099000494570602494 / 2 ^ i%2=1))=true:=by kernel_rfl
theorem rpow8_bit (i:Nat) (h:4≤i) (hi:i<252):7237005577332262213973186563042994240829374041602535252466099000494570602494 / 2 ^ i%2=1:=by
 have h1:=List.all_eq_true.1 rpow8_bits i (List.mem_range.2 hi)
 have h2:=of_decide_eq_true h1
 omega
set_option maxRecDepth 20000 in
set_option maxHeartbeats 4000000 in
theorem rpow8_any (A:Nat→Int) (a:Nat) (hA:Rep A a) (w:World) :
 Calls Tryz.prog 108 #[refV A,.int .i64 252,.int .i64 14,.int .i64 4] w fun e w'=>∃ R,e = .returned (refV R)∧Rep R (a ^ 7237005577332262213973186563042994240829374041602535252466099000494570602494)∧Below w.heap.size w w':=by
 have hz:=zeroR
 have c1:=fun W=>rone_any W
 have hone:Rep (carryL oneL) (a ^ (7237005577332262213973186563042994240829374041602535252466099000494570602494 / 2 ^ 252)):=by rw [show 7237005577332262213973186563042994240829374041602535252466099000494570602494 / 2 ^ 252=0 by decide,Nat.pow_zero];exact rep_one
 obtain ⟨O,hO⟩:∃ O,O=carryL oneL:=⟨_,rfl⟩
 rw [←hO] at c1 hone
 obtain ⟨EX,hEX⟩:∃ EX,EX=7237005577332262213973186563042994240829374041602535252466099000494570602494:=⟨_,rfl⟩
 have hbit:∀ i,4≤i→i<252→EX / 2 ^ i%2=1:=fun i h1 h2=>by rw [hEX];exact rpow8_bit i h1 h2
 have hbt0:EX / 2 ^ 0%2=0:=by rw [hEX]
 have hbt1:EX / 2 ^ 1%2=1:=by rw [hEX]
 have hbt2:EX / 2 ^ 2%2=1:=by rw [hEX]
 have hbt3:EX / 2 ^ 3%2=1:=by rw [hEX]
 have hE0:EX / 2 ^ 0=7237005577332262213973186563042994240829374041602535252466099000494570602494:=by rw [hEX,Nat.pow_zero,Nat.div_one]
 rw [←hEX] at hone
 rw [←hE0]
 obtain ⟨W,hW⟩:∃ W,W=(w.alloc (.cells (intsI 16 A).toArray 66)).alloc (.cells zI 66):=⟨_,rfl⟩
 have HW:=Hid.mk' hW
 have hWs:W.heap.size=w.heap.size+1+1:=by rw [hW];simp
 have hbW:Below w.heap.size w W:=by rw [hW];exact ((Below.refl _ _).alloc (Nat.le_refl _) _).alloc (by simp) _
 have hAr0:IRow W w.heap.size 16 A:=by rw [hW];exact (IRow.box w 16 A _).below ((Below.refl _ _).alloc (Nat.le_refl _) _) (by simp)
 have hRr0:IRow W (w.heap.size+1) 16 (fun _=>0):=by
  have:=IRow.fresh (w.alloc (.cells (intsI 16 A).toArray 66)) zI 66 (n:=16) (L:=fun _=>0) (fun j hj=>zI_at j hj)
  rw [World.size_alloc] at this
  rw [hW];exact this
 have c1':Calls Tryz.prog 70 #[.int .i64 1] W fun e w'=>e = .returned (.agg (intsI 16 O).toArray)∧Below W.heap.size W w':=c1 W
 have hsto:∀ w1:World,Below W.heap.size W w1→∃ V,V=(w1.alloc (.cells zI 66)).setCells w1.heap.size 0 (intsI 16 O).toArray.toList∧IRow V w1.heap.size 16 O∧IRow V w.heap.size 16 A∧IRow V (w.heap.size+1) 16 (fun _=>0)∧Below w.heap.size w V∧w1.heap.size<V.heap.size∧(w1.alloc (.cells zI 66)).there w1.heap.size 0 (intsI 16 O).toArray.size∧w.heap.size+1<w1.heap.size:=fun w1 hb1=>by
  have hf:=IRow.fresh w1 zI 66 (n:=16) (L:=fun _=>0) (fun j hj=>zI_at j hj)
  have hs:=hb1.size
  have hba:Below w1.heap.size w1 (w1.alloc (.cells zI 66)):=(Below.refl _ _).alloc (Nat.le_refl _) _
  refine ⟨_,rfl,?_,((hAr0.below hb1 (by omega)).below hba (by omega)).farCells (by omega) _ _,((hRr0.below hb1 (by omega)).below hba (by omega)).farCells (by omega) _ _,below_setCells (by omega) _ _ _ ((hbW.trans (hb1.mono hbW.size)).trans (hba.mono (by omega))),?_,?_,by omega⟩
  · rw [List.toList_toArray];exact hf.stored
  · rw [(setCells_same _ _ _ _).2.2.2];simp
  · rw [intsI_size];exact hf.there
 have hi2O:=infoRA O
 have hoO:=oneR O
 unfold refV
 clear hW hO hEX c1 hE0
 go_enter Tryz.func108,Tryz.ntmps108
 go_wp2_with (first
  | (go_at_call 70;rw [←HW.out];refine c1'.mono ?_;clear c1';rintro e w1 ⟨rfl,hb1⟩;(obtain ⟨V,hV,hNV,hAV,hRV,hbV,hsV,hthV,hsz⟩:=hsto w1 hb1);(have HV:=Hid.mk' hV);clear hV hsto)
  | (refine wpList_store_mid rfl 66 _ _ rfl w1.heap.size 0 (intsI 16 O).toArray rfl rfl hthV hi2O hoO ?_;rw [←HV.out]))
 obtain ⟨g,hg⟩:∃ g,g=w1.heap.size:=⟨_,rfl⟩
 rw [←hg] at hNV hsV hsz ⊢
 clear hg hthV HV hi2O hoO hAr0 hRr0 hb1
 go_loopw [10] (fun i wr=>∃ (k:Nat) (L:Nat→Int),k≤252∧i = .int .i64 ((k:Int) - 1)∧IRow wr g 16 L∧Rep L (a ^ (EX / 2 ^ k))∧IRow wr w.heap.size 16 A∧IRow wr (w.heap.size+1) 16 (fun _=>0)∧Below w.heap.size w wr∧g<wr.heap.size) (fun i _=>(intOf i+1).toNat)
 case atStart=>exact ⟨252,O,Nat.le_refl _,by go_num,hNV,hone,hAV,hRV,hbV,hsV⟩
 case round =>
  clear hNV hAV hRV hbV hsV hone hz
  obtain ⟨k,L,hk,rfl,hN,hL,hAr,hRr,hb,hs⟩:=hrel
  by_cases hlt:0<k
  · have hsq:=rep_times hL hL
    have c1:=rtimes_any L L hL.bd hL.bd wr
    obtain ⟨M,hM⟩:∃ M,M=timesL L L:=⟨_,rfl⟩
    have c1':Calls Tryz.prog 71 #[.agg (intsI 16 L).toArray,.agg (intsI 16 L).toArray] wr fun e w'=>e = .returned (.agg (intsI 16 M).toArray)∧Below wr.heap.size wr w':=by rw [hM];exact c1
    rw [←hM] at hsq
    have hmul:=rep_times hsq hA
    have c2:=fun W=>rtimes_any M A hsq.bd hA.bd W
    obtain ⟨Q,hQ⟩:∃ Q,Q=timesL M A:=⟨_,rfl⟩
    have c2':∀ W,Calls Tryz.prog 71 #[.agg (intsI 16 M).toArray,.agg (intsI 16 A).toArray] W fun e w'=>e = .returned (.agg (intsI 16 Q).toArray)∧Below W.heap.size W w':=by rw [hQ];exact c2
    rw [←hQ] at hmul
    have hp1:EX / 2 ^ (k - 1)%2=1→Rep Q (a ^ (EX / 2 ^ (k - 1))):=fun h=>by
     have:=pow_bit a EX k hlt
     rw [h] at this
     rw [this,Nat.pow_one];exact hmul
    have hp0:EX / 2 ^ (k - 1)%2=0→Rep M (a ^ (EX / 2 ^ (k - 1))):=fun h=>by
     have:=pow_bit a EX k hlt
     rw [h] at this
     rw [this,Nat.pow_zero,Nat.mul_one];exact hsq
    clear hM hQ c1 c2 hsq hmul hL
    have hiL:=infoRL L
    have hiM:=infoRL M
    have hiA:=infoRL A
    have hi2M:=infoRA M
    have hoM:=oneR M
    have hi2Q:=infoRA Q
    have hoQ:=oneR Q
    have hNr:=hN.range
    by_cases hw:4<k
    · have hwi:¬(k:Int) - 1<4:=by omega
      have hwi2:(4:Int)≤(k:Int) - 1:=by omega
      go_wp2_with (first
       | (refine wpList_load_mid rfl 66 _ rfl g 0 rfl (intsI 16 L) _ hNr Tryz.underlying66 rfl hiL ?_)
       | (go_at_call 71;refine c1'.mono ?_;clear c1' hNr;rintro e w1 ⟨rfl,hb1⟩;(have hN1:=hN.below hb1 hs);(have hth1:w1.there g 0 (intsI 16 M).toArray.size:=by rw [intsI_size];exact hN1.there);(have hAr1:=(hAr.below hb1 (by omega)).farCells (k:=g) (by omega) 0 (intsI 16 M).toArray.toList);(have hRr1:=(hRr.below hb1 (by omega)).farCells (k:=g) (by omega) 0 (intsI 16 M).toArray.toList);(have hN2:IRow (w1.setCells g 0 (intsI 16 M).toArray.toList) g 16 M:=by rw [List.toList_toArray];exact hN1.stored);(have hbw1:Below w.heap.size w (w1.setCells g 0 (intsI 16 M).toArray.toList):=below_setCells (by omega) _ _ _ (hb.trans (hb1.mono hb.size)));(have hs1:g<(w1.setCells g 0 (intsI 16 M).toArray.toList).heap.size:=by rw [(setCells_same _ _ _ _).2.2.2];exact Nat.lt_of_lt_of_le hs hb1.size);(obtain ⟨V1,hV1⟩:∃ V1,V1=w1.setCells g 0 (intsI 16 M).toArray.toList:=⟨_,rfl⟩);(have HV1:=Hid.mk' hV1);rw [←hV1] at hAr1 hRr1 hN2 hbw1 hs1;clear hV1;(have hNr2:=hN2.range);(have hAr2:=hAr1.range))
       | (refine wpList_store_mid rfl 66 _ _ rfl g 0 (intsI 16 M).toArray rfl rfl hth1 hi2M hoM ?_;rw [←HV1.out];clear hth1)
       | (refine wpList_load_mid rfl 66 _ rfl g 0 rfl (intsI 16 M) _ hNr2 Tryz.underlying66 rfl hiM ?_)
       | (refine wpList_load_mid rfl 66 _ rfl w.heap.size 0 rfl (intsI 16 A) _ hAr2 Tryz.underlying66 rfl hiA ?_)
       | (go_at_call 71;refine (c2' _).mono ?_;clear c2' hNr2 hAr2;rintro e w2 ⟨rfl,hb2⟩;(have hN3:=hN2.below hb2 hs1);(have hth2:w2.there g 0 (intsI 16 Q).toArray.size:=by rw [intsI_size];exact hN3.there))
       | (with_reducible (refine id (?_:wpList _ _ _ _ _ _));refine wpList_store_mid rfl 66 _ _ rfl g 0 (intsI 16 Q).toArray rfl rfl hth2 hi2Q hoQ ?_))
      go_roundw
      case rel =>
       refine ⟨k - 1,Q,by omega,by go_num,?_,hp1 (hbit (k - 1) (by omega) (by omega)),(hAr1.below hb2 (by omega)).farCells (by omega) _ _,(hRr1.below hb2 (by omega)).farCells (by omega) _ _,below_setCells (by omega) _ _ _ (hbw1.trans (hb2.mono hbw1.size)),?_⟩
       · exact hN3.stored
       · rw [(setCells_same _ _ _ _).2.2.2];exact Nat.lt_of_lt_of_le hs1 hb2.size
      case measure=>simp [intOf];omega
    · have hcases:k=1∨k=2∨k=3∨k=4:=by omega
      rcases hcases with rfl | rfl | rfl | rfl
      · go_wp2_with (first
         | (refine wpList_load_mid rfl 66 _ rfl g 0 rfl (intsI 16 L) _ hNr Tryz.underlying66 rfl hiL ?_)
         | (go_at_call 71;refine c1'.mono ?_;clear c1' hNr;rintro e w1 ⟨rfl,hb1⟩;(have hN1:=hN.below hb1 hs);(have hth1:w1.there g 0 (intsI 16 M).toArray.size:=by rw [intsI_size];exact hN1.there);(have hAr1:=(hAr.below hb1 (by omega)).farCells (k:=g) (by omega) 0 (intsI 16 M).toArray.toList);(have hRr1:=(hRr.below hb1 (by omega)).farCells (k:=g) (by omega) 0 (intsI 16 M).toArray.toList);(have hN2:IRow (w1.setCells g 0 (intsI 16 M).toArray.toList) g 16 M:=by rw [List.toList_toArray];exact hN1.stored);(have hbw1:Below w.heap.size w (w1.setCells g 0 (intsI 16 M).toArray.toList):=below_setCells (by omega) _ _ _ (hb.trans (hb1.mono hb.size)));(have hs1:g<(w1.setCells g 0 (intsI 16 M).toArray.toList).heap.size:=by rw [(setCells_same _ _ _ _).2.2.2];exact Nat.lt_of_lt_of_le hs hb1.size);(obtain ⟨V1,hV1⟩:∃ V1,V1=w1.setCells g 0 (intsI 16 M).toArray.toList:=⟨_,rfl⟩);(have HV1:=Hid.mk' hV1);rw [←hV1] at hAr1 hRr1 hN2 hbw1 hs1;clear hV1;(have hNr2:=hN2.range);(have hAr2:=hAr1.range))
         | (refine wpList_store_mid rfl 66 _ _ rfl g 0 (intsI 16 M).toArray rfl rfl hth1 hi2M hoM ?_;rw [←HV1.out];clear hth1)
         | fail)
        go_roundw
        case rel=>exact ⟨0,M,by omega,by go_num,hN2,hp0 (hbt0),hAr1,hRr1,hbw1,hs1⟩
        case measure=>simp [intOf]
      · go_wp2_with (first
         | (refine wpList_load_mid rfl 66 _ rfl g 0 rfl (intsI 16 L) _ hNr Tryz.underlying66 rfl hiL ?_)
         | (go_at_call 71;refine c1'.mono ?_;clear c1' hNr;rintro e w1 ⟨rfl,hb1⟩;(have hN1:=hN.below hb1 hs);(have hth1:w1.there g 0 (intsI 16 M).toArray.size:=by rw [intsI_size];exact hN1.there);(have hAr1:=(hAr.below hb1 (by omega)).farCells (k:=g) (by omega) 0 (intsI 16 M).toArray.toList);(have hRr1:=(hRr.below hb1 (by omega)).farCells (k:=g) (by omega) 0 (intsI 16 M).toArray.toList);(have hN2:IRow (w1.setCells g 0 (intsI 16 M).toArray.toList) g 16 M:=by rw [List.toList_toArray];exact hN1.stored);(have hbw1:Below w.heap.size w (w1.setCells g 0 (intsI 16 M).toArray.toList):=below_setCells (by omega) _ _ _ (hb.trans (hb1.mono hb.size)));(have hs1:g<(w1.setCells g 0 (intsI 16 M).toArray.toList).heap.size:=by rw [(setCells_same _ _ _ _).2.2.2];exact Nat.lt_of_lt_of_le hs hb1.size);(obtain ⟨V1,hV1⟩:∃ V1,V1=w1.setCells g 0 (intsI 16 M).toArray.toList:=⟨_,rfl⟩);(have HV1:=Hid.mk' hV1);rw [←hV1] at hAr1 hRr1 hN2 hbw1 hs1;clear hV1;(have hNr2:=hN2.range);(have hAr2:=hAr1.range))
         | (refine wpList_store_mid rfl 66 _ _ rfl g 0 (intsI 16 M).toArray rfl rfl hth1 hi2M hoM ?_;rw [←HV1.out];clear hth1)
         | (refine wpList_load_mid rfl 66 _ rfl g 0 rfl (intsI 16 M) _ hNr2 Tryz.underlying66 rfl hiM ?_)
         | (refine wpList_load_mid rfl 66 _ rfl w.heap.size 0 rfl (intsI 16 A) _ hAr2 Tryz.underlying66 rfl hiA ?_)
         | (go_at_call 71;refine (c2' _).mono ?_;clear c2' hNr2 hAr2;rintro e w2 ⟨rfl,hb2⟩;(have hN3:=hN2.below hb2 hs1);(have hth2:w2.there g 0 (intsI 16 Q).toArray.size:=by rw [intsI_size];exact hN3.there))
         | (with_reducible (refine id (?_:wpList _ _ _ _ _ _));refine wpList_store_mid rfl 66 _ _ rfl g 0 (intsI 16 Q).toArray rfl rfl hth2 hi2Q hoQ ?_))
        go_roundw
        case rel =>
         refine ⟨1,Q,by omega,by go_num,?_,hp1 (hbt1),(hAr1.below hb2 (by omega)).farCells (by omega) _ _,(hRr1.below hb2 (by omega)).farCells (by omega) _ _,below_setCells (by omega) _ _ _ (hbw1.trans (hb2.mono hbw1.size)),?_⟩
         · exact hN3.stored
         · rw [(setCells_same _ _ _ _).2.2.2];exact Nat.lt_of_lt_of_le hs1 hb2.size
        case measure=>simp [intOf]
      · go_wp2_with (first
         | (refine wpList_load_mid rfl 66 _ rfl g 0 rfl (intsI 16 L) _ hNr Tryz.underlying66 rfl hiL ?_)
         | (go_at_call 71;refine c1'.mono ?_;clear c1' hNr;rintro e w1 ⟨rfl,hb1⟩;(have hN1:=hN.below hb1 hs);(have hth1:w1.there g 0 (intsI 16 M).toArray.size:=by rw [intsI_size];exact hN1.there);(have hAr1:=(hAr.below hb1 (by omega)).farCells (k:=g) (by omega) 0 (intsI 16 M).toArray.toList);(have hRr1:=(hRr.below hb1 (by omega)).farCells (k:=g) (by omega) 0 (intsI 16 M).toArray.toList);(have hN2:IRow (w1.setCells g 0 (intsI 16 M).toArray.toList) g 16 M:=by rw [List.toList_toArray];exact hN1.stored);(have hbw1:Below w.heap.size w (w1.setCells g 0 (intsI 16 M).toArray.toList):=below_setCells (by omega) _ _ _ (hb.trans (hb1.mono hb.size)));(have hs1:g<(w1.setCells g 0 (intsI 16 M).toArray.toList).heap.size:=by rw [(setCells_same _ _ _ _).2.2.2];exact Nat.lt_of_lt_of_le hs hb1.size);(obtain ⟨V1,hV1⟩:∃ V1,V1=w1.setCells g 0 (intsI 16 M).toArray.toList:=⟨_,rfl⟩);(have HV1:=Hid.mk' hV1);rw [←hV1] at hAr1 hRr1 hN2 hbw1 hs1;clear hV1;(have hNr2:=hN2.range);(have hAr2:=hAr1.range))
         | (refine wpList_store_mid rfl 66 _ _ rfl g 0 (intsI 16 M).toArray rfl rfl hth1 hi2M hoM ?_;rw [←HV1.out];clear hth1)
         | (refine wpList_load_mid rfl 66 _ rfl g 0 rfl (intsI 16 M) _ hNr2 Tryz.underlying66 rfl hiM ?_)
         | (refine wpList_load_mid rfl 66 _ rfl w.heap.size 0 rfl (intsI 16 A) _ hAr2 Tryz.underlying66 rfl hiA ?_)
         | (go_at_call 71;refine (c2' _).mono ?_;clear c2' hNr2 hAr2;rintro e w2 ⟨rfl,hb2⟩;(have hN3:=hN2.below hb2 hs1);(have hth2:w2.there g 0 (intsI 16 Q).toArray.size:=by rw [intsI_size];exact hN3.there))
         | (with_reducible (refine id (?_:wpList _ _ _ _ _ _));refine wpList_store_mid rfl 66 _ _ rfl g 0 (intsI 16 Q).toArray rfl rfl hth2 hi2Q hoQ ?_))
        go_roundw
        case rel =>
         refine ⟨2,Q,by omega,by go_num,?_,hp1 (hbt2),(hAr1.below hb2 (by omega)).farCells (by omega) _ _,(hRr1.below hb2 (by omega)).farCells (by omega) _ _,below_setCells (by omega) _ _ _ (hbw1.trans (hb2.mono hbw1.size)),?_⟩
         · exact hN3.stored
         · rw [(setCells_same _ _ _ _).2.2.2];exact Nat.lt_of_lt_of_le hs1 hb2.size
        case measure=>simp [intOf]
      · go_wp2_with (first
         | (refine wpList_load_mid rfl 66 _ rfl g 0 rfl (intsI 16 L) _ hNr Tryz.underlying66 rfl hiL ?_)
         | (go_at_call 71;refine c1'.mono ?_;clear c1' hNr;rintro e w1 ⟨rfl,hb1⟩;(have hN1:=hN.below hb1 hs);(have hth1:w1.there g 0 (intsI 16 M).toArray.size:=by rw [intsI_size];exact hN1.there);(have hAr1:=(hAr.below hb1 (by omega)).farCells (k:=g) (by omega) 0 (intsI 16 M).toArray.toList);(have hRr1:=(hRr.below hb1 (by omega)).farCells (k:=g) (by omega) 0 (intsI 16 M).toArray.toList);(have hN2:IRow (w1.setCells g 0 (intsI 16 M).toArray.toList) g 16 M:=by rw [List.toList_toArray];exact hN1.stored);(have hbw1:Below w.heap.size w (w1.setCells g 0 (intsI 16 M).toArray.toList):=below_setCells (by omega) _ _ _ (hb.trans (hb1.mono hb.size)));(have hs1:g<(w1.setCells g 0 (intsI 16 M).toArray.toList).heap.size:=by rw [(setCells_same _ _ _ _).2.2.2];exact Nat.lt_of_lt_of_le hs hb1.size);(obtain ⟨V1,hV1⟩:∃ V1,V1=w1.setCells g 0 (intsI 16 M).toArray.toList:=⟨_,rfl⟩);(have HV1:=Hid.mk' hV1);rw [←hV1] at hAr1 hRr1 hN2 hbw1 hs1;clear hV1;(have hNr2:=hN2.range);(have hAr2:=hAr1.range))
         | (refine wpList_store_mid rfl 66 _ _ rfl g 0 (intsI 16 M).toArray rfl rfl hth1 hi2M hoM ?_;rw [←HV1.out];clear hth1)
         | (refine wpList_load_mid rfl 66 _ rfl g 0 rfl (intsI 16 M) _ hNr2 Tryz.underlying66 rfl hiM ?_)
         | (refine wpList_load_mid rfl 66 _ rfl w.heap.size 0 rfl (intsI 16 A) _ hAr2 Tryz.underlying66 rfl hiA ?_)
         | (go_at_call 71;refine (c2' _).mono ?_;clear c2' hNr2 hAr2;rintro e w2 ⟨rfl,hb2⟩;(have hN3:=hN2.below hb2 hs1);(have hth2:w2.there g 0 (intsI 16 Q).toArray.size:=by rw [intsI_size];exact hN3.there))
         | (with_reducible (refine id (?_:wpList _ _ _ _ _ _));refine wpList_store_mid rfl 66 _ _ rfl g 0 (intsI 16 Q).toArray rfl rfl hth2 hi2Q hoQ ?_))
        go_roundw
        case rel =>
         refine ⟨3,Q,by omega,by go_num,?_,hp1 (hbt3),(hAr1.below hb2 (by omega)).farCells (by omega) _ _,(hRr1.below hb2 (by omega)).farCells (by omega) _ _,below_setCells (by omega) _ _ _ (hbw1.trans (hb2.mono hbw1.size)),?_⟩
         · exact hN3.stored
         · rw [(setCells_same _ _ _ _).2.2.2];exact Nat.lt_of_lt_of_le hs1 hb2.size
        case measure=>simp [intOf]
  · have hke:k=0:=by omega
    subst hke
    have hiL:=infoRL L
    have hi2L:=infoRA L
    have hoL:=oneR L
    have hth:wr.there (w.heap.size+1) 0 (intsI 16 L).toArray.size:=by rw [intsI_size];exact hRr.there
    have hNr:=hN.range
    go_wp2_with (first
     | (refine wpList_load_mid rfl 66 _ rfl g 0 rfl (intsI 16 L) _ hNr Tryz.underlying66 rfl hiL ?_)
     | (refine wpList_store_mid rfl 66 _ _ rfl (w.heap.size+1) 0 (intsI 16 L).toArray rfl rfl hth hi2L hoL ?_))
    (try simp only [Exit.inBlock,Exit.then])
    refine bodyPost_ret (results_cell_mid Tryz.results108 _ _ (w.heap.size+1) 0 (intsI 16 L) _ rfl (World.rangeAt_setCells_same _ _ _ _ (by rw [intsI_len];exact hRr.there)) Tryz.underlying66 rfl hiL) rfl ⟨L,rfl,hL,?_⟩
    exact below_setCells (by omega) _ _ _ hb
theorem rpow4_bits:(List.range 253).all (fun i=>decide (i<3∨14474011154664524427946373126085988481658748083205070504932198000989141204987 / 2 ^ i%2=1))=true:=by kernel_rfl
theorem rpow4_bit (i:Nat) (h:3≤i) (hi:i<253):14474011154664524427946373126085988481658748083205070504932198000989141204987 / 2 ^ i%2=1:=by
 have h1:=List.all_eq_true.1 rpow4_bits i (List.mem_range.2 hi)
 have h2:=of_decide_eq_true h1
 omega
set_option maxRecDepth 20000 in
set_option maxHeartbeats 4000000 in
theorem rpow4_any (A:Nat→Int) (a:Nat) (hA:Rep A a) (w:World) :
 Calls Tryz.prog 108 #[refV A,.int .i64 253,.int .i64 3,.int .i64 3] w fun e w'=>∃ R,e = .returned (refV R)∧Rep R (a ^ 14474011154664524427946373126085988481658748083205070504932198000989141204987)∧Below w.heap.size w w':=by
 have hz:=zeroR
 have c1:=fun W=>rone_any W
 have hone:Rep (carryL oneL) (a ^ (14474011154664524427946373126085988481658748083205070504932198000989141204987 / 2 ^ 253)):=by rw [show 14474011154664524427946373126085988481658748083205070504932198000989141204987 / 2 ^ 253=0 by decide,Nat.pow_zero];exact rep_one
 obtain ⟨O,hO⟩:∃ O,O=carryL oneL:=⟨_,rfl⟩
 rw [←hO] at c1 hone
 obtain ⟨EX,hEX⟩:∃ EX,EX=14474011154664524427946373126085988481658748083205070504932198000989141204987:=⟨_,rfl⟩
 have hbit:∀ i,3≤i→i<253→EX / 2 ^ i%2=1:=fun i h1 h2=>by rw [hEX];exact rpow4_bit i h1 h2
 have hbt0:EX / 2 ^ 0%2=1:=by rw [hEX]
 have hbt1:EX / 2 ^ 1%2=1:=by rw [hEX]
 have hbt2:EX / 2 ^ 2%2=0:=by rw [hEX]
 have hE0:EX / 2 ^ 0=14474011154664524427946373126085988481658748083205070504932198000989141204987:=by rw [hEX,Nat.pow_zero,Nat.div_one]
 rw [←hEX] at hone
 rw [←hE0]
 obtain ⟨W,hW⟩:∃ W,W=(w.alloc (.cells (intsI 16 A).toArray 66)).alloc (.cells zI 66):=⟨_,rfl⟩
 have HW:=Hid.mk' hW
 have hWs:W.heap.size=w.heap.size+1+1:=by rw [hW];simp
 have hbW:Below w.heap.size w W:=by rw [hW];exact ((Below.refl _ _).alloc (Nat.le_refl _) _).alloc (by simp) _
 have hAr0:IRow W w.heap.size 16 A:=by rw [hW];exact (IRow.box w 16 A _).below ((Below.refl _ _).alloc (Nat.le_refl _) _) (by simp)
 have hRr0:IRow W (w.heap.size+1) 16 (fun _=>0):=by
  have:=IRow.fresh (w.alloc (.cells (intsI 16 A).toArray 66)) zI 66 (n:=16) (L:=fun _=>0) (fun j hj=>zI_at j hj)
  rw [World.size_alloc] at this
  rw [hW];exact this
 have c1':Calls Tryz.prog 70 #[.int .i64 1] W fun e w'=>e = .returned (.agg (intsI 16 O).toArray)∧Below W.heap.size W w':=c1 W
 have hsto:∀ w1:World,Below W.heap.size W w1→∃ V,V=(w1.alloc (.cells zI 66)).setCells w1.heap.size 0 (intsI 16 O).toArray.toList∧IRow V w1.heap.size 16 O∧IRow V w.heap.size 16 A∧IRow V (w.heap.size+1) 16 (fun _=>0)∧Below w.heap.size w V∧w1.heap.size<V.heap.size∧(w1.alloc (.cells zI 66)).there w1.heap.size 0 (intsI 16 O).toArray.size∧w.heap.size+1<w1.heap.size:=fun w1 hb1=>by
  have hf:=IRow.fresh w1 zI 66 (n:=16) (L:=fun _=>0) (fun j hj=>zI_at j hj)
  have hs:=hb1.size
  have hba:Below w1.heap.size w1 (w1.alloc (.cells zI 66)):=(Below.refl _ _).alloc (Nat.le_refl _) _
  refine ⟨_,rfl,?_,((hAr0.below hb1 (by omega)).below hba (by omega)).farCells (by omega) _ _,((hRr0.below hb1 (by omega)).below hba (by omega)).farCells (by omega) _ _,below_setCells (by omega) _ _ _ ((hbW.trans (hb1.mono hbW.size)).trans (hba.mono (by omega))),?_,?_,by omega⟩
  · rw [List.toList_toArray];exact hf.stored
  · rw [(setCells_same _ _ _ _).2.2.2];simp
  · rw [intsI_size];exact hf.there
 have hi2O:=infoRA O
 have hoO:=oneR O
 unfold refV
 clear hW hO hEX c1 hE0
 go_enter Tryz.func108,Tryz.ntmps108
 go_wp2_with (first
  | (go_at_call 70;rw [←HW.out];refine c1'.mono ?_;clear c1';rintro e w1 ⟨rfl,hb1⟩;(obtain ⟨V,hV,hNV,hAV,hRV,hbV,hsV,hthV,hsz⟩:=hsto w1 hb1);(have HV:=Hid.mk' hV);clear hV hsto)
  | (refine wpList_store_mid rfl 66 _ _ rfl w1.heap.size 0 (intsI 16 O).toArray rfl rfl hthV hi2O hoO ?_;rw [←HV.out]))
 obtain ⟨g,hg⟩:∃ g,g=w1.heap.size:=⟨_,rfl⟩
 rw [←hg] at hNV hsV hsz ⊢
 clear hg hthV HV hi2O hoO hAr0 hRr0 hb1
 go_loopw [10] (fun i wr=>∃ (k:Nat) (L:Nat→Int),k≤253∧i = .int .i64 ((k:Int) - 1)∧IRow wr g 16 L∧Rep L (a ^ (EX / 2 ^ k))∧IRow wr w.heap.size 16 A∧IRow wr (w.heap.size+1) 16 (fun _=>0)∧Below w.heap.size w wr∧g<wr.heap.size) (fun i _=>(intOf i+1).toNat)
 case atStart=>exact ⟨253,O,Nat.le_refl _,by go_num,hNV,hone,hAV,hRV,hbV,hsV⟩
 case round =>
  clear hNV hAV hRV hbV hsV hone hz
  obtain ⟨k,L,hk,rfl,hN,hL,hAr,hRr,hb,hs⟩:=hrel
  by_cases hlt:0<k
  · have hsq:=rep_times hL hL
    have c1:=rtimes_any L L hL.bd hL.bd wr
    obtain ⟨M,hM⟩:∃ M,M=timesL L L:=⟨_,rfl⟩
    have c1':Calls Tryz.prog 71 #[.agg (intsI 16 L).toArray,.agg (intsI 16 L).toArray] wr fun e w'=>e = .returned (.agg (intsI 16 M).toArray)∧Below wr.heap.size wr w':=by rw [hM];exact c1
    rw [←hM] at hsq
    have hmul:=rep_times hsq hA
    have c2:=fun W=>rtimes_any M A hsq.bd hA.bd W
    obtain ⟨Q,hQ⟩:∃ Q,Q=timesL M A:=⟨_,rfl⟩
    have c2':∀ W,Calls Tryz.prog 71 #[.agg (intsI 16 M).toArray,.agg (intsI 16 A).toArray] W fun e w'=>e = .returned (.agg (intsI 16 Q).toArray)∧Below W.heap.size W w':=by rw [hQ];exact c2
    rw [←hQ] at hmul
    have hp1:EX / 2 ^ (k - 1)%2=1→Rep Q (a ^ (EX / 2 ^ (k - 1))):=fun h=>by
     have:=pow_bit a EX k hlt
     rw [h] at this
     rw [this,Nat.pow_one];exact hmul
    have hp0:EX / 2 ^ (k - 1)%2=0→Rep M (a ^ (EX / 2 ^ (k - 1))):=fun h=>by
     have:=pow_bit a EX k hlt
     rw [h] at this
     rw [this,Nat.pow_zero,Nat.mul_one];exact hsq
    clear hM hQ c1 c2 hsq hmul hL
    have hiL:=infoRL L
    have hiM:=infoRL M
    have hiA:=infoRL A
    have hi2M:=infoRA M
    have hoM:=oneR M
    have hi2Q:=infoRA Q
    have hoQ:=oneR Q
    have hNr:=hN.range
    by_cases hw:3<k
    · have hwi:¬(k:Int) - 1<3:=by omega
      have hwi2:(3:Int)≤(k:Int) - 1:=by omega
      go_wp2_with (first
       | (refine wpList_load_mid rfl 66 _ rfl g 0 rfl (intsI 16 L) _ hNr Tryz.underlying66 rfl hiL ?_)
       | (go_at_call 71;refine c1'.mono ?_;clear c1' hNr;rintro e w1 ⟨rfl,hb1⟩;(have hN1:=hN.below hb1 hs);(have hth1:w1.there g 0 (intsI 16 M).toArray.size:=by rw [intsI_size];exact hN1.there);(have hAr1:=(hAr.below hb1 (by omega)).farCells (k:=g) (by omega) 0 (intsI 16 M).toArray.toList);(have hRr1:=(hRr.below hb1 (by omega)).farCells (k:=g) (by omega) 0 (intsI 16 M).toArray.toList);(have hN2:IRow (w1.setCells g 0 (intsI 16 M).toArray.toList) g 16 M:=by rw [List.toList_toArray];exact hN1.stored);(have hbw1:Below w.heap.size w (w1.setCells g 0 (intsI 16 M).toArray.toList):=below_setCells (by omega) _ _ _ (hb.trans (hb1.mono hb.size)));(have hs1:g<(w1.setCells g 0 (intsI 16 M).toArray.toList).heap.size:=by rw [(setCells_same _ _ _ _).2.2.2];exact Nat.lt_of_lt_of_le hs hb1.size);(obtain ⟨V1,hV1⟩:∃ V1,V1=w1.setCells g 0 (intsI 16 M).toArray.toList:=⟨_,rfl⟩);(have HV1:=Hid.mk' hV1);rw [←hV1] at hAr1 hRr1 hN2 hbw1 hs1;clear hV1;(have hNr2:=hN2.range);(have hAr2:=hAr1.range))
       | (refine wpList_store_mid rfl 66 _ _ rfl g 0 (intsI 16 M).toArray rfl rfl hth1 hi2M hoM ?_;rw [←HV1.out];clear hth1)
       | (refine wpList_load_mid rfl 66 _ rfl g 0 rfl (intsI 16 M) _ hNr2 Tryz.underlying66 rfl hiM ?_)
       | (refine wpList_load_mid rfl 66 _ rfl w.heap.size 0 rfl (intsI 16 A) _ hAr2 Tryz.underlying66 rfl hiA ?_)
       | (go_at_call 71;refine (c2' _).mono ?_;clear c2' hNr2 hAr2;rintro e w2 ⟨rfl,hb2⟩;(have hN3:=hN2.below hb2 hs1);(have hth2:w2.there g 0 (intsI 16 Q).toArray.size:=by rw [intsI_size];exact hN3.there))
       | (with_reducible (refine id (?_:wpList _ _ _ _ _ _));refine wpList_store_mid rfl 66 _ _ rfl g 0 (intsI 16 Q).toArray rfl rfl hth2 hi2Q hoQ ?_))
      go_roundw
      case rel =>
       refine ⟨k - 1,Q,by omega,by go_num,?_,hp1 (hbit (k - 1) (by omega) (by omega)),(hAr1.below hb2 (by omega)).farCells (by omega) _ _,(hRr1.below hb2 (by omega)).farCells (by omega) _ _,below_setCells (by omega) _ _ _ (hbw1.trans (hb2.mono hbw1.size)),?_⟩
       · exact hN3.stored
       · rw [(setCells_same _ _ _ _).2.2.2];exact Nat.lt_of_lt_of_le hs1 hb2.size
      case measure=>simp [intOf];omega
    · have hcases:k=1∨k=2∨k=3:=by omega
      rcases hcases with rfl | rfl | rfl
      · go_wp2_with (first
         | (refine wpList_load_mid rfl 66 _ rfl g 0 rfl (intsI 16 L) _ hNr Tryz.underlying66 rfl hiL ?_)
         | (go_at_call 71;refine c1'.mono ?_;clear c1' hNr;rintro e w1 ⟨rfl,hb1⟩;(have hN1:=hN.below hb1 hs);(have hth1:w1.there g 0 (intsI 16 M).toArray.size:=by rw [intsI_size];exact hN1.there);(have hAr1:=(hAr.below hb1 (by omega)).farCells (k:=g) (by omega) 0 (intsI 16 M).toArray.toList);(have hRr1:=(hRr.below hb1 (by omega)).farCells (k:=g) (by omega) 0 (intsI 16 M).toArray.toList);(have hN2:IRow (w1.setCells g 0 (intsI 16 M).toArray.toList) g 16 M:=by rw [List.toList_toArray];exact hN1.stored);(have hbw1:Below w.heap.size w (w1.setCells g 0 (intsI 16 M).toArray.toList):=below_setCells (by omega) _ _ _ (hb.trans (hb1.mono hb.size)));(have hs1:g<(w1.setCells g 0 (intsI 16 M).toArray.toList).heap.size:=by rw [(setCells_same _ _ _ _).2.2.2];exact Nat.lt_of_lt_of_le hs hb1.size);(obtain ⟨V1,hV1⟩:∃ V1,V1=w1.setCells g 0 (intsI 16 M).toArray.toList:=⟨_,rfl⟩);(have HV1:=Hid.mk' hV1);rw [←hV1] at hAr1 hRr1 hN2 hbw1 hs1;clear hV1;(have hNr2:=hN2.range);(have hAr2:=hAr1.range))
         | (refine wpList_store_mid rfl 66 _ _ rfl g 0 (intsI 16 M).toArray rfl rfl hth1 hi2M hoM ?_;rw [←HV1.out];clear hth1)
         | (refine wpList_load_mid rfl 66 _ rfl g 0 rfl (intsI 16 M) _ hNr2 Tryz.underlying66 rfl hiM ?_)
         | (refine wpList_load_mid rfl 66 _ rfl w.heap.size 0 rfl (intsI 16 A) _ hAr2 Tryz.underlying66 rfl hiA ?_)
         | (go_at_call 71;refine (c2' _).mono ?_;clear c2' hNr2 hAr2;rintro e w2 ⟨rfl,hb2⟩;(have hN3:=hN2.below hb2 hs1);(have hth2:w2.there g 0 (intsI 16 Q).toArray.size:=by rw [intsI_size];exact hN3.there))
         | (with_reducible (refine id (?_:wpList _ _ _ _ _ _));refine wpList_store_mid rfl 66 _ _ rfl g 0 (intsI 16 Q).toArray rfl rfl hth2 hi2Q hoQ ?_))
        go_roundw
        case rel =>
         refine ⟨0,Q,by omega,by go_num,?_,hp1 (hbt0),(hAr1.below hb2 (by omega)).farCells (by omega) _ _,(hRr1.below hb2 (by omega)).farCells (by omega) _ _,below_setCells (by omega) _ _ _ (hbw1.trans (hb2.mono hbw1.size)),?_⟩
         · exact hN3.stored
         · rw [(setCells_same _ _ _ _).2.2.2];exact Nat.lt_of_lt_of_le hs1 hb2.size
        case measure=>simp [intOf]
      · go_wp2_with (first
         | (refine wpList_load_mid rfl 66 _ rfl g 0 rfl (intsI 16 L) _ hNr Tryz.underlying66 rfl hiL ?_)
         | (go_at_call 71;refine c1'.mono ?_;clear c1' hNr;rintro e w1 ⟨rfl,hb1⟩;(have hN1:=hN.below hb1 hs);(have hth1:w1.there g 0 (intsI 16 M).toArray.size:=by rw [intsI_size];exact hN1.there);(have hAr1:=(hAr.below hb1 (by omega)).farCells (k:=g) (by omega) 0 (intsI 16 M).toArray.toList);(have hRr1:=(hRr.below hb1 (by omega)).farCells (k:=g) (by omega) 0 (intsI 16 M).toArray.toList);(have hN2:IRow (w1.setCells g 0 (intsI 16 M).toArray.toList) g 16 M:=by rw [List.toList_toArray];exact hN1.stored);(have hbw1:Below w.heap.size w (w1.setCells g 0 (intsI 16 M).toArray.toList):=below_setCells (by omega) _ _ _ (hb.trans (hb1.mono hb.size)));(have hs1:g<(w1.setCells g 0 (intsI 16 M).toArray.toList).heap.size:=by rw [(setCells_same _ _ _ _).2.2.2];exact Nat.lt_of_lt_of_le hs hb1.size);(obtain ⟨V1,hV1⟩:∃ V1,V1=w1.setCells g 0 (intsI 16 M).toArray.toList:=⟨_,rfl⟩);(have HV1:=Hid.mk' hV1);rw [←hV1] at hAr1 hRr1 hN2 hbw1 hs1;clear hV1;(have hNr2:=hN2.range);(have hAr2:=hAr1.range))
         | (refine wpList_store_mid rfl 66 _ _ rfl g 0 (intsI 16 M).toArray rfl rfl hth1 hi2M hoM ?_;rw [←HV1.out];clear hth1)
         | (refine wpList_load_mid rfl 66 _ rfl g 0 rfl (intsI 16 M) _ hNr2 Tryz.underlying66 rfl hiM ?_)
         | (refine wpList_load_mid rfl 66 _ rfl w.heap.size 0 rfl (intsI 16 A) _ hAr2 Tryz.underlying66 rfl hiA ?_)
         | (go_at_call 71;refine (c2' _).mono ?_;clear c2' hNr2 hAr2;rintro e w2 ⟨rfl,hb2⟩;(have hN3:=hN2.below hb2 hs1);(have hth2:w2.there g 0 (intsI 16 Q).toArray.size:=by rw [intsI_size];exact hN3.there))
         | (with_reducible (refine id (?_:wpList _ _ _ _ _ _));refine wpList_store_mid rfl 66 _ _ rfl g 0 (intsI 16 Q).toArray rfl rfl hth2 hi2Q hoQ ?_))
        go_roundw
        case rel =>
         refine ⟨1,Q,by omega,by go_num,?_,hp1 (hbt1),(hAr1.below hb2 (by omega)).farCells (by omega) _ _,(hRr1.below hb2 (by omega)).farCells (by omega) _ _,below_setCells (by omega) _ _ _ (hbw1.trans (hb2.mono hbw1.size)),?_⟩
         · exact hN3.stored
         · rw [(setCells_same _ _ _ _).2.2.2];exact Nat.lt_of_lt_of_le hs1 hb2.size
        case measure=>simp [intOf]
      · go_wp2_with (first
         | (refine wpList_load_mid rfl 66 _ rfl g 0 rfl (intsI 16 L) _ hNr Tryz.underlying66 rfl hiL ?_)
         | (go_at_call 71;refine c1'.mono ?_;clear c1' hNr;rintro e w1 ⟨rfl,hb1⟩;(have hN1:=hN.below hb1 hs);(have hth1:w1.there g 0 (intsI 16 M).toArray.size:=by rw [intsI_size];exact hN1.there);(have hAr1:=(hAr.below hb1 (by omega)).farCells (k:=g) (by omega) 0 (intsI 16 M).toArray.toList);(have hRr1:=(hRr.below hb1 (by omega)).farCells (k:=g) (by omega) 0 (intsI 16 M).toArray.toList);(have hN2:IRow (w1.setCells g 0 (intsI 16 M).toArray.toList) g 16 M:=by rw [List.toList_toArray];exact hN1.stored);(have hbw1:Below w.heap.size w (w1.setCells g 0 (intsI 16 M).toArray.toList):=below_setCells (by omega) _ _ _ (hb.trans (hb1.mono hb.size)));(have hs1:g<(w1.setCells g 0 (intsI 16 M).toArray.toList).heap.size:=by rw [(setCells_same _ _ _ _).2.2.2];exact Nat.lt_of_lt_of_le hs hb1.size);(obtain ⟨V1,hV1⟩:∃ V1,V1=w1.setCells g 0 (intsI 16 M).toArray.toList:=⟨_,rfl⟩);(have HV1:=Hid.mk' hV1);rw [←hV1] at hAr1 hRr1 hN2 hbw1 hs1;clear hV1;(have hNr2:=hN2.range);(have hAr2:=hAr1.range))
         | (refine wpList_store_mid rfl 66 _ _ rfl g 0 (intsI 16 M).toArray rfl rfl hth1 hi2M hoM ?_;rw [←HV1.out];clear hth1)
         | fail)
        go_roundw
        case rel=>exact ⟨2,M,by omega,by go_num,hN2,hp0 (hbt2),hAr1,hRr1,hbw1,hs1⟩
        case measure=>simp [intOf]
  · have hke:k=0:=by omega
    subst hke
    have hiL:=infoRL L
    have hi2L:=infoRA L
    have hoL:=oneR L
    have hth:wr.there (w.heap.size+1) 0 (intsI 16 L).toArray.size:=by rw [intsI_size];exact hRr.there
    have hNr:=hN.range
    go_wp2_with (first
     | (refine wpList_load_mid rfl 66 _ rfl g 0 rfl (intsI 16 L) _ hNr Tryz.underlying66 rfl hiL ?_)
     | (refine wpList_store_mid rfl 66 _ _ rfl (w.heap.size+1) 0 (intsI 16 L).toArray rfl rfl hth hi2L hoL ?_))
    (try simp only [Exit.inBlock,Exit.then])
    refine bodyPost_ret (results_cell_mid Tryz.results108 _ _ (w.heap.size+1) 0 (intsI 16 L) _ rfl (World.rangeAt_setCells_same _ _ _ _ (by rw [intsI_len];exact hRr.there)) Tryz.underlying66 rfl hiL) rfl ⟨L,rfl,hL,?_⟩
    exact below_setCells (by omega) _ _ _ hb
end Go.Proofs.YtdgkmloabificaaGreatDoor
namespace Go.Proofs.YtdgkmloabificaaGreatDoor
open Go.RowKit
def NewB (w w':World) (v:Value) (n:Nat) (X:Nat→Nat):Prop:=∃ g,v = .slice (some ⟨g,0,none⟩) n n∧w.heap.size≤g∧RowAt .u8 w' g 0 n X
theorem NewB.bytes {w w':World} {v:Value} {n:Nat} {X:Nat→Nat} (h:NewB w w' v n X) (h0:0<n):BytesIn w' v n X:=by
 obtain ⟨g,rfl,-,hr⟩:=h
 exact .inr ⟨g,0,n,rfl,block_lt_of_cell (hr 0 h0).1,Nat.le_refl _,fun j hj=>(hr j hj).1⟩
end Go.Proofs.YtdgkmloabificaaGreatDoor
namespace Go.Proofs.YtdgkmloabificaaGreatDoor
open Go.RowKit
theorem NewB.still {w w' w2:World} {v:Value} {n:Nat} {X:Nat→Nat} (h:NewB w w' v n X) (h0:0<n) (hb:Below w'.heap.size w' w2):NewB w w2 v n X:=by
 obtain ⟨g,rfl,hg,hr⟩:=h
 exact ⟨g,rfl,hg,hr.below hb (block_lt_of_cell (hr 0 h0).1)⟩
theorem byt_all (n:Nat):∀ j,byt n j<256:=fun j=>byt_lt n j
theorem ofB_byt32 (n:Nat) (h:n<115792089237316195423570985008687907853269984665640564039457584007913129639936):ofB (byt n) 32=n:=by
 rw [ofB_byt,show (256:Nat) ^ 32=115792089237316195423570985008687907853269984665640564039457584007913129639936 from rfl,Nat.mod_eq_of_lt h]
end Go.Proofs.YtdgkmloabificaaGreatDoor
namespace Go.Proofs.YtdgkmloabificaaGreatDoor
open Go.RowKit
def room (j:Nat):Nat:=if j=0 then 201 else 202
theorem src_room (w:World):Src (w.alloc (.cells #[.int .u8 201,.int .u8 202] 5)) (some ⟨w.heap.size,0,none⟩) 2 room:=by
 refine .inr ⟨w.heap.size,0,rfl,fun j hj => ?_⟩
 match j,hj with
 | 0,_=>simp [room]
 | 1,_=>simp [room]
set_option maxHeartbeats 1000000 in
theorem lent_any (v:Value) (n:Nat) (bs:Nat→Nat) (w:World) (hv:BytesIn w v n bs) (hn:n<140737488355000) :
 Calls Tryz.prog 6 #[v] w fun e w'=>∃ g cap,e = .returned (.slice (some ⟨g,0,none⟩) n cap)∧n+2≤cap∧w.heap.size≤g∧RowAt .u8 w' g 0 (n+2) (cat n bs room)∧Below w.heap.size w w':=by
 obtain ⟨xo,cx,rfl,hxn,-,hsrc⟩:=hv.src
 clear hv
 have src0:=hsrc _ ((Below.refl _ _).alloc (Nat.le_refl _) (.cells #[] 5))
 clear hsrc
 go_enter Tryz.func6,Tryz.ntmps6
 go_wp2_with (first
  | (at_builtin;refine wpList_append_empty rfl (.tmp 4) (.tmp 5) rfl w.heap.size bs _ rfl rfl xo n cx rfl src0 hxn (by omega) (Nat.le_refl _) ?_;intro v1 w1 own1 hb1;have hs1:=hb1.size;clear src0)
  | (at_builtin;refine wpList_append_bytes rfl (.tmp 7) (.tmp 8) rfl w.heap.size v1 n bs rfl (own1.alloc _) _ 2 2 room rfl (src_room w1) (fun h=>by cases h) (by omega) (by simp only [World.size_alloc];omega) ?_;intro v2 w2 own2 grow2;have hb2:=Own.grown (hb1.alloc hs1 _) grow2 (own1.alloc _) (Nat.le_refl _) (by simp only [World.size_alloc];omega);clear own1 hb1 hs1;(obtain ⟨g,cap,hv2,hg,hgl,hcap,hrow⟩:∃ g cap,v2 = .slice (some ⟨g,0,none⟩) (n+2) cap∧w.heap.size≤g∧g<w2.heap.size∧n+2≤cap∧RowAt .u8 w2 g 0 (n+2) (cat n bs room):=own2.form.resolve_left (fun h=>by omega));subst hv2;have hni:(n:Int)≤cap:=by omega))
 go_ret
 exact ⟨g,cap,rfl,hcap,hg,hrow,hb2⟩
set_option maxRecDepth 20000 in
set_option maxHeartbeats 1000000 in
theorem stays_any (g cap n:Nat) (v:Value) (bs:Nat→Nat) (hbs:∀ j,bs j<256) (w:World) (hn:n<140737488355000) (hcap:n+2≤cap) (hrow:RowAt .u8 w g 0 (n+2) (cat n bs room)) (hv:BytesIn w v n bs) :
 Calls Tryz.prog 10 #[.slice (some ⟨g,0,none⟩) n cap,v] w fun e w'=>e = .returned (.bool true)∧Below w.heap.size w w':=by
 have hc1:∀ W,Below w.heap.size w W→∀ c,(convert 22 9 (.slice (some ⟨g,0,none⟩) n c)).run Tryz.prog W = .ok (.string (strB n bs)) W:=fun W hW c=>conv_bytes W g 0 n c bs hbs (fun j hj=>by
  have:=(hrow j (by omega)).1
  rw [cat_left hj] at this
  exact (hW.cell (p:=⟨g,0+j,none⟩) (block_lt_of_cell this)).trans this)
 have hc2:=hv.conv hbs
 obtain ⟨xo,cx,rfl,-,-,-⟩:=hv.src
 have r1:w.cell? ⟨g,n,none⟩=some (.int .u8 201):=by
  have:=(hrow n (by omega)).1
  rw [Nat.zero_add] at this
  rw [this];unfold cat room;simp
 have r2:w.cell? ⟨g,n+1,none⟩=some (.int .u8 202):=by
  have:=(hrow (n+1) (by omega)).1
  rw [Nat.zero_add,cat_right] at this
  exact this
 clear hrow hv
 have hn2:(n:Int)+2≤cap:=by omega
 have hn3:(n:Int)≤cap:=by omega
 have e1:IntKind.i64.wrap ((n:Int)+1)=(n:Int)+1:=by simp only [IntKind.wrap_i64];omega
 have e3:((n:Int)+1).toNat=n+1:=by omega
 have e4:(0:Int)≤(n:Int)∧(n:Int)<(n:Int)+2:=by omega
 have e5:(0:Int)≤(n:Int)+1∧(n:Int)+1<(n:Int)+2:=by omega
 have e6:n<n+2:=by omega
 have e7:n+1<n+2:=by omega
 go_enter Tryz.func10,Tryz.ntmps10
 go_wp2
 have hS:∀ w':World,Below w.heap.size w w'→∀ b o,b<w.heap.size→w'.cell? ⟨b,o,none⟩=w.cell? ⟨b,o,none⟩:=fun w' h b o hb=>h.cell (p:=⟨b,o,none⟩) hb
 have hb0:Below w.heap.size w w.drew:=(Below.refl _ _).drew
 have hgl:g<w.heap.size:=block_lt_of_cell r1
 go_region_held3 (fun w'=>Below w.heap.size w w') (first | assumption) (fail)
 go_wp2
 go_ret
 exact ⟨rfl,hb0⟩
end Go.Proofs.YtdgkmloabificaaGreatDoor
namespace Go.Proofs.YtdgkmloabificaaGreatDoor
open Go.RowKit
theorem lent_bytes {W:World} {g cap n:Nat} {bs:Nat→Nat} (hr:RowAt .u8 W g 0 (n+2) (cat n bs room)) (hc:n+2≤cap):BytesIn W (.slice (some ⟨g,0,none⟩) n cap) n bs :=
 .inr ⟨g,0,cap,rfl,block_lt_of_cell (hr 0 (by omega)).1,by omega,fun j hj=>by have:=(hr j (by omega)).1;rwa [cat_left hj] at this⟩
theorem ans_str {W:World} {v:Value} {n:Nat} {X:Nat→Nat} (h:BytesIn W v n X) (hX:∀ j,X j<256):∃ xo c,v = .slice xo n c∧∀ W',Below W.heap.size W W'→(convert 22 9 v).run Tryz.prog W' = .ok (.string (strB n X)) W':=by
 have hc:=h.conv hX
 obtain ⟨xo,c,rfl,-⟩:=h.src
 exact ⟨xo,c,rfl,hc⟩
structure Str (W:World) (v:Value) (S:ByteArray):Prop where
 form:∃ xo n c,v = .slice xo n c
 conv:∀ W',Below W.heap.size W W'→(convert 22 9 v).run Tryz.prog W' = .ok (.string S) W'
theorem Str.of {W:World} {v:Value} {n:Nat} {X:Nat→Nat} (h:BytesIn W v n X) (hX:∀ j,X j<256):Str W v (strB n X):=by
 obtain ⟨xo,c,rfl,hc⟩:=ans_str h hX
 exact ⟨⟨xo,n,c,rfl⟩,hc⟩
theorem Str.still {W W2:World} {v:Value} {S:ByteArray} (h:Str W v S) (hb:Below W.heap.size W W2):Str W2 v S:=⟨h.form,fun W' h2=>h.conv W' (hb.trans (h2.mono hb.size))⟩
theorem Str.nil (W:World):Str W (.slice none 0 0) (strB 0 (fun _=>0)):=⟨⟨none,0,0,rfl⟩,fun W' _=>conv_nil W'⟩
end Go.Proofs.YtdgkmloabificaaGreatDoor
