/- What the proof stands on: RPlus6, RPlus6A, ROf, RTimes6. -/
import Derived.Test.YtdgkmloabificaaGreatDoorPNumM
namespace Go.Proofs.YtdgkmloabificaaGreatDoor
open Go.RowKit
abbrev qu3x7:Oper:=oN 9 (Op.alloc 66) 0 "ref.go:35" #[]
abbrev qu3x4:Oper:=oN 29 (cF1 71 #[oT 26,oT 28] #[66,66]) 66 "ref.go:35" #[jD 1,jD 3]
abbrev qu3x6:Oper:=oN 31 (cF1 71 #[oT 29,oT 30] #[66,66]) 66 "ref.go:35" #[jD 4,jD 5,jC 4]
abbrev qu3x8:Oper:=oS (Op.store 66 (oT 9) (oT 31)) "ref.go:35" #[jD 7,jD 6,jC 6,jP 0,jP 1,jP 2,jP 3,jP 4,jP 5,jP 6,jP 7]
abbrev qu5x15:Oper:=oN 11 (Op.alloc 66) 0 "ref.go:37" #[]
abbrev qu5x4:Oper:=oN 41 (cF1 74 #[oT 38,oT 40] #[66,66]) 66 "ref.go:37" #[jD 1,jD 3]
abbrev qu5x9:Oper:=oN 46 (cF1 74 #[oT 43,oT 45] #[66,66]) 66 "ref.go:37" #[jD 6,jD 8,jC 4]
abbrev qu5x10:Oper:=oN 47 (cF1 71 #[oT 41,oT 46] #[66,66]) 66 "ref.go:37" #[jD 4,jD 9,jC 9]
abbrev qu5x12:Oper:=oN 49 (cF1 73 #[oT 47,oT 48] #[66,66]) 66 "ref.go:37" #[jD 10,jD 11,jC 10]
abbrev qu5x14:Oper:=oN 51 (cF1 73 #[oT 49,oT 50] #[66,66]) 66 "ref.go:37" #[jD 12,jD 13,jC 12]
abbrev qu5x16:Oper:=oS (Op.store 66 (oT 11) (oT 51)) "ref.go:37" #[jD 15,jD 14,jC 14,jP 0,jP 1,jP 2,jP 3,jP 4,jP 5,jP 6,jP 7,jP 8,jP 9,jP 10,jP 11,jP 12,jP 13,jP 14,jP 15]
abbrev qu9x13:Oper:=oS (Op.store 68 (oT 6) (oT 73)) "ref.go:41" #[jD 12,jC 11,jP 0,jP 1,jP 2,jP 3,jP 4,jP 5,jP 6,jP 7,jP 8,jP 9,jP 10,jP 11,jP 12]
set_option maxRecDepth 20000 in
set_option maxHeartbeats 16000000 in
theorem rplus6_raw (pX pY pZ pT qX qY qZ qT dd a b c0 c e0 f1 f2 f3 f4 f g h s o1 o2 o3 o4:Nat→Int)
 (k1:∀ W,Calls Tryz.prog 71 #[rV pX,rV qX] W fun e w'=>e = .returned (rV a)∧Below W.heap.size W w')
 (k2:∀ W,Calls Tryz.prog 71 #[rV pY,rV qY] W fun e w'=>e = .returned (rV b)∧Below W.heap.size W w')
 (k3:∀ W,Calls Tryz.prog 71 #[rV pT,rV qT] W fun e w'=>e = .returned (rV c0)∧Below W.heap.size W w')
 (k4:∀ W,Calls Tryz.prog 71 #[rV c0,rV dd] W fun e w'=>e = .returned (rV c)∧Below W.heap.size W w')
 (k5:∀ W,Calls Tryz.prog 71 #[rV pZ,rV qZ] W fun e w'=>e = .returned (rV e0)∧Below W.heap.size W w')
 (k6:∀ W,Calls Tryz.prog 74 #[rV pX,rV pY] W fun e w'=>e = .returned (rV f1)∧Below W.heap.size W w')
 (k7:∀ W,Calls Tryz.prog 74 #[rV qX,rV qY] W fun e w'=>e = .returned (rV f2)∧Below W.heap.size W w')
 (k8:∀ W,Calls Tryz.prog 71 #[rV f1,rV f2] W fun e w'=>e = .returned (rV f3)∧Below W.heap.size W w')
 (k9:∀ W,Calls Tryz.prog 73 #[rV f3,rV a] W fun e w'=>e = .returned (rV f4)∧Below W.heap.size W w')
 (k10:∀ W,Calls Tryz.prog 73 #[rV f4,rV b] W fun e w'=>e = .returned (rV f)∧Below W.heap.size W w')
 (k11:∀ W,Calls Tryz.prog 73 #[rV e0,rV c] W fun e w'=>e = .returned (rV g)∧Below W.heap.size W w')
 (k12:∀ W,Calls Tryz.prog 74 #[rV e0,rV c] W fun e w'=>e = .returned (rV h)∧Below W.heap.size W w')
 (k13:∀ W,Calls Tryz.prog 74 #[rV b,rV a] W fun e w'=>e = .returned (rV s)∧Below W.heap.size W w')
 (k14:∀ W,Calls Tryz.prog 71 #[rV f,rV g] W fun e w'=>e = .returned (rV o1)∧Below W.heap.size W w')
 (k15:∀ W,Calls Tryz.prog 71 #[rV h,rV s] W fun e w'=>e = .returned (rV o2)∧Below W.heap.size W w')
 (k16:∀ W,Calls Tryz.prog 71 #[rV g,rV h] W fun e w'=>e = .returned (rV o3)∧Below W.heap.size W w')
 (k17:∀ W,Calls Tryz.prog 71 #[rV f,rV s] W fun e w'=>e = .returned (rV o4)∧Below W.heap.size W w')
 (w:World) :
 Calls Tryz.prog 34 #[qV pX pY pZ pT,qV qX qY qZ qT,rV dd] w fun e w'=>e = .returned (qV o1 o2 o3 o4)∧Below w.heap.size w w':=by
 have hz:=zeroR
 have hzq:=zeroQ
 obtain ⟨V1,g3,e3,hg3,b3,hp⟩:∃ V g,w.alloc (.cells (q64 pX pY pZ pT).toArray 68)=V∧w.heap.size=g∧Below w.heap.size w V∧RW V g 0 (q64 pX pY pZ pT):=⟨_,_,rfl,rfl,(Below.refl _ _).alloc (Nat.le_refl _) _,RW.fresh w _ _⟩
 obtain ⟨V2,g4,e4,hg4,b4,hq⟩:∃ V g,V1.alloc (.cells (q64 qX qY qZ qT).toArray 68)=V∧V1.heap.size=g∧Below V1.heap.size V1 V∧RW V g 0 (q64 qX qY qZ qT):=⟨_,_,rfl,rfl,(Below.refl _ _).alloc (Nat.le_refl _) _,RW.fresh V1 _ _⟩
 obtain ⟨V3,g5,e5,hg5,b5,hd⟩:∃ V g,V2.alloc (.cells (i16 dd).toArray 66)=V∧V2.heap.size=g∧Below V2.heap.size V2 V∧RW V g 0 (i16 dd):=⟨_,_,rfl,rfl,(Below.refl _ _).alloc (Nat.le_refl _) _,RW.fresh V2 _ _⟩
 obtain ⟨W,g6,e6,hg6,b6,h6⟩:=freshQ V3
 have t1:V1.heap.size=w.heap.size+1:=by rw [←e3];simp
 have t2:V2.heap.size=V1.heap.size+1:=by rw [←e4];simp
 have t3:V3.heap.size=V2.heap.size+1:=by rw [←e5];simp
 have HW:Hid (W=(((w.alloc (.cells (q64 pX pY pZ pT).toArray 68)).alloc (.cells (q64 qX qY qZ qT).toArray 68)).alloc (.cells (i16 dd).toArray 66)).alloc (.cells zQ 68)):=Hid.mk' (by rw [←e6,←e5,←e4,←e3])
 have q3:Hid (w.heap.size=g3):=Hid.mk' hg3
 have q4:Hid (w.heap.size+1=g4):=Hid.mk' (by omega)
 have q5:Hid (w.heap.size+1+1=g5):=Hid.mk' (by omega)
 have q6:Hid (w.heap.size+1+1+1=g6):=Hid.mk' (by omega)
 replace hp:=((hp.still b4).still b5).still b6
 replace hq:=(hq.still b5).still b6
 replace hd:=hd.still b6
 have hbW:Below w.heap.size w W:=((b3.trans (b4.mono (by omega))).trans (b5.mono (by omega))).trans (b6.mono (by omega))
 obtain ⟨hpX,hpY,hpZ,hpT⟩:=parts hp
 obtain ⟨hqX,hqY,hqZ,hqT⟩:=parts hq
 have w6:w.heap.size≤g6:=by omega
 clear e3 e4 e5 e6 hg3 hg4 hg5 hg6 b3 b4 b5 b6 t1 t2 t3 hp hq V1 V2 V3
 rw [show qV pX pY pZ pT = .agg (q64 pX pY pZ pT).toArray from rfl,show qV qX qY qZ qT = .agg (q64 qX qY qZ qT).toArray from rfl,show rV dd = .agg (i16 dd).toArray from rfl]
 go_enter Tryz.func34,Tryz.ntmps34
 go_upto_region 1 with (fail)
 rw [←HW.out,q6.out,q5.out,q4.out,q3.out]
 clear HW q3 q4 q5 q6
 go_cut [7] from 15 (fun s7 wc=>∃ g107,s7 = .pointer (some ⟨g107,0,none⟩)∧Below W.heap.size W wc∧W.heap.size≤g107∧RW wc g107 0 (i16 a))
 case first =>
  clear k2 k3 k4 k5 k6 k7 k8 k9 k10 k11 k12 k13 k14 k15 k16 k17
  have r1:=hpX.range
  have r2:=hqX.range
  have kk:∀ W,Calls Tryz.prog 71 #[.agg (i16 pX).toArray,.agg (i16 qX).toArray] W fun e w'=>e = .returned (.agg (i16 a).toArray)∧Below W.heap.size W w':=k1
  clear k1 hpX hpY hpZ hpT hqX hqY hqZ hqT hd h6 hzq
  go_wp2_with (first
   | (refine wpList_load_mid rfl 66 _ rfl g3 0 rfl (i16 pX) _ r1 Tryz.underlying66 rfl (infoI pX) ?_)
   | (refine wpList_load_mid rfl 66 _ rfl g4 0 rfl (i16 qX) _ r2 Tryz.underlying66 rfl (infoI qX) ?_)
   | (go_at_call 71;refine (kk _).mono ?_;clear kk r1 r2;rintro e w9 ⟨rfl,hb9⟩;(have th:=freshR' w9);(have th':=freshRt w9 a))
   | (with_reducible (refine id (?_:wpList _ _ _ _ _ _));refine wpList_store_mid rfl 66 _ _ rfl w9.heap.size 0 (i16 a).toArray rfl rfl th' (infoIA a) (oneI a) ?_))
  go_meet
  case rel=>exact ⟨w9.heap.size,rfl,below_setCells hb9.size _ _ _ (hb9.alloc hb9.size _),hb9.size,th.stored (i16 a) (by rw [i16_len,i16_len])⟩
 case rest =>
 obtain ⟨g107,rfl,hb107,G107,h107⟩:=hcut
 have lt6:=h6.lt
 replace hpX:=hpX.still hb107
 replace hpY:=hpY.still hb107
 replace hpZ:=hpZ.still hb107
 replace hpT:=hpT.still hb107
 replace hqX:=hqX.still hb107
 replace hqY:=hqY.still hb107
 replace hqZ:=hqZ.still hb107
 replace hqT:=hqT.still hb107
 replace hd:=hd.still hb107
 replace h6:=h6.still hb107
 obtain ⟨U1,hU1⟩:∃ W,W=wc:=⟨_,rfl⟩
 rw [←hU1]
 rw [←hU1] at hpX hpY hpZ hpT hqX hqY hqZ hqT hd h6 h107 hb107
 replace hbW:Below w.heap.size w U1:=below_next hbW hb107
 clear hU1 hb107
 have m6_7:g107≠g6:=by omega
 clear G107 lt6
 go_upto_region 2 with (fail)
 go_cut [8] from 15 (fun s8 wc=>∃ g108,s8 = .pointer (some ⟨g108,0,none⟩)∧Below U1.heap.size U1 wc∧U1.heap.size≤g108∧RW wc g108 0 (i16 b))
 case first =>
  clear k1 k3 k4 k5 k6 k7 k8 k9 k10 k11 k12 k13 k14 k15 k16 k17
  have r1:=hpY.range
  have r2:=hqY.range
  have kk:∀ W,Calls Tryz.prog 71 #[.agg (i16 pY).toArray,.agg (i16 qY).toArray] W fun e w'=>e = .returned (.agg (i16 b).toArray)∧Below W.heap.size W w':=k2
  clear k2 hpX hpY hpZ hpT hqX hqY hqZ hqT hd h6 h107 hzq
  go_wp2_with (first
   | (refine wpList_load_mid rfl 66 _ rfl g3 16 rfl (i16 pY) _ r1 Tryz.underlying66 rfl (infoI pY) ?_)
   | (refine wpList_load_mid rfl 66 _ rfl g4 16 rfl (i16 qY) _ r2 Tryz.underlying66 rfl (infoI qY) ?_)
   | (go_at_call 71;refine (kk _).mono ?_;clear kk r1 r2;rintro e w9 ⟨rfl,hb9⟩;(have th:=freshR' w9);(have th':=freshRt w9 b))
   | (with_reducible (refine id (?_:wpList _ _ _ _ _ _));refine wpList_store_mid rfl 66 _ _ rfl w9.heap.size 0 (i16 b).toArray rfl rfl th' (infoIA b) (oneI b) ?_))
  go_meet
  case rel=>exact ⟨w9.heap.size,rfl,below_setCells hb9.size _ _ _ (hb9.alloc hb9.size _),hb9.size,th.stored (i16 b) (by rw [i16_len,i16_len])⟩
 case rest =>
 obtain ⟨g108,rfl,hb108,G108,h108⟩:=hcut
 have lt6:=h6.lt
 replace hpX:=hpX.still hb108
 replace hpY:=hpY.still hb108
 replace hpZ:=hpZ.still hb108
 replace hpT:=hpT.still hb108
 replace hqX:=hqX.still hb108
 replace hqY:=hqY.still hb108
 replace hqZ:=hqZ.still hb108
 replace hqT:=hqT.still hb108
 replace hd:=hd.still hb108
 replace h6:=h6.still hb108
 replace h107:=h107.still hb108
 obtain ⟨U2,hU2⟩:∃ W,W=wc:=⟨_,rfl⟩
 rw [←hU2]
 rw [←hU2] at hpX hpY hpZ hpT hqX hqY hqZ hqT hd h6 h107 h108 hb108
 replace hbW:Below w.heap.size w U2:=below_next hbW hb108
 clear hU2 hb108
 have m6_8:g108≠g6:=by omega
 clear G108 lt6
 go_upto_region 3 with (fail)
 go_cut [9] from 15 (fun s9 wc=>∃ g109,s9 = .pointer (some ⟨g109,0,none⟩)∧Below U2.heap.size U2 wc∧U2.heap.size≤g109∧RW wc g109 0 (i16 c))
 case first =>
  clear k1 k2 k5 k6 k7 k8 k9 k10 k11 k12 k13 k14 k15 k16 k17
  have hdrew:Below U2.heap.size U2 U2.drew:=(Below.refl _ _).drew
  replace hpX:=hpX.still hdrew
  replace hpY:=hpY.still hdrew
  replace hpZ:=hpZ.still hdrew
  replace hpT:=hpT.still hdrew
  replace hqX:=hqX.still hdrew
  replace hqY:=hqY.still hdrew
  replace hqZ:=hqZ.still hdrew
  replace hqT:=hqT.still hdrew
  replace hd:=hd.still hdrew
  replace h6:=h6.still hdrew
  replace h107:=h107.still hdrew
  replace h108:=h108.still hdrew
  refine wp_region_noPanic ?_
  refine wp_region_held_drew (S:=fun w'=>Below U2.drew.heap.size U2.drew w') (by kernel_rfl) (Below.refl _ _) (fun hS => ?_)
  generalize U2.drew=Vu3_ at *
  refine tkH 0 (oN 25 (Op.fieldAddr 68 (oT 3) 3) 0 "ref.go:35" #[]) (pA g3 48) hS yR ?_
  (try simp only [pS])
  refine tkH 1 (oN 26 (Op.load 66 (oT 25)) 66 "ref.go:35" #[jD 0]) (rV pT) hS (ldH hpT 66 25 Tryz.underlying66 (infoI _)) ?_
  (try simp only [pS])
  refine tkH 2 (oN 27 (Op.fieldAddr 68 (oT 4) 3) 0 "ref.go:35" #[]) (pA g4 48) hS yR ?_
  (try simp only [pS])
  refine tkH 3 (oN 28 (Op.load 66 (oT 27)) 66 "ref.go:35" #[jD 2]) (rV qT) hS (ldH hqT 66 27 Tryz.underlying66 (infoI _)) ?_
  (try simp only [pS])
  refine tkH 5 (oN 30 (Op.load 66 (oT 5)) 66 "ref.go:35" #[]) (rV dd) hS (ldH hd 66 5 Tryz.underlying66 (infoI _)) ?_
  (try simp only [pS])
  refine wpAnyH_ready (rs:=[4,7]) (by kernel_rfl) (by simp) ?_
  refine AllReadyH.cons (o:=qu3x4) rfl (fun K hK => ?_) (AllReadyH.cons (o:=qu3x7) rfl (fun K hK => ?_) (AllReadyH.nil))
  · unfold qu3x4
    go_simp
    (go_at_call 71;refine (k3 _).mono ?_;rintro e wu3_1 ⟨rfl,hbu3_1⟩)
    (try go_simp)
    have hSu3_1:=below_next hS hbu3_1
    refine hK.out _ _ hSu3_1 (fun h => ?_)
    clear h hK K hbu3_1
    (try simp only [pS])
    refine wpAnyH_ready (rs:=[6,7]) (by kernel_rfl) (by simp) ?_
    refine AllReadyH.cons (o:=qu3x6) rfl (fun K hK => ?_) (AllReadyH.cons (o:=qu3x7) rfl (fun K hK => ?_) (AllReadyH.nil))
    · unfold qu3x6
      go_simp
      (go_at_call 71;refine (k4 _).mono ?_;rintro e wu3_2 ⟨rfl,hbu3_2⟩)
      (try go_simp)
      have hSu3_2:=below_next hSu3_1 hbu3_2
      refine hK.out _ _ hSu3_2 (fun h => ?_)
      clear h hK K hbu3_2
      (try simp only [pS])
      refine wpAnyH_ready (rs:=[7]) (by kernel_rfl) (by simp) ?_
      refine AllReadyH.cons (o:=qu3x7) rfl (fun K hK => ?_) (AllReadyH.nil)
      unfold qu3x7
      go_simp
      obtain ⟨wu3_3,gu3_3,hwu3_3,hgu3_3,hbu3_3,ru3_3⟩:=freshR wu3_2
      rw [hwu3_3,hgu3_3]
      have hSu3_3:=below_next hSu3_2 hbu3_3
      have Gu3_3:Vu3_.heap.size≤gu3_3:=by have:=hSu3_2.size;omega
      refine hK.out _ _ hSu3_3 (fun h => ?_)
      clear h hK K hbu3_3 hwu3_3 hgu3_3
      (try simp only [pS])
      refine wpAnyH_ready (rs:=[8]) (by kernel_rfl) (by simp) ?_
      refine AllReadyH.cons (o:=qu3x8) rfl (fun K hK => ?_) (AllReadyH.nil)
      unfold qu3x8
      rw [if_pos (by rfl)]
      refine ref_store _ _ rfl gu3_3 (fun _=>0) c rfl rfl ru3_3 hSu3_3 Gu3_3 (fun wu3_4 r0 hSu3_4 => ?_)
      refine hK.out _ _ hSu3_4 (fun h => ?_)
      clear h hK K ru3_3
      have ru3_3:=r0
      clear r0
      (try dsimp only [Act.put])
      refine wpAnyH_done (by kernel_rfl) ?_ _
      refine NoPanic.normal ?_
      go_wp2
      go_meet
      case rel=>exact ⟨gu3_3,rfl,below_next hdrew hSu3_4,Nat.le_trans hdrew.size Gu3_3,ru3_3⟩
    · unfold qu3x7
      go_simp
      obtain ⟨wu3_5,gu3_5,hwu3_5,hgu3_5,hbu3_5,ru3_5⟩:=freshR wu3_1
      rw [hwu3_5,hgu3_5]
      have hSu3_5:=below_next hSu3_1 hbu3_5
      have Gu3_5:Vu3_.heap.size≤gu3_5:=by have:=hSu3_1.size;omega
      refine hK.out _ _ hSu3_5 (fun h => ?_)
      clear h hK K hbu3_5 hwu3_5 hgu3_5
      (try simp only [pS])
      refine callH 6 (oN 31 (cF1 71 #[oT 29,oT 30] #[66,66]) 66 "ref.go:35" #[jD 4,jD 5,jC 4]) (k4 _) ?_
      (rintro e wu3_6 ⟨rfl,hbu3_6⟩)
      have hSu3_6:=below_next hSu3_5 hbu3_6
      replace ru3_5:=ru3_5.still hbu3_6
      refine ⟨_,rfl,hSu3_6,?_⟩
      clear hbu3_6
      (try simp only [pS])
      refine wpAnyH_ready (rs:=[8]) (by kernel_rfl) (by simp) ?_
      refine AllReadyH.cons (o:=qu3x8) rfl (fun K hK => ?_) (AllReadyH.nil)
      unfold qu3x8
      rw [if_pos (by rfl)]
      refine ref_store _ _ rfl gu3_5 (fun _=>0) c rfl rfl ru3_5 hSu3_6 Gu3_5 (fun wu3_7 r0 hSu3_7 => ?_)
      refine hK.out _ _ hSu3_7 (fun h => ?_)
      clear h hK K ru3_5
      have ru3_5:=r0
      clear r0
      (try dsimp only [Act.put])
      refine wpAnyH_done (by kernel_rfl) ?_ _
      refine NoPanic.normal ?_
      go_wp2
      go_meet
      case rel=>exact ⟨gu3_5,rfl,below_next hdrew hSu3_7,Nat.le_trans hdrew.size Gu3_5,ru3_5⟩
  · unfold qu3x7
    go_simp
    obtain ⟨wu3_8,gu3_8,hwu3_8,hgu3_8,hbu3_8,ru3_8⟩:=freshR Vu3_
    rw [hwu3_8,hgu3_8]
    have hSu3_8:=below_next hS hbu3_8
    have Gu3_8:Vu3_.heap.size≤gu3_8:=by have:=hS.size;omega
    refine hK.out _ _ hSu3_8 (fun h => ?_)
    clear h hK K hbu3_8 hwu3_8 hgu3_8
    (try simp only [pS])
    refine callH 4 (oN 29 (cF1 71 #[oT 26,oT 28] #[66,66]) 66 "ref.go:35" #[jD 1,jD 3]) (k3 _) ?_
    (rintro e wu3_9 ⟨rfl,hbu3_9⟩)
    have hSu3_9:=below_next hSu3_8 hbu3_9
    replace ru3_8:=ru3_8.still hbu3_9
    refine ⟨_,rfl,hSu3_9,?_⟩
    clear hbu3_9
    (try simp only [pS])
    refine callH 6 (oN 31 (cF1 71 #[oT 29,oT 30] #[66,66]) 66 "ref.go:35" #[jD 4,jD 5,jC 4]) (k4 _) ?_
    (rintro e wu3_10 ⟨rfl,hbu3_10⟩)
    have hSu3_10:=below_next hSu3_9 hbu3_10
    replace ru3_8:=ru3_8.still hbu3_10
    refine ⟨_,rfl,hSu3_10,?_⟩
    clear hbu3_10
    (try simp only [pS])
    refine wpAnyH_ready (rs:=[8]) (by kernel_rfl) (by simp) ?_
    refine AllReadyH.cons (o:=qu3x8) rfl (fun K hK => ?_) (AllReadyH.nil)
    unfold qu3x8
    rw [if_pos (by rfl)]
    refine ref_store _ _ rfl gu3_8 (fun _=>0) c rfl rfl ru3_8 hSu3_10 Gu3_8 (fun wu3_11 r0 hSu3_11 => ?_)
    refine hK.out _ _ hSu3_11 (fun h => ?_)
    clear h hK K ru3_8
    have ru3_8:=r0
    clear r0
    (try dsimp only [Act.put])
    refine wpAnyH_done (by kernel_rfl) ?_ _
    refine NoPanic.normal ?_
    go_wp2
    go_meet
    case rel=>exact ⟨gu3_8,rfl,below_next hdrew hSu3_11,Nat.le_trans hdrew.size Gu3_8,ru3_8⟩
 case rest =>
 obtain ⟨g109,rfl,hb109,G109,h109⟩:=hcut
 have lt6:=h6.lt
 replace hpX:=hpX.still hb109
 replace hpY:=hpY.still hb109
 replace hpZ:=hpZ.still hb109
 replace hpT:=hpT.still hb109
 replace hqX:=hqX.still hb109
 replace hqY:=hqY.still hb109
 replace hqZ:=hqZ.still hb109
 replace hqT:=hqT.still hb109
 replace hd:=hd.still hb109
 replace h6:=h6.still hb109
 replace h107:=h107.still hb109
 replace h108:=h108.still hb109
 obtain ⟨U3,hU3⟩:∃ W,W=wc:=⟨_,rfl⟩
 rw [←hU3]
 rw [←hU3] at hpX hpY hpZ hpT hqX hqY hqZ hqT hd h6 h107 h108 h109 hb109
 replace hbW:Below w.heap.size w U3:=below_next hbW hb109
 clear hU3 hb109
 have m6_9:g109≠g6:=by omega
 clear G109 lt6
 go_upto_region 4 with (fail)
 go_cut [10] from 15 (fun s10 wc=>∃ g110,s10 = .pointer (some ⟨g110,0,none⟩)∧Below U3.heap.size U3 wc∧U3.heap.size≤g110∧RW wc g110 0 (i16 e0))
 case first =>
  clear k1 k2 k3 k4 k6 k7 k8 k9 k10 k11 k12 k13 k14 k15 k16 k17
  have r1:=hpZ.range
  have r2:=hqZ.range
  have kk:∀ W,Calls Tryz.prog 71 #[.agg (i16 pZ).toArray,.agg (i16 qZ).toArray] W fun e w'=>e = .returned (.agg (i16 e0).toArray)∧Below W.heap.size W w':=k5
  clear k5 hpX hpY hpZ hpT hqX hqY hqZ hqT hd h6 h107 h108 h109 hzq
  go_wp2_with (first
   | (refine wpList_load_mid rfl 66 _ rfl g3 32 rfl (i16 pZ) _ r1 Tryz.underlying66 rfl (infoI pZ) ?_)
   | (refine wpList_load_mid rfl 66 _ rfl g4 32 rfl (i16 qZ) _ r2 Tryz.underlying66 rfl (infoI qZ) ?_)
   | (go_at_call 71;refine (kk _).mono ?_;clear kk r1 r2;rintro e w9 ⟨rfl,hb9⟩;(have th:=freshR' w9);(have th':=freshRt w9 e0))
   | (with_reducible (refine id (?_:wpList _ _ _ _ _ _));refine wpList_store_mid rfl 66 _ _ rfl w9.heap.size 0 (i16 e0).toArray rfl rfl th' (infoIA e0) (oneI e0) ?_))
  go_meet
  case rel=>exact ⟨w9.heap.size,rfl,below_setCells hb9.size _ _ _ (hb9.alloc hb9.size _),hb9.size,th.stored (i16 e0) (by rw [i16_len,i16_len])⟩
 case rest =>
 obtain ⟨g110,rfl,hb110,G110,h110⟩:=hcut
 have lt6:=h6.lt
 replace hpX:=hpX.still hb110
 replace hpY:=hpY.still hb110
 replace hpZ:=hpZ.still hb110
 replace hpT:=hpT.still hb110
 replace hqX:=hqX.still hb110
 replace hqY:=hqY.still hb110
 replace hqZ:=hqZ.still hb110
 replace hqT:=hqT.still hb110
 replace hd:=hd.still hb110
 replace h6:=h6.still hb110
 replace h107:=h107.still hb110
 replace h108:=h108.still hb110
 replace h109:=h109.still hb110
 obtain ⟨U4,hU4⟩:∃ W,W=wc:=⟨_,rfl⟩
 rw [←hU4]
 rw [←hU4] at hpX hpY hpZ hpT hqX hqY hqZ hqT hd h6 h107 h108 h109 h110 hb110
 replace hbW:Below w.heap.size w U4:=below_next hbW hb110
 clear hU4 hb110
 have m6_10:g110≠g6:=by omega
 clear G110 lt6
 go_upto_region 5 with (fail)
 go_cut [11] from 15 (fun s11 wc=>∃ g111,s11 = .pointer (some ⟨g111,0,none⟩)∧Below U4.heap.size U4 wc∧U4.heap.size≤g111∧RW wc g111 0 (i16 f))
 case first =>
  clear k1 k2 k3 k4 k5 k11 k12 k13 k14 k15 k16 k17
  have hdrew:Below U4.heap.size U4 U4.drew:=(Below.refl _ _).drew
  replace hpX:=hpX.still hdrew
  replace hpY:=hpY.still hdrew
  replace hpZ:=hpZ.still hdrew
  replace hpT:=hpT.still hdrew
  replace hqX:=hqX.still hdrew
  replace hqY:=hqY.still hdrew
  replace hqZ:=hqZ.still hdrew
  replace hqT:=hqT.still hdrew
  replace hd:=hd.still hdrew
  replace h6:=h6.still hdrew
  replace h107:=h107.still hdrew
  replace h108:=h108.still hdrew
  replace h109:=h109.still hdrew
  replace h110:=h110.still hdrew
  refine wp_region_noPanic ?_
  refine wp_region_held_drew (S:=fun w'=>Below U4.drew.heap.size U4.drew w') (by kernel_rfl) (Below.refl _ _) (fun hS => ?_)
  generalize U4.drew=Vu5_ at *
  refine tkH 0 (oN 37 (Op.fieldAddr 68 (oT 3) 0) 0 "ref.go:37" #[]) (pA g3 0) hS yR ?_
  (try simp only [pS])
  refine tkH 1 (oN 38 (Op.load 66 (oT 37)) 66 "ref.go:37" #[jD 0]) (rV pX) hS (ldH hpX 66 37 Tryz.underlying66 (infoI _)) ?_
  (try simp only [pS])
  refine tkH 2 (oN 39 (Op.fieldAddr 68 (oT 3) 1) 0 "ref.go:37" #[]) (pA g3 16) hS yR ?_
  (try simp only [pS])
  refine tkH 3 (oN 40 (Op.load 66 (oT 39)) 66 "ref.go:37" #[jD 2]) (rV pY) hS (ldH hpY 66 39 Tryz.underlying66 (infoI _)) ?_
  (try simp only [pS])
  refine tkH 5 (oN 42 (Op.fieldAddr 68 (oT 4) 0) 0 "ref.go:37" #[]) (pA g4 0) hS yR ?_
  (try simp only [pS])
  refine tkH 6 (oN 43 (Op.load 66 (oT 42)) 66 "ref.go:37" #[jD 5]) (rV qX) hS (ldH hqX 66 42 Tryz.underlying66 (infoI _)) ?_
  (try simp only [pS])
  refine tkH 7 (oN 44 (Op.fieldAddr 68 (oT 4) 1) 0 "ref.go:37" #[]) (pA g4 16) hS yR ?_
  (try simp only [pS])
  refine tkH 8 (oN 45 (Op.load 66 (oT 44)) 66 "ref.go:37" #[jD 7]) (rV qY) hS (ldH hqY 66 44 Tryz.underlying66 (infoI _)) ?_
  (try simp only [pS])
  refine tkH 11 (oN 48 (Op.load 66 (oT 7)) 66 "ref.go:37" #[]) (rV a) hS (ldH h107 66 7 Tryz.underlying66 (infoI _)) ?_
  (try simp only [pS])
  refine tkH 13 (oN 50 (Op.load 66 (oT 8)) 66 "ref.go:37" #[]) (rV b) hS (ldH h108 66 8 Tryz.underlying66 (infoI _)) ?_
  (try simp only [pS])
  refine wpAnyH_ready (rs:=[4,15]) (by kernel_rfl) (by simp) ?_
  refine AllReadyH.cons (o:=qu5x4) rfl (fun K hK => ?_) (AllReadyH.cons (o:=qu5x15) rfl (fun K hK => ?_) (AllReadyH.nil))
  · unfold qu5x4
    go_simp
    (go_at_call 74;refine (k6 _).mono ?_;rintro e wu5_1 ⟨rfl,hbu5_1⟩)
    (try go_simp)
    have hSu5_1:=below_next hS hbu5_1
    refine hK.out _ _ hSu5_1 (fun h => ?_)
    clear h hK K hbu5_1
    (try simp only [pS])
    refine wpAnyH_ready (rs:=[9,15]) (by kernel_rfl) (by simp) ?_
    refine AllReadyH.cons (o:=qu5x9) rfl (fun K hK => ?_) (AllReadyH.cons (o:=qu5x15) rfl (fun K hK => ?_) (AllReadyH.nil))
    · unfold qu5x9
      go_simp
      (go_at_call 74;refine (k7 _).mono ?_;rintro e wu5_2 ⟨rfl,hbu5_2⟩)
      (try go_simp)
      have hSu5_2:=below_next hSu5_1 hbu5_2
      refine hK.out _ _ hSu5_2 (fun h => ?_)
      clear h hK K hbu5_2
      (try simp only [pS])
      refine wpAnyH_ready (rs:=[10,15]) (by kernel_rfl) (by simp) ?_
      refine AllReadyH.cons (o:=qu5x10) rfl (fun K hK => ?_) (AllReadyH.cons (o:=qu5x15) rfl (fun K hK => ?_) (AllReadyH.nil))
      · unfold qu5x10
        go_simp
        (go_at_call 71;refine (k8 _).mono ?_;rintro e wu5_3 ⟨rfl,hbu5_3⟩)
        (try go_simp)
        have hSu5_3:=below_next hSu5_2 hbu5_3
        refine hK.out _ _ hSu5_3 (fun h => ?_)
        clear h hK K hbu5_3
        (try simp only [pS])
        refine wpAnyH_ready (rs:=[12,15]) (by kernel_rfl) (by simp) ?_
        refine AllReadyH.cons (o:=qu5x12) rfl (fun K hK => ?_) (AllReadyH.cons (o:=qu5x15) rfl (fun K hK => ?_) (AllReadyH.nil))
        · unfold qu5x12
          go_simp
          (go_at_call 73;refine (k9 _).mono ?_;rintro e wu5_4 ⟨rfl,hbu5_4⟩)
          (try go_simp)
          have hSu5_4:=below_next hSu5_3 hbu5_4
          refine hK.out _ _ hSu5_4 (fun h => ?_)
          clear h hK K hbu5_4
          (try simp only [pS])
          refine wpAnyH_ready (rs:=[14,15]) (by kernel_rfl) (by simp) ?_
          refine AllReadyH.cons (o:=qu5x14) rfl (fun K hK => ?_) (AllReadyH.cons (o:=qu5x15) rfl (fun K hK => ?_) (AllReadyH.nil))
          · unfold qu5x14
            go_simp
            (go_at_call 73;refine (k10 _).mono ?_;rintro e wu5_5 ⟨rfl,hbu5_5⟩)
            (try go_simp)
            have hSu5_5:=below_next hSu5_4 hbu5_5
            refine hK.out _ _ hSu5_5 (fun h => ?_)
            clear h hK K hbu5_5
            (try simp only [pS])
            refine wpAnyH_ready (rs:=[15]) (by kernel_rfl) (by simp) ?_
            refine AllReadyH.cons (o:=qu5x15) rfl (fun K hK => ?_) (AllReadyH.nil)
            unfold qu5x15
            go_simp
            obtain ⟨wu5_6,gu5_6,hwu5_6,hgu5_6,hbu5_6,ru5_6⟩:=freshR wu5_5
            rw [hwu5_6,hgu5_6]
            have hSu5_6:=below_next hSu5_5 hbu5_6
            have Gu5_6:Vu5_.heap.size≤gu5_6:=by have:=hSu5_5.size;omega
            refine hK.out _ _ hSu5_6 (fun h => ?_)
            clear h hK K hbu5_6 hwu5_6 hgu5_6
            (try simp only [pS])
            refine wpAnyH_ready (rs:=[16]) (by kernel_rfl) (by simp) ?_
            refine AllReadyH.cons (o:=qu5x16) rfl (fun K hK => ?_) (AllReadyH.nil)
            unfold qu5x16
            rw [if_pos (by rfl)]
            refine ref_store _ _ rfl gu5_6 (fun _=>0) f rfl rfl ru5_6 hSu5_6 Gu5_6 (fun wu5_7 r0 hSu5_7 => ?_)
            refine hK.out _ _ hSu5_7 (fun h => ?_)
            clear h hK K ru5_6
            have ru5_6:=r0
            clear r0
            (try dsimp only [Act.put])
            refine wpAnyH_done (by kernel_rfl) ?_ _
            refine NoPanic.normal ?_
            go_wp2
            go_meet
            case rel=>exact ⟨gu5_6,rfl,below_next hdrew hSu5_7,Nat.le_trans hdrew.size Gu5_6,ru5_6⟩
          · unfold qu5x15
            go_simp
            obtain ⟨wu5_8,gu5_8,hwu5_8,hgu5_8,hbu5_8,ru5_8⟩:=freshR wu5_4
            rw [hwu5_8,hgu5_8]
            have hSu5_8:=below_next hSu5_4 hbu5_8
            have Gu5_8:Vu5_.heap.size≤gu5_8:=by have:=hSu5_4.size;omega
            refine hK.out _ _ hSu5_8 (fun h => ?_)
            clear h hK K hbu5_8 hwu5_8 hgu5_8
            (try simp only [pS])
            refine callH 14 (oN 51 (cF1 73 #[oT 49,oT 50] #[66,66]) 66 "ref.go:37" #[jD 12,jD 13,jC 12]) (k10 _) ?_
            (rintro e wu5_9 ⟨rfl,hbu5_9⟩)
            have hSu5_9:=below_next hSu5_8 hbu5_9
            replace ru5_8:=ru5_8.still hbu5_9
            refine ⟨_,rfl,hSu5_9,?_⟩
            clear hbu5_9
            (try simp only [pS])
            refine wpAnyH_ready (rs:=[16]) (by kernel_rfl) (by simp) ?_
            refine AllReadyH.cons (o:=qu5x16) rfl (fun K hK => ?_) (AllReadyH.nil)
            unfold qu5x16
            rw [if_pos (by rfl)]
            refine ref_store _ _ rfl gu5_8 (fun _=>0) f rfl rfl ru5_8 hSu5_9 Gu5_8 (fun wu5_10 r0 hSu5_10 => ?_)
            refine hK.out _ _ hSu5_10 (fun h => ?_)
            clear h hK K ru5_8
            have ru5_8:=r0
            clear r0
            (try dsimp only [Act.put])
            refine wpAnyH_done (by kernel_rfl) ?_ _
            refine NoPanic.normal ?_
            go_wp2
            go_meet
            case rel=>exact ⟨gu5_8,rfl,below_next hdrew hSu5_10,Nat.le_trans hdrew.size Gu5_8,ru5_8⟩
        · unfold qu5x15
          go_simp
          obtain ⟨wu5_11,gu5_11,hwu5_11,hgu5_11,hbu5_11,ru5_11⟩:=freshR wu5_3
          rw [hwu5_11,hgu5_11]
          have hSu5_11:=below_next hSu5_3 hbu5_11
          have Gu5_11:Vu5_.heap.size≤gu5_11:=by have:=hSu5_3.size;omega
          refine hK.out _ _ hSu5_11 (fun h => ?_)
          clear h hK K hbu5_11 hwu5_11 hgu5_11
          (try simp only [pS])
          refine callH 12 (oN 49 (cF1 73 #[oT 47,oT 48] #[66,66]) 66 "ref.go:37" #[jD 10,jD 11,jC 10]) (k9 _) ?_
          (rintro e wu5_12 ⟨rfl,hbu5_12⟩)
          have hSu5_12:=below_next hSu5_11 hbu5_12
          replace ru5_11:=ru5_11.still hbu5_12
          refine ⟨_,rfl,hSu5_12,?_⟩
          clear hbu5_12
          (try simp only [pS])
          refine callH 14 (oN 51 (cF1 73 #[oT 49,oT 50] #[66,66]) 66 "ref.go:37" #[jD 12,jD 13,jC 12]) (k10 _) ?_
          (rintro e wu5_13 ⟨rfl,hbu5_13⟩)
          have hSu5_13:=below_next hSu5_12 hbu5_13
          replace ru5_11:=ru5_11.still hbu5_13
          refine ⟨_,rfl,hSu5_13,?_⟩
          clear hbu5_13
          (try simp only [pS])
          refine wpAnyH_ready (rs:=[16]) (by kernel_rfl) (by simp) ?_
          refine AllReadyH.cons (o:=qu5x16) rfl (fun K hK => ?_) (AllReadyH.nil)
          unfold qu5x16
          rw [if_pos (by rfl)]
          refine ref_store _ _ rfl gu5_11 (fun _=>0) f rfl rfl ru5_11 hSu5_13 Gu5_11 (fun wu5_14 r0 hSu5_14 => ?_)
          refine hK.out _ _ hSu5_14 (fun h => ?_)
          clear h hK K ru5_11
          have ru5_11:=r0
          clear r0
          (try dsimp only [Act.put])
          refine wpAnyH_done (by kernel_rfl) ?_ _
          refine NoPanic.normal ?_
          go_wp2
          go_meet
          case rel=>exact ⟨gu5_11,rfl,below_next hdrew hSu5_14,Nat.le_trans hdrew.size Gu5_11,ru5_11⟩
      · unfold qu5x15
        go_simp
        obtain ⟨wu5_15,gu5_15,hwu5_15,hgu5_15,hbu5_15,ru5_15⟩:=freshR wu5_2
        rw [hwu5_15,hgu5_15]
        have hSu5_15:=below_next hSu5_2 hbu5_15
        have Gu5_15:Vu5_.heap.size≤gu5_15:=by have:=hSu5_2.size;omega
        refine hK.out _ _ hSu5_15 (fun h => ?_)
        clear h hK K hbu5_15 hwu5_15 hgu5_15
        (try simp only [pS])
        refine callH 10 (oN 47 (cF1 71 #[oT 41,oT 46] #[66,66]) 66 "ref.go:37" #[jD 4,jD 9,jC 9]) (k8 _) ?_
        (rintro e wu5_16 ⟨rfl,hbu5_16⟩)
        have hSu5_16:=below_next hSu5_15 hbu5_16
        replace ru5_15:=ru5_15.still hbu5_16
        refine ⟨_,rfl,hSu5_16,?_⟩
        clear hbu5_16
        (try simp only [pS])
        refine callH 12 (oN 49 (cF1 73 #[oT 47,oT 48] #[66,66]) 66 "ref.go:37" #[jD 10,jD 11,jC 10]) (k9 _) ?_
        (rintro e wu5_17 ⟨rfl,hbu5_17⟩)
        have hSu5_17:=below_next hSu5_16 hbu5_17
        replace ru5_15:=ru5_15.still hbu5_17
        refine ⟨_,rfl,hSu5_17,?_⟩
        clear hbu5_17
        (try simp only [pS])
        refine callH 14 (oN 51 (cF1 73 #[oT 49,oT 50] #[66,66]) 66 "ref.go:37" #[jD 12,jD 13,jC 12]) (k10 _) ?_
        (rintro e wu5_18 ⟨rfl,hbu5_18⟩)
        have hSu5_18:=below_next hSu5_17 hbu5_18
        replace ru5_15:=ru5_15.still hbu5_18
        refine ⟨_,rfl,hSu5_18,?_⟩
        clear hbu5_18
        (try simp only [pS])
        refine wpAnyH_ready (rs:=[16]) (by kernel_rfl) (by simp) ?_
        refine AllReadyH.cons (o:=qu5x16) rfl (fun K hK => ?_) (AllReadyH.nil)
        unfold qu5x16
        rw [if_pos (by rfl)]
        refine ref_store _ _ rfl gu5_15 (fun _=>0) f rfl rfl ru5_15 hSu5_18 Gu5_15 (fun wu5_19 r0 hSu5_19 => ?_)
        refine hK.out _ _ hSu5_19 (fun h => ?_)
        clear h hK K ru5_15
        have ru5_15:=r0
        clear r0
        (try dsimp only [Act.put])
        refine wpAnyH_done (by kernel_rfl) ?_ _
        refine NoPanic.normal ?_
        go_wp2
        go_meet
        case rel=>exact ⟨gu5_15,rfl,below_next hdrew hSu5_19,Nat.le_trans hdrew.size Gu5_15,ru5_15⟩
    · unfold qu5x15
      go_simp
      obtain ⟨wu5_20,gu5_20,hwu5_20,hgu5_20,hbu5_20,ru5_20⟩:=freshR wu5_1
      rw [hwu5_20,hgu5_20]
      have hSu5_20:=below_next hSu5_1 hbu5_20
      have Gu5_20:Vu5_.heap.size≤gu5_20:=by have:=hSu5_1.size;omega
      refine hK.out _ _ hSu5_20 (fun h => ?_)
      clear h hK K hbu5_20 hwu5_20 hgu5_20
      (try simp only [pS])
      refine callH 9 (oN 46 (cF1 74 #[oT 43,oT 45] #[66,66]) 66 "ref.go:37" #[jD 6,jD 8,jC 4]) (k7 _) ?_
      (rintro e wu5_21 ⟨rfl,hbu5_21⟩)
      have hSu5_21:=below_next hSu5_20 hbu5_21
      replace ru5_20:=ru5_20.still hbu5_21
      refine ⟨_,rfl,hSu5_21,?_⟩
      clear hbu5_21
      (try simp only [pS])
      refine callH 10 (oN 47 (cF1 71 #[oT 41,oT 46] #[66,66]) 66 "ref.go:37" #[jD 4,jD 9,jC 9]) (k8 _) ?_
      (rintro e wu5_22 ⟨rfl,hbu5_22⟩)
      have hSu5_22:=below_next hSu5_21 hbu5_22
      replace ru5_20:=ru5_20.still hbu5_22
      refine ⟨_,rfl,hSu5_22,?_⟩
      clear hbu5_22
      (try simp only [pS])
      refine callH 12 (oN 49 (cF1 73 #[oT 47,oT 48] #[66,66]) 66 "ref.go:37" #[jD 10,jD 11,jC 10]) (k9 _) ?_
      (rintro e wu5_23 ⟨rfl,hbu5_23⟩)
      have hSu5_23:=below_next hSu5_22 hbu5_23
      replace ru5_20:=ru5_20.still hbu5_23
      refine ⟨_,rfl,hSu5_23,?_⟩
      clear hbu5_23
      (try simp only [pS])
      refine callH 14 (oN 51 (cF1 73 #[oT 49,oT 50] #[66,66]) 66 "ref.go:37" #[jD 12,jD 13,jC 12]) (k10 _) ?_
      (rintro e wu5_24 ⟨rfl,hbu5_24⟩)
      have hSu5_24:=below_next hSu5_23 hbu5_24
      replace ru5_20:=ru5_20.still hbu5_24
      refine ⟨_,rfl,hSu5_24,?_⟩
      clear hbu5_24
      (try simp only [pS])
      refine wpAnyH_ready (rs:=[16]) (by kernel_rfl) (by simp) ?_
      refine AllReadyH.cons (o:=qu5x16) rfl (fun K hK => ?_) (AllReadyH.nil)
      unfold qu5x16
      rw [if_pos (by rfl)]
      refine ref_store _ _ rfl gu5_20 (fun _=>0) f rfl rfl ru5_20 hSu5_24 Gu5_20 (fun wu5_25 r0 hSu5_25 => ?_)
      refine hK.out _ _ hSu5_25 (fun h => ?_)
      clear h hK K ru5_20
      have ru5_20:=r0
      clear r0
      (try dsimp only [Act.put])
      refine wpAnyH_done (by kernel_rfl) ?_ _
      refine NoPanic.normal ?_
      go_wp2
      go_meet
      case rel=>exact ⟨gu5_20,rfl,below_next hdrew hSu5_25,Nat.le_trans hdrew.size Gu5_20,ru5_20⟩
  · unfold qu5x15
    go_simp
    obtain ⟨wu5_26,gu5_26,hwu5_26,hgu5_26,hbu5_26,ru5_26⟩:=freshR Vu5_
    rw [hwu5_26,hgu5_26]
    have hSu5_26:=below_next hS hbu5_26
    have Gu5_26:Vu5_.heap.size≤gu5_26:=by have:=hS.size;omega
    refine hK.out _ _ hSu5_26 (fun h => ?_)
    clear h hK K hbu5_26 hwu5_26 hgu5_26
    (try simp only [pS])
    refine callH 4 (oN 41 (cF1 74 #[oT 38,oT 40] #[66,66]) 66 "ref.go:37" #[jD 1,jD 3]) (k6 _) ?_
    (rintro e wu5_27 ⟨rfl,hbu5_27⟩)
    have hSu5_27:=below_next hSu5_26 hbu5_27
    replace ru5_26:=ru5_26.still hbu5_27
    refine ⟨_,rfl,hSu5_27,?_⟩
    clear hbu5_27
    (try simp only [pS])
    refine callH 9 (oN 46 (cF1 74 #[oT 43,oT 45] #[66,66]) 66 "ref.go:37" #[jD 6,jD 8,jC 4]) (k7 _) ?_
    (rintro e wu5_28 ⟨rfl,hbu5_28⟩)
    have hSu5_28:=below_next hSu5_27 hbu5_28
    replace ru5_26:=ru5_26.still hbu5_28
    refine ⟨_,rfl,hSu5_28,?_⟩
    clear hbu5_28
    (try simp only [pS])
    refine callH 10 (oN 47 (cF1 71 #[oT 41,oT 46] #[66,66]) 66 "ref.go:37" #[jD 4,jD 9,jC 9]) (k8 _) ?_
    (rintro e wu5_29 ⟨rfl,hbu5_29⟩)
    have hSu5_29:=below_next hSu5_28 hbu5_29
    replace ru5_26:=ru5_26.still hbu5_29
    refine ⟨_,rfl,hSu5_29,?_⟩
    clear hbu5_29
    (try simp only [pS])
    refine callH 12 (oN 49 (cF1 73 #[oT 47,oT 48] #[66,66]) 66 "ref.go:37" #[jD 10,jD 11,jC 10]) (k9 _) ?_
    (rintro e wu5_30 ⟨rfl,hbu5_30⟩)
    have hSu5_30:=below_next hSu5_29 hbu5_30
    replace ru5_26:=ru5_26.still hbu5_30
    refine ⟨_,rfl,hSu5_30,?_⟩
    clear hbu5_30
    (try simp only [pS])
    refine callH 14 (oN 51 (cF1 73 #[oT 49,oT 50] #[66,66]) 66 "ref.go:37" #[jD 12,jD 13,jC 12]) (k10 _) ?_
    (rintro e wu5_31 ⟨rfl,hbu5_31⟩)
    have hSu5_31:=below_next hSu5_30 hbu5_31
    replace ru5_26:=ru5_26.still hbu5_31
    refine ⟨_,rfl,hSu5_31,?_⟩
    clear hbu5_31
    (try simp only [pS])
    refine wpAnyH_ready (rs:=[16]) (by kernel_rfl) (by simp) ?_
    refine AllReadyH.cons (o:=qu5x16) rfl (fun K hK => ?_) (AllReadyH.nil)
    unfold qu5x16
    rw [if_pos (by rfl)]
    refine ref_store _ _ rfl gu5_26 (fun _=>0) f rfl rfl ru5_26 hSu5_31 Gu5_26 (fun wu5_32 r0 hSu5_32 => ?_)
    refine hK.out _ _ hSu5_32 (fun h => ?_)
    clear h hK K ru5_26
    have ru5_26:=r0
    clear r0
    (try dsimp only [Act.put])
    refine wpAnyH_done (by kernel_rfl) ?_ _
    refine NoPanic.normal ?_
    go_wp2
    go_meet
    case rel=>exact ⟨gu5_26,rfl,below_next hdrew hSu5_32,Nat.le_trans hdrew.size Gu5_26,ru5_26⟩
 case rest =>
 obtain ⟨g111,rfl,hb111,G111,h111⟩:=hcut
 have lt6:=h6.lt
 replace hpX:=hpX.still hb111
 replace hpY:=hpY.still hb111
 replace hpZ:=hpZ.still hb111
 replace hpT:=hpT.still hb111
 replace hqX:=hqX.still hb111
 replace hqY:=hqY.still hb111
 replace hqZ:=hqZ.still hb111
 replace hqT:=hqT.still hb111
 replace hd:=hd.still hb111
 replace h6:=h6.still hb111
 replace h107:=h107.still hb111
 replace h108:=h108.still hb111
 replace h109:=h109.still hb111
 replace h110:=h110.still hb111
 obtain ⟨U5,hU5⟩:∃ W,W=wc:=⟨_,rfl⟩
 rw [←hU5]
 rw [←hU5] at hpX hpY hpZ hpT hqX hqY hqZ hqT hd h6 h107 h108 h109 h110 h111 hb111
 replace hbW:Below w.heap.size w U5:=below_next hbW hb111
 clear hU5 hb111
 have m6_11:g111≠g6:=by omega
 clear G111 lt6
 go_upto_region 6 with (fail)
 go_cut [12] from 15 (fun s12 wc=>∃ g112,s12 = .pointer (some ⟨g112,0,none⟩)∧Below U5.heap.size U5 wc∧U5.heap.size≤g112∧RW wc g112 0 (i16 g))
 case first =>
  clear k1 k2 k3 k4 k5 k6 k7 k8 k9 k10 k12 k13 k14 k15 k16 k17
  have r1:=h110.range
  have r2:=h109.range
  have kk:∀ W,Calls Tryz.prog 73 #[.agg (i16 e0).toArray,.agg (i16 c).toArray] W fun e w'=>e = .returned (.agg (i16 g).toArray)∧Below W.heap.size W w':=k11
  clear k11 hpX hpY hpZ hpT hqX hqY hqZ hqT hd h6 h107 h108 h109 h110 h111 hzq
  go_wp2_with (first
   | (refine wpList_load_mid rfl 66 _ rfl g110 0 rfl (i16 e0) _ r1 Tryz.underlying66 rfl (infoI e0) ?_)
   | (refine wpList_load_mid rfl 66 _ rfl g109 0 rfl (i16 c) _ r2 Tryz.underlying66 rfl (infoI c) ?_)
   | (go_at_call 73;refine (kk _).mono ?_;clear kk r1 r2;rintro e w9 ⟨rfl,hb9⟩;(have th:=freshR' w9);(have th':=freshRt w9 g))
   | (with_reducible (refine id (?_:wpList _ _ _ _ _ _));refine wpList_store_mid rfl 66 _ _ rfl w9.heap.size 0 (i16 g).toArray rfl rfl th' (infoIA g) (oneI g) ?_))
  go_meet
  case rel=>exact ⟨w9.heap.size,rfl,below_setCells hb9.size _ _ _ (hb9.alloc hb9.size _),hb9.size,th.stored (i16 g) (by rw [i16_len,i16_len])⟩
 case rest =>
 obtain ⟨g112,rfl,hb112,G112,h112⟩:=hcut
 have lt6:=h6.lt
 replace hpX:=hpX.still hb112
 replace hpY:=hpY.still hb112
 replace hpZ:=hpZ.still hb112
 replace hpT:=hpT.still hb112
 replace hqX:=hqX.still hb112
 replace hqY:=hqY.still hb112
 replace hqZ:=hqZ.still hb112
 replace hqT:=hqT.still hb112
 replace hd:=hd.still hb112
 replace h6:=h6.still hb112
 replace h107:=h107.still hb112
 replace h108:=h108.still hb112
 replace h109:=h109.still hb112
 replace h110:=h110.still hb112
 replace h111:=h111.still hb112
 obtain ⟨U6,hU6⟩:∃ W,W=wc:=⟨_,rfl⟩
 rw [←hU6]
 rw [←hU6] at hpX hpY hpZ hpT hqX hqY hqZ hqT hd h6 h107 h108 h109 h110 h111 h112 hb112
 replace hbW:Below w.heap.size w U6:=below_next hbW hb112
 clear hU6 hb112
 have m6_12:g112≠g6:=by omega
 clear G112 lt6
 go_upto_region 7 with (fail)
 go_cut [13] from 15 (fun s13 wc=>∃ g113,s13 = .pointer (some ⟨g113,0,none⟩)∧Below U6.heap.size U6 wc∧U6.heap.size≤g113∧RW wc g113 0 (i16 h))
 case first =>
  clear k1 k2 k3 k4 k5 k6 k7 k8 k9 k10 k11 k13 k14 k15 k16 k17
  have r1:=h110.range
  have r2:=h109.range
  have kk:∀ W,Calls Tryz.prog 74 #[.agg (i16 e0).toArray,.agg (i16 c).toArray] W fun e w'=>e = .returned (.agg (i16 h).toArray)∧Below W.heap.size W w':=k12
  clear k12 hpX hpY hpZ hpT hqX hqY hqZ hqT hd h6 h107 h108 h109 h110 h111 h112 hzq
  go_wp2_with (first
   | (refine wpList_load_mid rfl 66 _ rfl g110 0 rfl (i16 e0) _ r1 Tryz.underlying66 rfl (infoI e0) ?_)
   | (refine wpList_load_mid rfl 66 _ rfl g109 0 rfl (i16 c) _ r2 Tryz.underlying66 rfl (infoI c) ?_)
   | (go_at_call 74;refine (kk _).mono ?_;clear kk r1 r2;rintro e w9 ⟨rfl,hb9⟩;(have th:=freshR' w9);(have th':=freshRt w9 h))
   | (with_reducible (refine id (?_:wpList _ _ _ _ _ _));refine wpList_store_mid rfl 66 _ _ rfl w9.heap.size 0 (i16 h).toArray rfl rfl th' (infoIA h) (oneI h) ?_))
  go_meet
  case rel=>exact ⟨w9.heap.size,rfl,below_setCells hb9.size _ _ _ (hb9.alloc hb9.size _),hb9.size,th.stored (i16 h) (by rw [i16_len,i16_len])⟩
 case rest =>
 obtain ⟨g113,rfl,hb113,G113,h113⟩:=hcut
 have lt6:=h6.lt
 replace hpX:=hpX.still hb113
 replace hpY:=hpY.still hb113
 replace hpZ:=hpZ.still hb113
 replace hpT:=hpT.still hb113
 replace hqX:=hqX.still hb113
 replace hqY:=hqY.still hb113
 replace hqZ:=hqZ.still hb113
 replace hqT:=hqT.still hb113
 replace hd:=hd.still hb113
 replace h6:=h6.still hb113
 replace h107:=h107.still hb113
 replace h108:=h108.still hb113
 replace h109:=h109.still hb113
 replace h110:=h110.still hb113
 replace h111:=h111.still hb113
 replace h112:=h112.still hb113
 obtain ⟨U7,hU7⟩:∃ W,W=wc:=⟨_,rfl⟩
 rw [←hU7]
 rw [←hU7] at hpX hpY hpZ hpT hqX hqY hqZ hqT hd h6 h107 h108 h109 h110 h111 h112 h113 hb113
 replace hbW:Below w.heap.size w U7:=below_next hbW hb113
 clear hU7 hb113
 have m6_13:g113≠g6:=by omega
 clear G113 lt6
 go_upto_region 8 with (fail)
 go_cut [14] from 15 (fun s14 wc=>∃ g114,s14 = .pointer (some ⟨g114,0,none⟩)∧Below U7.heap.size U7 wc∧U7.heap.size≤g114∧RW wc g114 0 (i16 s))
 case first =>
  clear k1 k2 k3 k4 k5 k6 k7 k8 k9 k10 k11 k12 k14 k15 k16 k17
  have r1:=h108.range
  have r2:=h107.range
  have kk:∀ W,Calls Tryz.prog 74 #[.agg (i16 b).toArray,.agg (i16 a).toArray] W fun e w'=>e = .returned (.agg (i16 s).toArray)∧Below W.heap.size W w':=k13
  clear k13 hpX hpY hpZ hpT hqX hqY hqZ hqT hd h6 h107 h108 h109 h110 h111 h112 h113 hzq
  go_wp2_with (first
   | (refine wpList_load_mid rfl 66 _ rfl g108 0 rfl (i16 b) _ r1 Tryz.underlying66 rfl (infoI b) ?_)
   | (refine wpList_load_mid rfl 66 _ rfl g107 0 rfl (i16 a) _ r2 Tryz.underlying66 rfl (infoI a) ?_)
   | (go_at_call 74;refine (kk _).mono ?_;clear kk r1 r2;rintro e w9 ⟨rfl,hb9⟩;(have th:=freshR' w9);(have th':=freshRt w9 s))
   | (with_reducible (refine id (?_:wpList _ _ _ _ _ _));refine wpList_store_mid rfl 66 _ _ rfl w9.heap.size 0 (i16 s).toArray rfl rfl th' (infoIA s) (oneI s) ?_))
  go_meet
  case rel=>exact ⟨w9.heap.size,rfl,below_setCells hb9.size _ _ _ (hb9.alloc hb9.size _),hb9.size,th.stored (i16 s) (by rw [i16_len,i16_len])⟩
 case rest =>
 obtain ⟨g114,rfl,hb114,G114,h114⟩:=hcut
 have lt6:=h6.lt
 replace hpX:=hpX.still hb114
 replace hpY:=hpY.still hb114
 replace hpZ:=hpZ.still hb114
 replace hpT:=hpT.still hb114
 replace hqX:=hqX.still hb114
 replace hqY:=hqY.still hb114
 replace hqZ:=hqZ.still hb114
 replace hqT:=hqT.still hb114
 replace hd:=hd.still hb114
 replace h6:=h6.still hb114
 replace h107:=h107.still hb114
 replace h108:=h108.still hb114
 replace h109:=h109.still hb114
 replace h110:=h110.still hb114
 replace h111:=h111.still hb114
 replace h112:=h112.still hb114
 replace h113:=h113.still hb114
 obtain ⟨U8,hU8⟩:∃ W,W=wc:=⟨_,rfl⟩
 rw [←hU8]
 rw [←hU8] at hpX hpY hpZ hpT hqX hqY hqZ hqT hd h6 h107 h108 h109 h110 h111 h112 h113 h114 hb114
 replace hbW:Below w.heap.size w U8:=below_next hbW hb114
 clear hU8 hb114
 have m6_14:g114≠g6:=by omega
 clear G114 lt6
 go_upto_region 9 with (fail)
 have l6:=h6.lt
 clear k1 k2 k3 k4 k5 k6 k7 k8 k9 k10 k11 k12 k13 hpX hpY hpZ hpT hqX hqY hqZ hqT hd h107 h108 h109 h110
 have hdrew:Below U8.heap.size U8 U8.drew:=(Below.refl _ _).drew
 replace h6:=h6.still hdrew
 replace h111:=h111.still hdrew
 replace h112:=h112.still hdrew
 replace h113:=h113.still hdrew
 replace h114:=h114.still hdrew
 refine wp_region_noPanic ?_
 replace l6:=Nat.lt_of_lt_of_le l6 hdrew.size
 refine wp_region_held_drew (S:=fun w'=>Out g6 0 64 U8.drew w') (by kernel_rfl) (Out.refl _ _ _ _) (fun hS => ?_)
 generalize U8.drew=Vu9_ at *
 refine tkH 0 (oN 61 (Op.load 66 (oT 11)) 66 "ref.go:41" #[]) (rV f) hS (ldO h111 m6_11 66 11 Tryz.underlying66 (infoI _)) ?_
 (try simp only [pS])
 refine tkH 1 (oN 62 (Op.load 66 (oT 12)) 66 "ref.go:41" #[]) (rV g) hS (ldO h112 m6_12 66 12 Tryz.underlying66 (infoI _)) ?_
 (try simp only [pS])
 refine tkH 3 (oN 64 (Op.load 66 (oT 13)) 66 "ref.go:41" #[]) (rV h) hS (ldO h113 m6_13 66 13 Tryz.underlying66 (infoI _)) ?_
 (try simp only [pS])
 refine tkH 4 (oN 65 (Op.load 66 (oT 14)) 66 "ref.go:41" #[]) (rV s) hS (ldO h114 m6_14 66 14 Tryz.underlying66 (infoI _)) ?_
 (try simp only [pS])
 refine tkH 6 (oN 67 (Op.load 66 (oT 12)) 66 "ref.go:41" #[]) (rV g) hS (ldO h112 m6_12 66 12 Tryz.underlying66 (infoI _)) ?_
 (try simp only [pS])
 refine tkH 7 (oN 68 (Op.load 66 (oT 13)) 66 "ref.go:41" #[]) (rV h) hS (ldO h113 m6_13 66 13 Tryz.underlying66 (infoI _)) ?_
 (try simp only [pS])
 refine tkH 9 (oN 70 (Op.load 66 (oT 11)) 66 "ref.go:41" #[]) (rV f) hS (ldO h111 m6_11 66 11 Tryz.underlying66 (infoI _)) ?_
 (try simp only [pS])
 refine tkH 10 (oN 71 (Op.load 66 (oT 14)) 66 "ref.go:41" #[]) (rV s) hS (ldO h114 m6_14 66 14 Tryz.underlying66 (infoI _)) ?_
 (try simp only [pS])
 refine callH 2 (oN 63 (cF1 71 #[oT 61,oT 62] #[66,66]) 66 "ref.go:41" #[jD 0,jD 1]) (k14 _) ?_
 (rintro e wu9_1 ⟨rfl,hbu9_1⟩)
 have hSu9_1:=hS.trans (Out.of_below hbu9_1 l6)
 replace l6:=Nat.lt_of_lt_of_le l6 hbu9_1.size
 replace h6:=h6.still hbu9_1
 refine ⟨_,rfl,hSu9_1,?_⟩
 clear hbu9_1
 (try simp only [pS])
 refine callH 5 (oN 66 (cF1 71 #[oT 64,oT 65] #[66,66]) 66 "ref.go:41" #[jD 3,jD 4,jC 2]) (k15 _) ?_
 (rintro e wu9_2 ⟨rfl,hbu9_2⟩)
 have hSu9_2:=hSu9_1.trans (Out.of_below hbu9_2 l6)
 replace l6:=Nat.lt_of_lt_of_le l6 hbu9_2.size
 replace h6:=h6.still hbu9_2
 refine ⟨_,rfl,hSu9_2,?_⟩
 clear hbu9_2
 (try simp only [pS])
 refine callH 8 (oN 69 (cF1 71 #[oT 67,oT 68] #[66,66]) 66 "ref.go:41" #[jD 6,jD 7,jC 5]) (k16 _) ?_
 (rintro e wu9_3 ⟨rfl,hbu9_3⟩)
 have hSu9_3:=hSu9_2.trans (Out.of_below hbu9_3 l6)
 replace l6:=Nat.lt_of_lt_of_le l6 hbu9_3.size
 replace h6:=h6.still hbu9_3
 refine ⟨_,rfl,hSu9_3,?_⟩
 clear hbu9_3
 (try simp only [pS])
 refine callH 11 (oN 72 (cF1 71 #[oT 70,oT 71] #[66,66]) 66 "ref.go:41" #[jD 9,jD 10,jC 8]) (k17 _) ?_
 (rintro e wu9_4 ⟨rfl,hbu9_4⟩)
 have hSu9_4:=hSu9_3.trans (Out.of_below hbu9_4 l6)
 replace l6:=Nat.lt_of_lt_of_le l6 hbu9_4.size
 replace h6:=h6.still hbu9_4
 refine ⟨_,rfl,hSu9_4,?_⟩
 clear hbu9_4
 (try simp only [pS])
 refine tkH 12 (oN 73 (Op.build 68 #[(0,oT 63),(1,oT 66),(2,oT 69),(3,oT 72)]) 68 "ref.go:41" #[jD 2,jD 5,jD 8,jD 11]) (qV o1 o2 o3 o4) hSu9_4 (yields_build4 (by rfl) 68 _ _ _ _ rfl (rV o1) (rV o2) (rV o3) (rV o4) rfl rfl rfl rfl _ (builtQ _ _ _ _)) ?_
 (try simp only [pS])
 refine wpAnyH_ready (rs:=[13]) (by kernel_rfl) (by simp) ?_
 refine AllReadyH.cons (o:=qu9x13) rfl (fun K hK => ?_) (AllReadyH.nil)
 unfold qu9x13
 rw [if_pos (by rfl)]
 refine wp_store_mid 68 _ _ rfl g6 0 (q64 o1 o2 o3 o4).toArray rfl rfl (there64 h6) (infoQA _ _ _ _) (oneQ _ _ _ _) ?_
 have hSu9_5:=hSu9_4.trans (Out.setCells (b:=g6) (o:=0) (n:=64) wu9_4 (q64 o1 o2 o3 o4) (Nat.le_refl _) (by rw [q64_len];exact Nat.le_refl _))
 replace h6:=h6.stored (q64 o1 o2 o3 o4) (q64_same _ _ _ _ _ _ _ _)
 obtain ⟨wu9_5,hwu9_5⟩:∃ W,wu9_4.setCells g6 0 (q64 o1 o2 o3 o4)=W:=⟨_,rfl⟩
 rw [hwu9_5] at h6
 rw [hwu9_5] at hSu9_5
 rw [show wu9_4.setCells g6 0 (q64 o1 o2 o3 o4).toArray.toList=wu9_5 from hwu9_5]
 refine hK.out _ _ hSu9_5 (fun h => ?_)
 clear h hK K hwu9_5
 (try dsimp only [Act.put])
 refine wpAnyH_done (by kernel_rfl) ?_ _
 refine NoPanic.normal ?_
 clear k14 k15 k16 k17
 have fin:=(hbW.trans (hdrew.mono hbW.size)).trans (hSu9_5.below w6 (Nat.le_trans hbW.size hdrew.size))
 go_wp2
 exact bodyPost_ret (results_cell_mid Tryz.results34 _ _ g6 0 (q64 o1 o2 o3 o4) _ rfl h6.range Tryz.underlying68 rfl (infoQ _ _ _ _)) rfl ⟨rfl,fin⟩
end Go.Proofs.YtdgkmloabificaaGreatDoor
namespace Go.Proofs.YtdgkmloabificaaGreatDoor
open Go.RowKit
theorem rtimes_w {L M:Nat→Int} {x y:Nat} (hL:Rw L x) (hM:Rw M y) (w:World):Calls Tryz.prog 71 #[rV L,rV M] w fun e w'=>e = .returned (rV (timesL L M))∧Below w.heap.size w w':=rtimes_any L M hL.bd hM.bd w
theorem rplus_w {L M:Nat→Int} {x y:Nat} (hL:Rw L x) (hM:Rw M y) (w:World):Calls Tryz.prog 74 #[rV L,rV M] w fun e w'=>e = .returned (rV (plusL L M))∧Below w.heap.size w w':=rplus_any L M hL.far hM.far w
theorem rminus_w {L M:Nat→Int} {x y:Nat} (hL:Rw L x) (hM:Rw M y) (w:World):Calls Tryz.prog 73 #[rV L,rV M] w fun e w'=>e = .returned (rV (minusL L M))∧Below w.heap.size w w':=rminus_any L M hL.far hM.far w
theorem rw_t {L M:Nat→Int} {x y:Nat} (hL:Rw L x) (hM:Rw M y):Rw (timesL L M) (fmul x y):=(rw_times hL hM).wide
theorem rplus6_any {r s:P4} {p q:N4} (hr:r.Rep p) (hs:s.Rep q) {D:Nat→Int} {d:Nat} (hD:Rw D d) (w:World) :
 Calls Tryz.prog 34 #[r.V,s.V,rV D] w fun e w'=>∃ t:P4,e = .returned t.V∧t.Rep (addN d p q)∧Below w.heap.size w w':=by
 have a:=rw_t hr.X hs.X
 have b:=rw_t hr.Y hs.Y
 have c0:=rw_t hr.T hs.T
 have c:=rw_t c0 hD
 have e0:=rw_t hr.Z hs.Z
 have f1:=rww_plus hr.X hr.Y
 have f2:=rww_plus hs.X hs.Y
 have f3:=rw_t f1 f2
 have f4:=rww_minus f3 a (fmul_lt _ _)
 have f:=rww_minus f4 b (fmul_lt _ _)
 have g:=rww_minus e0 c (fmul_lt _ _)
 have h:=rww_plus e0 c
 have s':=rww_plus b a
 have k:=rplus6_raw r.X r.Y r.Z r.T s.X s.Y s.Z s.T D _ _ _ _ _ _ _ _ _ _ _ _ _ _ _ _ _
  (fun W=>rtimes_w hr.X hs.X W) (fun W=>rtimes_w hr.Y hs.Y W) (fun W=>rtimes_w hr.T hs.T W) (fun W=>rtimes_w c0 hD W) (fun W=>rtimes_w hr.Z hs.Z W)
  (fun W=>rplus_w hr.X hr.Y W) (fun W=>rplus_w hs.X hs.Y W) (fun W=>rtimes_w f1 f2 W) (fun W=>rminus_w f3 a W) (fun W=>rminus_w f4 b W)
  (fun W=>rminus_w e0 c W) (fun W=>rplus_w e0 c W) (fun W=>rplus_w b a W)
  (fun W=>rtimes_w f g W) (fun W=>rtimes_w h s' W) (fun W=>rtimes_w g h W) (fun W=>rtimes_w f s' W) w
 exact k.mono fun e w' ⟨he,hb⟩=>⟨⟨_,_,_,_⟩,he,⟨rw_t f g,rw_t h s',rw_t g h,rw_t f s'⟩,hb⟩
theorem quot_of' {x z k:Nat} (hk:k<pF) (hz0:z≠0) (hz:z<pF) (h:k*z%pF=x):fmul x (finv z)=k:=by
 unfold fmul finv
 rw [←h,mulm,Nat.mul_assoc,Nat.mul_mod,inv_mul hz0 hz,Nat.mul_one,Nat.mod_mod,Nat.mod_eq_of_lt hk]
theorem dN_quot:fmul (fsub 0 121665) (finv 121666)=dN:=quot_of' dN_lt (by decide) (by decide) (by decide)
set_option maxRecDepth 20000 in
set_option maxHeartbeats 2000000 in
theorem rD_any (w:World):Calls Tryz.prog 35 #[] w fun e w'=>∃ R,e = .returned (rV R)∧Rw R dN∧Below w.heap.size w w':=by
 have hz:=zeroR
 have hs:∀ (n:Nat) (h:n≤9223372036854775807) W,Calls Tryz.prog 70 #[.int .i64 n] W fun e w'=>∃ R,e = .returned (.agg (i16 R).toArray)∧Rw R n∧Below W.heap.size W w':=fun n h W=>(rsmall_any n (by omega) (by omega) W).mono fun e w' ⟨he,hb⟩=>⟨_,he,(rep_int n (by omega) (by omega) n (nat_mod n)).wide,hb⟩
 have c0:∀ W,Calls Tryz.prog 70 #[.int .i64 0] W fun e w'=>∃ R,e = .returned (.agg (i16 R).toArray)∧Rw R 0∧Below W.heap.size W w':=hs 0 (by decide)
 have c1:∀ W,Calls Tryz.prog 70 #[.int .i64 121665] W fun e w'=>∃ R,e = .returned (.agg (i16 R).toArray)∧Rw R 121665∧Below W.heap.size W w':=hs 121665 (by decide)
 have c2:∀ W,Calls Tryz.prog 70 #[.int .i64 121666] W fun e w'=>∃ R,e = .returned (.agg (i16 R).toArray)∧Rw R 121666∧Below W.heap.size W w':=hs 121666 (by decide)
 have cm:∀ A B,Rw A 0→Rw B 121665→∀ W,Calls Tryz.prog 73 #[.agg (i16 A).toArray,.agg (i16 B).toArray] W fun e w'=>∃ R,e = .returned (.agg (i16 R).toArray)∧Rw R (fsub 0 121665)∧Below W.heap.size W w':=fun A B hA hB W=>(rminus_w hA hB W).mono fun e w' ⟨he,hb⟩=>⟨_,he,rww_minus hA hB (by decide),hb⟩
 have ci:∀ A,Rw A 121666→∀ W,Calls Tryz.prog 77 #[.agg (i16 A).toArray] W fun e w'=>∃ R,e = .returned (.agg (i16 R).toArray)∧Rw R (finv 121666)∧Below W.heap.size W w':=fun A hA W=>rinverse_wide A _ hA W
 have ct:∀ A B,Rw A (fsub 0 121665)→Rw B (finv 121666)→∀ W,Calls Tryz.prog 71 #[.agg (i16 A).toArray,.agg (i16 B).toArray] W fun e w'=>∃ R,e = .returned (.agg (i16 R).toArray)∧Rw R dN∧Below W.heap.size W w':=fun A B hA hB W=>(rtimes_w hA hB W).mono fun e w' ⟨he,hb⟩=>⟨_,he,by rw [←dN_quot];exact rw_t hA hB,hb⟩
 generalize finv 121666=fi6 at *
 generalize fsub 0 121665=fs5 at *
 generalize dN=dd at *
 clear hs
 obtain ⟨W,g,eW,hg,b,h0⟩:=freshR w
 have HW:Hid (w.alloc (.cells zI 66)=W):=Hid.mk' eW
 have Hg:Hid (w.heap.size=g):=Hid.mk' hg
 have wg:w.heap.size≤g:=Nat.le_of_eq hg
 clear eW hg
 go_enter Tryz.func35,Tryz.ntmps35
 go_wp2_with (first
  | (go_at_call 70;rw [HW.out,Hg.out];refine (c0 _).mono ?_;clear c0 HW Hg;rintro e w1 ⟨R1,rfl,hR1,hb1⟩;(replace h0:=h0.still hb1);(replace b:=below_next b hb1);clear hb1)
  | (go_at_call 70;refine (c1 _).mono ?_;clear c1;rintro e w2 ⟨R2,rfl,hR2,hb2⟩;(replace h0:=h0.still hb2);(replace b:=below_next b hb2);clear hb2)
  | (go_at_call 73;refine (cm R1 R2 hR1 hR2 _).mono ?_;clear cm;rintro e w3 ⟨R3,rfl,hR3,hb3⟩;(replace h0:=h0.still hb3);(replace b:=below_next b hb3);clear hb3)
  | (go_at_call 70;refine (c2 _).mono ?_;clear c2;rintro e w4 ⟨R4,rfl,hR4,hb4⟩;(replace h0:=h0.still hb4);(replace b:=below_next b hb4);clear hb4)
  | (go_at_call 77;refine (ci R4 hR4 _).mono ?_;clear ci;rintro e w5 ⟨R5,rfl,hR5,hb5⟩;(replace h0:=h0.still hb5);(replace b:=below_next b hb5);clear hb5)
  | (go_at_call 71;refine (ct R3 R5 hR3 hR5 _).mono ?_;clear ct;rintro e w6 ⟨R6,rfl,hR6,hb6⟩;(replace h0:=h0.still hb6);(replace b:=below_next b hb6);clear hb6;(have t6:w6.there g 0 (i16 R6).toArray.size:=there16 h0))
  | (with_reducible (refine id (?_:wpList _ _ _ _ _ _));refine wpList_store_mid rfl 66 _ _ rfl g 0 (i16 R6).toArray rfl rfl t6 (infoIA R6) (oneI R6) ?_))
 (try simp only [Exit.inBlock,Exit.then])
 exact bodyPost_ret (results_cell_mid Tryz.results35 _ _ g 0 (i16 R6) _ rfl (h0.stored (i16 R6) (by rw [i16_len,i16_len])).range Tryz.underlying66 rfl (infoI R6)) rfl ⟨R6,rfl,hR6,below_setCells wg _ _ _ b⟩
end Go.Proofs.YtdgkmloabificaaGreatDoor
namespace Go.Proofs.YtdgkmloabificaaGreatDoor
open Go.RowKit
theorem small_w (n:Nat) (h:n≤9223372036854775807) (W:World):Calls Tryz.prog 70 #[.int .i64 n] W fun e w'=>∃ R,e = .returned (.agg (i16 R).toArray)∧Rw R n∧Below W.heap.size W w':=(rsmall_any n (by omega) (by omega) W).mono fun e w' ⟨he,hb⟩=>⟨_,he,(rep_int n (by omega) (by omega) n (nat_mod n)).wide,hb⟩
abbrev qv1x7:Oper:=oS (Op.store 68 (oT 4) (oT 11)) "ref.go:25" #[jD 6,jC 5,jP 0,jP 1,jP 2,jP 3,jP 4,jP 5,jP 6]
set_option maxRecDepth 20000 in
set_option maxHeartbeats 4000000 in
theorem rof_raw (X Y:Nat→Int) (ct:∀ W,Calls Tryz.prog 71 #[rV X,rV Y] W fun e w'=>e = .returned (rV (timesL X Y))∧Below W.heap.size W w') (w:World) :
 Calls Tryz.prog 76 #[rV X,rV Y] w fun e w'=>∃ R1,e = .returned (qV X Y R1 (timesL X Y))∧Rw R1 1∧Below w.heap.size w w':=by
 have hz:=zeroR
 have hzq:=zeroQ
 have c1:∀ W,Calls Tryz.prog 70 #[.int .i64 1] W fun e w'=>∃ R,e = .returned (rV R)∧Rw R 1∧Below W.heap.size W w':=small_w 1 (by decide)
 obtain ⟨V1,g2,e2,hg2,b2,hx⟩:∃ V g,w.alloc (.cells (i16 X).toArray 66)=V∧w.heap.size=g∧Below w.heap.size w V∧RW V g 0 (i16 X):=⟨_,_,rfl,rfl,(Below.refl _ _).alloc (Nat.le_refl _) _,RW.fresh w _ _⟩
 obtain ⟨V2,g3,e3,hg3,b3,hy⟩:∃ V g,V1.alloc (.cells (i16 Y).toArray 66)=V∧V1.heap.size=g∧Below V1.heap.size V1 V∧RW V g 0 (i16 Y):=⟨_,_,rfl,rfl,(Below.refl _ _).alloc (Nat.le_refl _) _,RW.fresh V1 _ _⟩
 obtain ⟨W,g4,e4,hg4,b4,h4⟩:=freshQ V2
 have t1:V1.heap.size=w.heap.size+1:=by rw [←e2];simp
 have t2:V2.heap.size=V1.heap.size+1:=by rw [←e3];simp
 have HW:Hid (W=((w.alloc (.cells (i16 X).toArray 66)).alloc (.cells (i16 Y).toArray 66)).alloc (.cells zQ 68)):=Hid.mk' (by rw [←e4,←e3,←e2])
 have q2:Hid (w.heap.size=g2):=Hid.mk' hg2
 have q3:Hid (w.heap.size+1=g3):=Hid.mk' (by omega)
 have q4:Hid (w.heap.size+1+1=g4):=Hid.mk' (by omega)
 replace hx:=(hx.still b3).still b4
 replace hy:=hy.still b4
 have hbW:Below w.heap.size w W:=(b2.trans (b3.mono (by omega))).trans (b4.mono (by omega))
 have w4:w.heap.size≤g4:=by omega
 have n24:g2≠g4:=by omega
 have n34:g3≠g4:=by omega
 have l4:=h4.lt
 clear e2 e3 e4 hg2 hg3 hg4 b2 b3 b4 t1 t2 V1 V2
 rw [show rV X = .agg (i16 X).toArray from rfl,show rV Y = .agg (i16 Y).toArray from rfl]
 go_enter Tryz.func76,Tryz.ntmps76
 go_upto_region 1 with (fail)
 rw [←HW.out,q4.out,q3.out,q2.out]
 clear HW q2 q3 q4
 have hdrew:Below W.heap.size W W.drew:=(Below.refl _ _).drew
 replace hx:=hx.still hdrew
 replace hy:=hy.still hdrew
 replace h4:=h4.still hdrew
 refine wp_region_noPanic ?_
 replace l4:=Nat.lt_of_lt_of_le l4 hdrew.size
 refine wp_region_held_drew (S:=fun w'=>Out g4 0 64 W.drew w') (by kernel_rfl) (Out.refl _ _ _ _) (fun hS => ?_)
 generalize W.drew=Vv1_ at *
 refine tkH 0 (oN 5 (Op.load 66 (oT 2)) 66 "ref.go:25" #[]) (rV X) hS (ldO hx n24 66 2 Tryz.underlying66 (infoI _)) ?_
 (try simp only [pS])
 refine tkH 1 (oN 6 (Op.load 66 (oT 3)) 66 "ref.go:25" #[]) (rV Y) hS (ldO hy n34 66 3 Tryz.underlying66 (infoI _)) ?_
 (try simp only [pS])
 refine tkH 3 (oN 8 (Op.load 66 (oT 2)) 66 "ref.go:25" #[]) (rV X) hS (ldO hx n24 66 2 Tryz.underlying66 (infoI _)) ?_
 (try simp only [pS])
 refine tkH 4 (oN 9 (Op.load 66 (oT 3)) 66 "ref.go:25" #[]) (rV Y) hS (ldO hy n34 66 3 Tryz.underlying66 (infoI _)) ?_
 (try simp only [pS])
 refine callH 2 (oN 7 (cF1 70 #[Operand.const (Value.int IntKind.i64 1)] #[3]) 66 "ref.go:25" #[]) (c1 _) ?_
 (clear c1;rintro e wv1_1 ⟨R1,rfl,hR1,hbv1_1⟩)
 have hSv1_1:=hS.trans (Out.of_below hbv1_1 l4)
 replace l4:=Nat.lt_of_lt_of_le l4 hbv1_1.size
 replace h4:=h4.still hbv1_1
 refine ⟨_,rfl,hSv1_1,?_⟩
 clear hbv1_1
 (try simp only [pS])
 refine callH 5 (oN 10 (cF1 71 #[oT 8,oT 9] #[66,66]) 66 "ref.go:25" #[jD 3,jD 4,jC 2]) (ct _) ?_
 (clear ct;rintro e wv1_2 ⟨rfl,hbv1_2⟩)
 have hSv1_2:=hSv1_1.trans (Out.of_below hbv1_2 l4)
 replace l4:=Nat.lt_of_lt_of_le l4 hbv1_2.size
 replace h4:=h4.still hbv1_2
 refine ⟨_,rfl,hSv1_2,?_⟩
 clear hbv1_2
 (try simp only [pS])
 refine tkH 6 (oN 11 (Op.build 68 #[(0,oT 5),(1,oT 6),(2,oT 7),(3,oT 10)]) 68 "ref.go:25" #[jD 0,jD 1,jD 2,jD 5]) (qV X Y R1 (timesL X Y)) hSv1_2 (yields_build4 (by rfl) 68 _ _ _ _ rfl (rV X) (rV Y) (rV R1) (rV (timesL X Y)) rfl rfl rfl rfl _ (builtQ _ _ _ _)) ?_
 (try simp only [pS])
 refine wpAnyH_ready (rs:=[7]) (by kernel_rfl) (by simp) ?_
 refine AllReadyH.cons (o:=qv1x7) rfl (fun K hK => ?_) (AllReadyH.nil)
 unfold qv1x7
 rw [if_pos (by rfl)]
 refine wp_store_mid 68 _ _ rfl g4 0 (q64 X Y R1 (timesL X Y)).toArray rfl rfl (there64 h4) (infoQA _ _ _ _) (oneQ _ _ _ _) ?_
 have hSv1_3:=hSv1_2.trans (Out.setCells (b:=g4) (o:=0) (n:=64) wv1_2 (q64 X Y R1 (timesL X Y)) (Nat.le_refl _) (by rw [q64_len];exact Nat.le_refl _))
 replace h4:=h4.stored (q64 X Y R1 (timesL X Y)) (q64_same _ _ _ _ _ _ _ _)
 obtain ⟨wv1_3,hwv1_3⟩:∃ W,wv1_2.setCells g4 0 (q64 X Y R1 (timesL X Y))=W:=⟨_,rfl⟩
 rw [hwv1_3] at h4
 rw [hwv1_3] at hSv1_3
 rw [show wv1_2.setCells g4 0 (q64 X Y R1 (timesL X Y)).toArray.toList=wv1_3 from hwv1_3]
 refine hK.out _ _ hSv1_3 (fun h => ?_)
 clear h hK K hwv1_3
 (try dsimp only [Act.put])
 refine wpAnyH_done (by kernel_rfl) ?_ _
 refine NoPanic.normal ?_
 have fin:=(hbW.trans (hdrew.mono hbW.size)).trans (hSv1_3.below w4 (Nat.le_trans hbW.size hdrew.size))
 go_wp2
 exact bodyPost_ret (results_cell_mid Tryz.results76 _ _ g4 0 (q64 X Y R1 (timesL X Y)) _ rfl h4.range Tryz.underlying68 rfl (infoQ _ _ _ _)) rfl ⟨R1,rfl,hR1,fin⟩
theorem rof_any {X Y:Nat→Int} {x y:Nat} (hX:Rw X x) (hY:Rw Y y) (w:World) :
 Calls Tryz.prog 76 #[rV X,rV Y] w fun e w'=>∃ t:P4,e = .returned t.V∧t.Rep (ofXY x y)∧Below w.heap.size w w' :=
 (rof_raw X Y (fun W=>rtimes_w hX hY W) w).mono fun _ _ ⟨R1,he,hR,hb⟩=>⟨⟨X,Y,R1,timesL X Y⟩,he,⟨hX,hY,hR,rw_t hX hY⟩,hb⟩
theorem zero_of_xy:ofXY 0 1=zeroN:=by kernel_rfl
set_option maxRecDepth 20000 in
set_option maxHeartbeats 4000000 in
theorem rzero_any (w:World):Calls Tryz.prog 67 #[] w fun e w'=>∃ t:P4,e = .returned t.V∧t.Rep zeroN∧Below w.heap.size w w':=by
 have hzq:=zeroQ
 have c0:∀ W,Calls Tryz.prog 70 #[.int .i64 0] W fun e w'=>∃ R,e = .returned (.agg (i16 R).toArray)∧Rw R 0∧Below W.heap.size W w':=small_w 0 (by decide)
 have c1:∀ W,Calls Tryz.prog 70 #[.int .i64 1] W fun e w'=>∃ R,e = .returned (.agg (i16 R).toArray)∧Rw R 1∧Below W.heap.size W w':=small_w 1 (by decide)
 have cf:∀ A B,Rw A 0→Rw B 1→∀ W,Calls Tryz.prog 76 #[.agg (i16 A).toArray,.agg (i16 B).toArray] W fun e w'=>∃ t:P4,e = .returned (.agg (q64 t.X t.Y t.Z t.T).toArray)∧t.Rep zeroN∧Below W.heap.size W w':=fun A B hA hB W=>by
  have h:=rof_any hA hB W
  rw [zero_of_xy] at h
  exact h
 generalize zeroN=zn at *
 obtain ⟨W,g,eW,hg,b,h0⟩:=freshQ w
 have HW:Hid (w.alloc (.cells zQ 68)=W):=Hid.mk' eW
 have Hg:Hid (w.heap.size=g):=Hid.mk' hg
 have wg:w.heap.size≤g:=Nat.le_of_eq hg
 clear eW hg
 go_enter Tryz.func67,Tryz.ntmps67
 go_wp2_with (first
  | (go_at_call 70;rw [HW.out,Hg.out];refine (c0 _).mono ?_;clear c0 HW Hg;rintro e w1 ⟨R1,rfl,hR1,hb1⟩;(replace h0:=h0.still hb1);(replace b:=below_next b hb1);clear hb1)
  | (go_at_call 70;refine (c1 _).mono ?_;clear c1;rintro e w2 ⟨R2,rfl,hR2,hb2⟩;(replace h0:=h0.still hb2);(replace b:=below_next b hb2);clear hb2)
  | (go_at_call 76;refine (cf R1 R2 hR1 hR2 _).mono ?_;clear cf;rintro e w3 ⟨t,rfl,ht,hb3⟩;(replace h0:=h0.still hb3);(replace b:=below_next b hb3);clear hb3;(have t6:w3.there g 0 (q64 t.X t.Y t.Z t.T).toArray.size:=there64 h0))
  | (with_reducible (refine id (?_:wpList _ _ _ _ _ _));refine wpList_store_mid rfl 68 _ _ rfl g 0 (q64 t.X t.Y t.Z t.T).toArray rfl rfl t6 (infoQA _ _ _ _) (oneQ _ _ _ _) ?_))
 (try simp only [Exit.inBlock,Exit.then])
 exact bodyPost_ret (results_cell_mid Tryz.results67 _ _ g 0 (q64 t.X t.Y t.Z t.T) _ rfl (h0.stored (q64 t.X t.Y t.Z t.T) (q64_same _ _ _ _ _ _ _ _)).range Tryz.underlying68 rfl (infoQ _ _ _ _)) rfl ⟨t,rfl,ht,below_setCells wg _ _ _ b⟩
end Go.Proofs.YtdgkmloabificaaGreatDoor
namespace Go.Proofs.YtdgkmloabificaaGreatDoor
open Go.RowKit
theorem bit8_eq (ks:Nat→Nat) (hlt:∀ q,ks q<256) (i:Nat):(bits .and .u8 ((ks (i / 8):Int) / 2 ^ (i%8)) 1 == 1)=decide (ks (i / 8) / 2 ^ (i%8)%2=1):=by
 have e:((ks (i / 8):Int) / 2 ^ (i%8))=((ks (i / 8) / 2 ^ (i%8):Nat):Int):=by simp
 have hb:ks (i / 8) / 2 ^ (i%8)<256:=Nat.lt_of_le_of_lt (Nat.div_le_self _ _) (hlt _)
 rw [e,show (1:Int)=((1:Nat):Int) from rfl,u8_and_nat _ 1 hb (by decide),Nat.and_one_is_mod]
 generalize ks (i / 8) / 2 ^ (i%8)=v
 rcases Nat.mod_two_eq_zero_or_one v with h | h <;> simp [h]
set_option maxRecDepth 20000 in
set_option maxHeartbeats 8000000 in
theorem rtimes6_good {r:P4} {p:N4} (hr:r.Rep p) (v:Value) (ks:Nat→Nat) (hks:∀ j,ks j<256) (w:World) (hv:BytesIn w v 32 ks) :
 Calls Tryz.prog 33 #[r.V,v] w fun e w'=>∃ t:P4,e = .returned (.tuple #[t.V,.int .i64 0])∧t.Rep (mulN dN p ks 256)∧Below w.heap.size w w':=by
 have hz:=zeroR
 have hzq:=zeroQ
 have cD:∀ W,Calls Tryz.prog 35 #[] W fun e w'=>∃ R,e = .returned (.agg (i16 R).toArray)∧Rw R dN∧Below W.heap.size W w':=fun W=>rD_any W
 have cz:∀ W,Calls Tryz.prog 67 #[] W fun e w'=>∃ t:P4,e = .returned (.agg (q64 t.X t.Y t.Z t.T).toArray)∧t.Rep zeroN∧Below W.heap.size W w':=fun W=>rzero_any W
 have cP:∀ (D:Nat→Int),Rw D dN→∀ (s t:P4) (x y:N4),s.Rep x→t.Rep y→∀ W,Calls Tryz.prog 34 #[.agg (q64 s.X s.Y s.Z s.T).toArray,.agg (q64 t.X t.Y t.Z t.T).toArray,.agg (i16 D).toArray] W fun e w'=>∃ u:P4,e = .returned (.agg (q64 u.X u.Y u.Z u.T).toArray)∧u.Rep (addN dN x y)∧Below W.heap.size W w':=fun D hD s t x y hs ht W=>rplus6_any hs ht hD W
 obtain ⟨m0,hm0⟩:∃ m:Nat→N4,m=mulN dN p ks:=⟨_,rfl⟩
 have hm1:m0 0=zeroN:=by rw [hm0];rfl
 have hmS0:∀ j,m0 (j+1)=if ks ((255 - j) / 8) / 2 ^ ((255 - j)%8)%2=1 then addN dN (addN dN (m0 j) (m0 j)) p else addN dN (m0 j) (m0 j):=fun j=>by rw [hm0];rfl
 rw [←hm0]
 clear hm0
 rw [←hm1] at cz
 clear hm1
 generalize dN=dd at *
 have hmS:=Hid.mk' hmS0
 clear hmS0
 obtain ⟨bb,ob,cap,hsl,hlb,hcap,hc⟩:∃ bb ob cap,v = .slice (some ⟨bb,ob,none⟩) 32 cap∧bb<w.heap.size∧32≤cap∧∀ j,j<32→w.cell? ⟨bb,ob+j,none⟩=some (.int .u8 (ks j)):=hv.resolve_left (fun ⟨_,_,h⟩=>by omega)
 subst hsl
 obtain ⟨V1,g2,e1,hg2,b1,hp⟩:∃ V g,w.alloc (.cells (q64 r.X r.Y r.Z r.T).toArray 68)=V∧w.heap.size=g∧Below w.heap.size w V∧RW V g 0 (q64 r.X r.Y r.Z r.T):=⟨_,_,rfl,rfl,(Below.refl _ _).alloc (Nat.le_refl _) _,RW.fresh w _ _⟩
 obtain ⟨W,g4,e4,hg4,b4,h4⟩:=freshQ V1
 have t1:V1.heap.size=w.heap.size+1:=by rw [←e1];simp
 have HW:Hid (W=(w.alloc (.cells (q64 r.X r.Y r.Z r.T).toArray 68)).alloc (.cells zQ 68)):=Hid.mk' (by rw [←e4,←e1])
 have q2:Hid (w.heap.size=g2):=Hid.mk' hg2
 have q4:Hid (w.heap.size+1=g4):=Hid.mk' (by omega)
 have w4:w.heap.size≤g4:=by omega
 have n24:g2≠g4:=by omega
 replace hp:=hp.still b4
 have hbW:Below w.heap.size w W:=below_next b1 b4
 clear e1 e4 hg2 hg4 b1 b4 t1 V1 hv
 rw [show r.V = .agg (q64 r.X r.Y r.Z r.T).toArray from rfl]
 go_enter Tryz.func33,Tryz.ntmps33
 go_upto_region 5 with (first
  | (go_at_call 35;rw [←HW.out,q4.out,q2.out];refine (cD _).mono ?_;clear cD HW q2 q4;rintro e w3 ⟨D,rfl,hD,hb3⟩;(have l2:=hp.lt);(have l4:=h4.lt);(replace hp:=hp.still hb3);(replace h4:=h4.still hb3);(replace hbW:=below_next hbW hb3);(have n26:g2≠w3.heap.size:=Nat.ne_of_lt (Nat.lt_of_lt_of_le l2 hb3.size));(have n46:g4≠w3.heap.size:=Nat.ne_of_lt (Nat.lt_of_lt_of_le l4 hb3.size));(have w6:w.heap.size≤w3.heap.size:=hbW.size);clear hb3 l2 l4;(have z3:=freshR' w3);(have t3:=freshRt w3 D);(obtain ⟨V3,hV3⟩:∃ V,V=(w3.alloc (.cells zI 66)).setCells w3.heap.size 0 (i16 D):=⟨_,rfl⟩);(have hd:RW V3 w3.heap.size 0 (i16 D):=by rw [hV3];exact z3.stored (i16 D) (by rw [i16_len,i16_len]));(have b3:Below w3.heap.size w3 V3:=by rw [hV3];exact below_setCells (Nat.le_refl _) _ _ _ ((Below.refl _ _).alloc (Nat.le_refl _) _));(have H3:=Hid.mk' hV3);clear hV3 z3;(replace hp:=hp.still b3);(replace h4:=h4.still b3);(replace hbW:=below_next hbW b3);clear b3)
  | (with_reducible (refine id (?_:wpList _ _ _ _ _ _));refine wpList_store_mid rfl 66 _ _ rfl w3.heap.size 0 (i16 D).toArray rfl rfl t3 (infoIA D) (oneI D) ?_;rw [List.toList_toArray,←H3.out];clear t3 H3)
  | (go_at_call 67;refine (cz _).mono ?_;clear cz;rintro e w5 ⟨t0,rfl,ht0,hb5⟩;(have l2:=hp.lt);(have l4:=h4.lt);(have l6:=hd.lt);(replace hp:=hp.still hb5);(replace h4:=h4.still hb5);(replace hd:=hd.still hb5);(replace hbW:=below_next hbW hb5);(have n27:g2≠w5.heap.size:=Nat.ne_of_lt (Nat.lt_of_lt_of_le l2 hb5.size));(have n47:g4≠w5.heap.size:=Nat.ne_of_lt (Nat.lt_of_lt_of_le l4 hb5.size));(have n67:w3.heap.size≠w5.heap.size:=Nat.ne_of_lt (Nat.lt_of_lt_of_le l6 hb5.size));(have w7:w.heap.size≤w5.heap.size:=hbW.size);clear hb5 l2 l4 l6;(have z5:=freshQ' w5);(have t5:(w5.alloc (.cells zQ 68)).there w5.heap.size 0 (q64 t0.X t0.Y t0.Z t0.T).toArray.size:=there64 z5);(obtain ⟨V5,hV5⟩:∃ V,V=(w5.alloc (.cells zQ 68)).setCells w5.heap.size 0 (q64 t0.X t0.Y t0.Z t0.T):=⟨_,rfl⟩);(have ho:RW V5 w5.heap.size 0 (q64 t0.X t0.Y t0.Z t0.T):=by rw [hV5];exact z5.stored (q64 t0.X t0.Y t0.Z t0.T) (q64_same _ _ _ _ _ _ _ _));(have b5:Below w5.heap.size w5 V5:=by rw [hV5];exact below_setCells (Nat.le_refl _) _ _ _ ((Below.refl _ _).alloc (Nat.le_refl _) _));(have H5:=Hid.mk' hV5);clear hV5 z5;(replace hp:=hp.still b5);(replace h4:=h4.still b5);(replace hd:=hd.still b5);(replace hbW:=below_next hbW b5);clear b5)
  | (with_reducible (refine id (?_:wpList _ _ _ _ _ _));refine wpList_store_mid rfl 68 _ _ rfl w5.heap.size 0 (q64 t0.X t0.Y t0.Z t0.T).toArray rfl rfl t5 (infoQA _ _ _ _) (oneQ _ _ _ _) ?_;rw [List.toList_toArray,←H5.out];clear t5 H5))
 dsimp only [Act.put]
 generalize w3.heap.size=g6 at *
 generalize w5.heap.size=g7 at *
 go_wp2
 go_loopw [8] (fun i wr=>∃ (j:Nat) (t:P4),j≤256∧i = .int .i64 (255 - (j:Int))∧t.Rep (m0 j)∧RW wr g2 0 (q64 r.X r.Y r.Z r.T)∧RW wr g4 0 (q64 (fun _=>0) (fun _=>0) (fun _=>0) (fun _=>0))∧RW wr g6 0 (i16 D)∧RW wr g7 0 (q64 t.X t.Y t.Z t.T)∧Below w.heap.size w wr) (fun i _=>257 - (256 - (intOf i+1)).toNat)
 case atStart=>exact ⟨0,t0,Nat.zero_le _,by go_num,ht0,hp,h4,hd,ho,hbW⟩
 case round =>
  obtain ⟨j,t,hj,rfl,ht,kp,k4,kd,ko,kb⟩:=hrel
  clear hp h4 hd ho hbW ht0
  replace cP:=cP D hD
  by_cases hj2:j<256
  · have hnx:=hmS.out j
    have cc:=(kb.cell (p:=⟨bb,ob+(255 - j) / 8,none⟩) hlb).trans (hc ((255 - j) / 8) (by omega))
    have hi8:(255 - (j:Int)).toNat=255 - j:=by omega
    have hge:¬(255 - (j:Int)<0):=by omega
    have hbit:=bit8_eq ks hks (255 - j)
    have c1:=cP t t _ _ ht ht
    have c2:=fun (u:P4) (hu:u.Rep (addN dd (m0 j) (m0 j)))=>cP u r _ _ hu hr
    clear cP hmS
    by_cases hb:ks ((255 - j) / 8) / 2 ^ ((255 - j)%8)%2=1
    · rw [if_pos hb] at hnx
      rw [decide_eq_true hb] at hbit
      have Hn:=Hid.mk' hnx
      clear hnx hb
      go_wp2_with (first
       | (refine wpList_load_mid rfl 68 _ rfl g7 0 rfl (q64 t.X t.Y t.Z t.T) _ ko.range Tryz.underlying68 rfl (infoQ _ _ _ _) ?_)
       | (refine wpList_load_mid rfl 68 _ rfl g7 0 rfl (q64 u.X u.Y u.Z u.T) _ ko2.range Tryz.underlying68 rfl (infoQ _ _ _ _) ?_)
       | (refine wpList_load_mid rfl 68 _ rfl g2 0 rfl (q64 r.X r.Y r.Z r.T) _ kp.range Tryz.underlying68 rfl (infoQ _ _ _ _) ?_)
       | (refine wpList_load_mid rfl 66 _ rfl g6 0 rfl (i16 D) _ kd.range Tryz.underlying66 rfl (infoI _) ?_)
       | (go_at_call 34;refine (c1 _).mono ?_;clear c1;rintro e w9 ⟨u,rfl,hu,hb9⟩;(replace kp:=kp.still hb9);(replace k4:=k4.still hb9);(replace kd:=kd.still hb9);(replace ko:=ko.still hb9);(replace kb:=below_next kb hb9);clear hb9 cc;(have tA:w9.there g7 0 (q64 u.X u.Y u.Z u.T).toArray.size:=there64 ko);(obtain ⟨V9,hV9⟩:∃ V,V=w9.setCells g7 0 (q64 u.X u.Y u.Z u.T):=⟨_,rfl⟩);(have ko2:=ko.stored (q64 u.X u.Y u.Z u.T) (q64_same _ _ _ _ _ _ _ _));clear ko;(replace kp:=kp.far g7 0 (q64 u.X u.Y u.Z u.T) (.inl n27));(replace k4:=k4.far g7 0 (q64 u.X u.Y u.Z u.T) (.inl n47));(replace kd:=kd.far g7 0 (q64 u.X u.Y u.Z u.T) (.inl n67));(replace kb:=below_setCells w7 (q64 u.X u.Y u.Z u.T) 0 _ kb);rw [←hV9] at ko2 kp k4 kd kb;(have HA:=Hid.mk' hV9);clear hV9;(have cc:=(kb.cell (p:=⟨bb,ob+(255 - j) / 8,none⟩) hlb).trans (hc ((255 - j) / 8) (by omega))))
       | (with_reducible (refine id (?_:wpList _ _ _ _ _ _));refine wpList_store_mid rfl 68 _ _ rfl g7 0 (q64 u.X u.Y u.Z u.T).toArray rfl rfl tA (infoQA _ _ _ _) (oneQ _ _ _ _) ?_;rw [List.toList_toArray,←HA.out];clear tA HA)
       | (go_at_call 34;refine (c2 u hu _).mono ?_;clear c2;rintro e w10 ⟨x,rfl,hx,hb10⟩;(replace kp:=kp.still hb10);(replace k4:=k4.still hb10);(replace kd:=kd.still hb10);(replace ko2:=ko2.still hb10);(replace kb:=below_next kb hb10);clear hb10 cc;(have tB:w10.there g7 0 (q64 x.X x.Y x.Z x.T).toArray.size:=there64 ko2);(obtain ⟨V10,hV10⟩:∃ V,V=w10.setCells g7 0 (q64 x.X x.Y x.Z x.T):=⟨_,rfl⟩);(have ko3:=ko2.stored (q64 x.X x.Y x.Z x.T) (q64_same _ _ _ _ _ _ _ _));clear ko2;(replace kp:=kp.far g7 0 (q64 x.X x.Y x.Z x.T) (.inl n27));(replace k4:=k4.far g7 0 (q64 x.X x.Y x.Z x.T) (.inl n47));(replace kd:=kd.far g7 0 (q64 x.X x.Y x.Z x.T) (.inl n67));(replace kb:=below_setCells w7 (q64 x.X x.Y x.Z x.T) 0 _ kb);rw [←hV10] at ko3 kp k4 kd kb;(have HB:=Hid.mk' hV10);clear hV10)
       | (with_reducible (refine id (?_:wpList _ _ _ _ _ _));refine wpList_store_mid rfl 68 _ _ rfl g7 0 (q64 x.X x.Y x.Z x.T).toArray rfl rfl tB (infoQA _ _ _ _) (oneQ _ _ _ _) ?_;rw [List.toList_toArray,←HB.out];clear tB HB))
      go_roundw
      case rel=>exact ⟨j+1,x,by omega,by go_num,by rw [Hn.out];exact hx,kp,k4,kd,ko3,kb⟩
      case measure=>simp [intOf];omega
    · rw [if_neg hb] at hnx
      rw [decide_eq_false hb] at hbit
      have Hn:=Hid.mk' hnx
      clear hnx hb c2
      go_wp2_with (first
       | (refine wpList_load_mid rfl 68 _ rfl g7 0 rfl (q64 t.X t.Y t.Z t.T) _ ko.range Tryz.underlying68 rfl (infoQ _ _ _ _) ?_)
       | (refine wpList_load_mid rfl 66 _ rfl g6 0 rfl (i16 D) _ kd.range Tryz.underlying66 rfl (infoI _) ?_)
       | (go_at_call 34;refine (c1 _).mono ?_;clear c1;rintro e w9 ⟨u,rfl,hu,hb9⟩;(replace kp:=kp.still hb9);(replace k4:=k4.still hb9);(replace kd:=kd.still hb9);(replace ko:=ko.still hb9);(replace kb:=below_next kb hb9);clear hb9 cc;(have tA:w9.there g7 0 (q64 u.X u.Y u.Z u.T).toArray.size:=there64 ko);(obtain ⟨V9,hV9⟩:∃ V,V=w9.setCells g7 0 (q64 u.X u.Y u.Z u.T):=⟨_,rfl⟩);(have ko2:=ko.stored (q64 u.X u.Y u.Z u.T) (q64_same _ _ _ _ _ _ _ _));clear ko;(replace kp:=kp.far g7 0 (q64 u.X u.Y u.Z u.T) (.inl n27));(replace k4:=k4.far g7 0 (q64 u.X u.Y u.Z u.T) (.inl n47));(replace kd:=kd.far g7 0 (q64 u.X u.Y u.Z u.T) (.inl n67));(replace kb:=below_setCells w7 (q64 u.X u.Y u.Z u.T) 0 _ kb);rw [←hV9] at ko2 kp k4 kd kb;(have HA:=Hid.mk' hV9);clear hV9;(have cc:=(kb.cell (p:=⟨bb,ob+(255 - j) / 8,none⟩) hlb).trans (hc ((255 - j) / 8) (by omega))))
       | (with_reducible (refine id (?_:wpList _ _ _ _ _ _));refine wpList_store_mid rfl 68 _ _ rfl g7 0 (q64 u.X u.Y u.Z u.T).toArray rfl rfl tA (infoQA _ _ _ _) (oneQ _ _ _ _) ?_;rw [List.toList_toArray,←HA.out];clear tA HA))
      go_roundw
      case rel=>exact ⟨j+1,u,by omega,by go_num,by rw [Hn.out];exact hu,kp,k4,kd,ko2,kb⟩
      case measure=>simp [intOf];omega
  · obtain rfl:j=256:=by omega
    have t4:wr.there g4 0 (q64 t.X t.Y t.Z t.T).toArray.size:=there64 k4
    go_wp2_with (first
     | (refine wpList_load_mid rfl 68 _ rfl g7 0 rfl (q64 t.X t.Y t.Z t.T) _ ko.range Tryz.underlying68 rfl (infoQ _ _ _ _) ?_)
     | (with_reducible (refine id (?_:wpList _ _ _ _ _ _));refine wpList_store_mid rfl 68 _ _ rfl g4 0 (q64 t.X t.Y t.Z t.T).toArray rfl rfl t4 (infoQA _ _ _ _) (oneQ _ _ _ _) ?_))
    (try simp only [Exit.inBlock,Exit.then])
    exact bodyPost_ret (results_cell_tmp Tryz.results33 _ _ g4 0 (q64 t.X t.Y t.Z t.T) _ rfl (k4.stored (q64 t.X t.Y t.Z t.T) (q64_same _ _ _ _ _ _ _ _)).range Tryz.underlying68 rfl (infoQ _ _ _ _)) rfl ⟨t,rfl,ht,below_setCells w4 _ _ _ kb⟩
end Go.Proofs.YtdgkmloabificaaGreatDoor
