/- What the proof stands on: PAdd, PWhole, PEq, POps. -/
import Derived.Test.YtdgkmloabificaaGreatDoorHSumM
import Derived.Test.YtdgkmloabificaaGreatDoorPAtM
import Derived.Test.YtdgkmloabificaaGreatDoorRRatioM
namespace Go.Proofs.YtdgkmloabificaaGreatDoor
open Go.RowKit
abbrev qd1x13:Oper:=oS (Op.store 51 (oT 6) (oT 19)) "curve.go:54" #[jD 11,jD 9,jC 12,jP 0,jP 1,jP 2,jP 3,jP 4,jP 5,jP 6,jP 7,jP 8,jP 9,jP 10,jP 11,jP 12]
abbrev qd1x12:Oper:=oS (Op.store 51 (oT 5) (oT 14)) "curve.go:54" #[jD 10,jD 4,jC 9,jP 0,jP 1,jP 2,jP 3,jP 4,jT 5,jT 6,jT 7,jT 8,jU 9,jP 10,jP 11]
abbrev qd1x11:Oper:=oN 6 (Op.alloc 51) 0 "curve.go:54" #[]
abbrev qd1x10:Oper:=oN 5 (Op.alloc 51) 0 "curve.go:54" #[]
abbrev qd1x9:Oper:=oN 19 (cF1 53 #[oT 16,oT 18] #[51,51]) 51 "curve.go:54" #[jD 6,jD 8,jC 4]
abbrev qd1x4:Oper:=oN 14 (cF1 53 #[oT 11,oT 13] #[51,51]) 51 "curve.go:54" #[jD 1,jD 3]
abbrev qd2x15:Oper:=oS (Op.store 51 (oT 8) (oT 31)) "curve.go:55" #[jD 13,jD 11,jC 14,jP 0,jP 1,jP 2,jP 3,jP 4,jP 5,jP 6,jP 7,jP 8,jP 9,jP 10,jP 11,jP 12,jP 13,jP 14]
abbrev qd2x14:Oper:=oS (Op.store 51 (oT 7) (oT 24)) "curve.go:55" #[jD 12,jD 4,jC 11,jP 0,jP 1,jP 2,jP 3,jP 4,jT 5,jT 6,jT 7,jT 8,jU 9,jU 10,jU 11,jP 12,jP 13]
abbrev qd2x13:Oper:=oN 8 (Op.alloc 51) 0 "curve.go:55" #[]
abbrev qd2x12:Oper:=oN 7 (Op.alloc 51) 0 "curve.go:55" #[]
abbrev qd2x11:Oper:=oN 31 (cF1 53 #[oT 29,oT 30] #[51,51]) 51 "curve.go:55" #[jD 9,jD 10,jC 10]
abbrev qd2x10:Oper:=oN 30 (cF1 103 #[] #[]) 51 "curve.go:55" #[jC 9]
abbrev qd2x9:Oper:=oN 29 (cF1 53 #[oT 26,oT 28] #[51,51]) 51 "curve.go:55" #[jD 6,jD 8,jC 4]
abbrev qd2x4:Oper:=oN 24 (cF1 53 #[oT 21,oT 23] #[51,51]) 51 "curve.go:55" #[jD 1,jD 3]
abbrev qd3x16:Oper:=oS (Op.store 51 (oT 9) (oT 46)) "curve.go:56" #[jD 15,jD 14,jC 14,jP 0,jP 1,jP 2,jP 3,jP 4,jP 5,jP 6,jP 7,jP 8,jP 9,jP 10,jP 11,jP 12,jP 13,jP 14,jP 15]
abbrev qd3x15:Oper:=oN 9 (Op.alloc 51) 0 "curve.go:56" #[]
abbrev qd3x14:Oper:=oN 46 (cF1 63 #[oT 44,oT 45] #[51,51]) 51 "curve.go:56" #[jD 12,jD 13,jC 12]
abbrev qd3x12:Oper:=oN 44 (cF1 63 #[oT 42,oT 43] #[51,51]) 51 "curve.go:56" #[jD 10,jD 11,jC 10]
abbrev qd3x10:Oper:=oN 42 (cF1 53 #[oT 36,oT 41] #[51,51]) 51 "curve.go:56" #[jD 4,jD 9,jC 9]
abbrev qd3x9:Oper:=oN 41 (cF1 104 #[oT 38,oT 40] #[51,51]) 51 "curve.go:56" #[jD 6,jD 8,jC 4]
abbrev qd3x4:Oper:=oN 36 (cF1 104 #[oT 33,oT 35] #[51,51]) 51 "curve.go:56" #[jD 1,jD 3]
abbrev qd4x11:Oper:=oS (Op.store 53 (oT 4) (oT 57)) "curve.go:57" #[jD 10,jC 10,jP 0,jP 1,jP 2,jP 3,jP 4,jP 5,jP 6,jP 7,jP 8,jP 9,jP 10]
set_option maxRecDepth 20000 in
set_option maxHeartbeats 16000000 in
theorem add_raw (px py pz pt qx qy qz qt dd xx yy zz t0 tt f1 f2 f3 f4 cr qb qc qd o1 o2 o3 o4:Nat)
 (k1:∀ W,Calls Tryz.prog 53 #[numV px,numV qx] W fun e w'=>e = .returned (numV xx)∧Below W.heap.size W w')
 (k2:∀ W,Calls Tryz.prog 53 #[numV py,numV qy] W fun e w'=>e = .returned (numV yy)∧Below W.heap.size W w')
 (k3:∀ W,Calls Tryz.prog 53 #[numV pz,numV qz] W fun e w'=>e = .returned (numV zz)∧Below W.heap.size W w')
 (k4:∀ W,Calls Tryz.prog 53 #[numV pt,numV qt] W fun e w'=>e = .returned (numV t0)∧Below W.heap.size W w')
 (k5:∀ W,Calls Tryz.prog 103 #[] W fun e w'=>e = .returned (numV dd)∧Below W.heap.size W w')
 (k6:∀ W,Calls Tryz.prog 53 #[numV t0,numV dd] W fun e w'=>e = .returned (numV tt)∧Below W.heap.size W w')
 (k7:∀ W,Calls Tryz.prog 104 #[numV px,numV py] W fun e w'=>e = .returned (numV f1)∧Below W.heap.size W w')
 (k8:∀ W,Calls Tryz.prog 104 #[numV qx,numV qy] W fun e w'=>e = .returned (numV f2)∧Below W.heap.size W w')
 (k9:∀ W,Calls Tryz.prog 53 #[numV f1,numV f2] W fun e w'=>e = .returned (numV f3)∧Below W.heap.size W w')
 (k10:∀ W,Calls Tryz.prog 63 #[numV f3,numV xx] W fun e w'=>e = .returned (numV f4)∧Below W.heap.size W w')
 (k11:∀ W,Calls Tryz.prog 63 #[numV f4,numV yy] W fun e w'=>e = .returned (numV cr)∧Below W.heap.size W w')
 (k12:∀ W,Calls Tryz.prog 104 #[numV zz,numV tt] W fun e w'=>e = .returned (numV qb)∧Below W.heap.size W w')
 (k13:∀ W,Calls Tryz.prog 104 #[numV yy,numV xx] W fun e w'=>e = .returned (numV qc)∧Below W.heap.size W w')
 (k14:∀ W,Calls Tryz.prog 63 #[numV zz,numV tt] W fun e w'=>e = .returned (numV qd)∧Below W.heap.size W w')
 (k15:∀ W,Calls Tryz.prog 106 #[numV cr,numV qb,numV qc,numV qd] W fun e w'=>e = .returned (pV o1 o2 o3 o4)∧Below W.heap.size W w')
 (w:World):Calls Tryz.prog 66 #[pV px py pz pt,pV qx qy qz qt] w fun e w'=>e = .returned (pV o1 o2 o3 o4)∧Below w.heap.size w w':=by
 have hzp:=zeroP
 obtain ⟨V1,g2,eg2,hg2,bg2,hp⟩:∃ V g,w.alloc (.cells (p16 px py pz pt).toArray 53)=V∧w.heap.size=g∧Below w.heap.size w V∧RW V g 0 (p16 px py pz pt):=⟨_,_,rfl,rfl,(Below.refl _ _).alloc (Nat.le_refl _) _,RW.fresh w _ _⟩
 obtain ⟨V2,g3,eg3,hg3,bg3,hq⟩:∃ V g,V1.alloc (.cells (p16 qx qy qz qt).toArray 53)=V∧V1.heap.size=g∧Below V1.heap.size V1 V∧RW V g 0 (p16 qx qy qz qt):=⟨_,_,rfl,rfl,(Below.refl _ _).alloc (Nat.le_refl _) _,RW.fresh V1 _ _⟩
 obtain ⟨W,g4,eg4,hg4,bg4,hres⟩:=fresh16 V2
 have t1:V1.heap.size=w.heap.size+1:=by rw [←eg2];simp
 have t2:V2.heap.size=V1.heap.size+1:=by rw [←eg3];simp
 have HW:Hid (W=((w.alloc (.cells (p16 px py pz pt).toArray 53)).alloc (.cells (p16 qx qy qz qt).toArray 53)).alloc (.cells zP 53)):=Hid.mk' (by rw [←eg4,←eg3,←eg2])
 have q2:Hid (w.heap.size=g2):=Hid.mk' hg2
 have q3:Hid (w.heap.size+1=g3):=Hid.mk' (by omega)
 have q4:Hid (w.heap.size+1+1=g4):=Hid.mk' (by omega)
 replace hp:=(hp.still bg3).still bg4
 replace hq:=hq.still bg4
 have hbW:Below w.heap.size w W:=(bg2.trans (bg3.mono (by omega))).trans (bg4.mono (by omega))
 have w4:w.heap.size≤g4:=by omega
 obtain ⟨pX,pY,pZ,pT⟩:=parts16 hp
 obtain ⟨qX,qY,qZ,qT⟩:=parts16 hq
 clear eg2 eg3 eg4 hg2 hg3 hg4 bg2 bg3 bg4 t1 t2 hp hq V1 V2
 rw [show pV px py pz pt = .agg (p16 px py pz pt).toArray from rfl,show pV qx qy qz qt = .agg (p16 qx qy qz qt).toArray from rfl]
 go_enter Tryz.func66,Tryz.ntmps66
 go_upto_region 1 with (fail)
 rw [←HW.out,q4.out,q3.out,q2.out]
 clear HW q4 q3 q2
 go_cut [5,6] from 10 (fun s5 s6 wc=>∃ h5 h6:Nat,s5 = .pointer (some ⟨h5,0,none⟩)∧s6 = .pointer (some ⟨h6,0,none⟩)∧Below W.heap.size W wc∧W.heap.size≤h5∧W.heap.size≤h6∧RW wc h5 0 (c4 xx)∧RW wc h6 0 (c4 yy))
 case first =>
  clear k3 k4 k5 k6 k7 k8 k9 k10 k11 k12 k13 k14 k15 pZ pT qZ qT hres hbW
  have hdrew:Below W.heap.size W W.drew:=(Below.refl _ _).drew
  replace pX:=pX.still hdrew
  replace pY:=pY.still hdrew
  replace qX:=qX.still hdrew
  replace qY:=qY.still hdrew
  refine wp_region_noPanic ?_
  refine wp_region_held_drew (S:=fun w'=>Below W.drew.heap.size W.drew w') (by kernel_rfl) (Below.refl _ _) (fun hS => ?_)
  generalize W.drew=Vd1_ at *
  refine tkH 0 (oN 10 (Op.fieldAddr 53 (oT 2) 0) 0 "curve.go:54" #[]) (pA g2 0) hS yR ?_
  (try simp only [pS])
  refine tkH 1 (oN 11 (Op.load 51 (oT 10)) 51 "curve.go:54" #[jD 0]) (numV px) hS (ldN pX 10) ?_
  (try simp only [pS])
  refine tkH 2 (oN 12 (Op.fieldAddr 53 (oT 3) 0) 0 "curve.go:54" #[]) (pA g3 0) hS yR ?_
  (try simp only [pS])
  refine tkH 3 (oN 13 (Op.load 51 (oT 12)) 51 "curve.go:54" #[jD 2]) (numV qx) hS (ldN qX 12) ?_
  (try simp only [pS])
  refine tkH 5 (oN 15 (Op.fieldAddr 53 (oT 2) 1) 0 "curve.go:54" #[]) (pA g2 4) hS yR ?_
  (try simp only [pS])
  refine tkH 6 (oN 16 (Op.load 51 (oT 15)) 51 "curve.go:54" #[jD 5]) (numV py) hS (ldN pY 15) ?_
  (try simp only [pS])
  refine tkH 7 (oN 17 (Op.fieldAddr 53 (oT 3) 1) 0 "curve.go:54" #[]) (pA g3 4) hS yR ?_
  (try simp only [pS])
  refine tkH 8 (oN 18 (Op.load 51 (oT 17)) 51 "curve.go:54" #[jD 7]) (numV qy) hS (ldN qY 17) ?_
  (try simp only [pS])
  refine dag_root (fun G hG0 => ?_)
  have hG:=Hid.mk' hG0
  clear hG0
  obtain ⟨F,hF0⟩:∃ F:Value→Value→Value→Value→Act,∀ v5 v6 v14 v19,F v5 v6 v14 v19={ tmps:=#[.agg (p16 px py pz pt).toArray,.agg (p16 qx qy qz qt).toArray,pA g2 0,pA g3 0,pA g4 0,v5,v6,undef,undef,undef,pA g2 0,numV px,pA g3 0,numV qx,v14,pA g2 4,numV py,pA g3 4,numV qy,v19,undef,undef,undef,undef,undef,undef,undef,undef,undef,undef,undef,undef,undef,undef,undef,undef,undef,undef,undef,undef,undef,undef,undef,undef,undef,undef,undef,undef,undef,undef,undef,undef,undef,undef,undef,undef,undef,undef],defers:=[] }:=⟨_,fun _ _ _ _=>rfl⟩
  have hF:=Hid.mk' hF0
  clear hF0
  have std1_0:Hid (∀ (cur:World) (g10 g11:Nat),Below Vd1_.heap.size Vd1_ cur→RW cur g10 0 (c4 (xx))→RW cur g11 0 (c4 (yy))→Vd1_.heap.size≤g10→Vd1_.heap.size≤g11→g10≠g11→G 0 #[true,true,true,true,true,true,true,true,true,true,true,true,true,true] (F (pA g10 0) (pA g11 0) (numV xx) (numV yy)) cur):=Hid.mk' (by
   intro cur g10 g11 hS r10 r11 G10 G11 d10_11
   rw [hF.out,hG.out]
   refine wpAnyH_done (by kernel_rfl) ?_ _
   refine NoPanic.normal ?_
   go_wp2
   go_meet
   case rel=>exact ⟨g10,g11,rfl,rfl,below_next hdrew hS,Nat.le_trans hdrew.size G10,Nat.le_trans hdrew.size G11,r10,r11⟩)
  have std1_1:Hid (∀ (cur:World) (g10 g11:Nat),Below Vd1_.heap.size Vd1_ cur→RW cur g10 0 (c4 (xx))→RW cur g11 0 (c4 (0))→Vd1_.heap.size≤g10→Vd1_.heap.size≤g11→g10≠g11→G 1 #[true,true,true,true,true,true,true,true,true,true,true,true,true,false] (F (pA g10 0) (pA g11 0) (numV xx) (numV yy)) cur):=Hid.mk' (by
   intro cur g10 g11 hS r10 r11 G10 G11 d10_11
   rw [hF.out,hG.out]
   refine wpAnyH_ready (rs:=[13]) (by kernel_rfl) (by simp) ?_
   refine arS qd1x13 6 19 (yy) r11 hS G11 (fun w1 rr hS1 far=>dagW hG (std1_0.out w1 g10 g11 hS1 (far _ _ _ d10_11 r10) rr G10 G11 d10_11) (hF.out _ _ _ _)) ?_
   exact AllReadyH.nil)
  have std1_2:Hid (∀ (cur:World) (g10 g11:Nat),Below Vd1_.heap.size Vd1_ cur→RW cur g10 0 (c4 (0))→RW cur g11 0 (c4 (0))→Vd1_.heap.size≤g10→Vd1_.heap.size≤g11→g10≠g11→G 2 #[true,true,true,true,true,true,true,true,true,true,true,true,false,false] (F (pA g10 0) (pA g11 0) (numV xx) (numV yy)) cur):=Hid.mk' (by
   intro cur g10 g11 hS r10 r11 G10 G11 d10_11
   rw [hF.out,hG.out]
   clear std1_0
   refine wpAnyH_ready (rs:=[12]) (by kernel_rfl) (by simp) ?_
   refine arS qd1x12 5 14 (xx) r10 hS G10 (fun w1 rr hS1 far=>dagW hG (std1_1.out w1 g10 g11 hS1 rr (far _ _ _ d10_11.symm r11) G10 G11 d10_11) (hF.out _ _ _ _)) ?_
   exact AllReadyH.nil)
  have std1_3:Hid (∀ (cur:World) (g10:Nat),Below Vd1_.heap.size Vd1_ cur→RW cur g10 0 (c4 (0))→Vd1_.heap.size≤g10→G 3 #[true,true,true,true,true,true,true,true,true,true,true,false,false,false] (F (pA g10 0) undef (numV xx) (numV yy)) cur):=Hid.mk' (by
   intro cur g10 hS r10 G10
   rw [hF.out,hG.out]
   clear std1_0 std1_1
   refine wpAnyH_ready (rs:=[11]) (by kernel_rfl) (by simp) ?_
   refine arN qd1x11 hS (fun w1 g11 G11 lg hb rr hS1=>dagW hG (std1_2.out w1 g10 g11 hS1 (r10.still hb) rr G10 G11 (ne_l r10 lg)) (hF.out _ _ _ _)) ?_
   exact AllReadyH.nil)
  have std1_4:Hid (∀ (cur:World) (g11:Nat),Below Vd1_.heap.size Vd1_ cur→RW cur g11 0 (c4 (0))→Vd1_.heap.size≤g11→G 3 #[true,true,true,true,true,true,true,true,true,true,false,true,false,false] (F undef (pA g11 0) (numV xx) (numV yy)) cur):=Hid.mk' (by
   intro cur g11 hS r11 G11
   rw [hF.out,hG.out]
   clear std1_0 std1_1 std1_3
   refine wpAnyH_ready (rs:=[10]) (by kernel_rfl) (by simp) ?_
   refine arN qd1x10 hS (fun w1 g10 G10 lg hb rr hS1=>dagW hG (std1_2.out w1 g10 g11 hS1 rr (r11.still hb) G10 G11 (ne_r r11 lg)) (hF.out _ _ _ _)) ?_
   exact AllReadyH.nil)
  have std1_5:Hid (∀ (cur:World),Below Vd1_.heap.size Vd1_ cur→G 4 #[true,true,true,true,true,true,true,true,true,true,false,false,false,false] (F undef undef (numV xx) (numV yy)) cur):=Hid.mk' (by
   intro cur  hS 
   rw [hF.out,hG.out]
   clear std1_0 std1_1 std1_2
   refine wpAnyH_ready (rs:=[10,11]) (by kernel_rfl) (by simp) ?_
   refine arN qd1x10 hS (fun w1 g10 G10 lg hb rr hS1=>dagW hG (std1_3.out w1 g10 hS1 rr G10) (hF.out _ _ _ _)) ?_
   refine arN qd1x11 hS (fun w1 g11 G11 lg hb rr hS1=>dagW hG (std1_4.out w1 g11 hS1 rr G11) (hF.out _ _ _ _)) ?_
   exact AllReadyH.nil)
  have std1_6:Hid (∀ (cur:World) (g10 g11:Nat),Below Vd1_.heap.size Vd1_ cur→RW cur g10 0 (c4 (0))→RW cur g11 0 (c4 (0))→Vd1_.heap.size≤g10→Vd1_.heap.size≤g11→g10≠g11→G 3 #[true,true,true,true,true,true,true,true,true,false,true,true,false,false] (F (pA g10 0) (pA g11 0) (numV xx) undef) cur):=Hid.mk' (by
   intro cur g10 g11 hS r10 r11 G10 G11 d10_11
   rw [hF.out,hG.out]
   clear std1_0 std1_1 std1_3 std1_4 std1_5
   refine wpAnyH_ready (rs:=[9]) (by kernel_rfl) (by simp) ?_
   refine arC qd1x9 (k2 _) (fun e w1 ⟨he,hb⟩=>⟨_,he,below_next hS hb,dagW hG (std1_2.out w1 g10 g11 (below_next hS hb) (r10.still hb) (r11.still hb) G10 G11 d10_11) (hF.out _ _ _ _)⟩) ?_
   exact AllReadyH.nil)
  have std1_7:Hid (∀ (cur:World) (g10:Nat),Below Vd1_.heap.size Vd1_ cur→RW cur g10 0 (c4 (0))→Vd1_.heap.size≤g10→G 4 #[true,true,true,true,true,true,true,true,true,false,true,false,false,false] (F (pA g10 0) undef (numV xx) undef) cur):=Hid.mk' (by
   intro cur g10 hS r10 G10
   rw [hF.out,hG.out]
   clear std1_0 std1_1 std1_2 std1_4 std1_5
   refine wpAnyH_ready (rs:=[9,11]) (by kernel_rfl) (by simp) ?_
   refine arC qd1x9 (k2 _) (fun e w1 ⟨he,hb⟩=>⟨_,he,below_next hS hb,dagW hG (std1_3.out w1 g10 (below_next hS hb) (r10.still hb) G10) (hF.out _ _ _ _)⟩) ?_
   refine arN qd1x11 hS (fun w1 g11 G11 lg hb rr hS1=>dagW hG (std1_6.out w1 g10 g11 hS1 (r10.still hb) rr G10 G11 (ne_l r10 lg)) (hF.out _ _ _ _)) ?_
   exact AllReadyH.nil)
  have std1_8:Hid (∀ (cur:World) (g11:Nat),Below Vd1_.heap.size Vd1_ cur→RW cur g11 0 (c4 (0))→Vd1_.heap.size≤g11→G 4 #[true,true,true,true,true,true,true,true,true,false,false,true,false,false] (F undef (pA g11 0) (numV xx) undef) cur):=Hid.mk' (by
   intro cur g11 hS r11 G11
   rw [hF.out,hG.out]
   clear std1_0 std1_1 std1_2 std1_3 std1_5 std1_7
   refine wpAnyH_ready (rs:=[9,10]) (by kernel_rfl) (by simp) ?_
   refine arC qd1x9 (k2 _) (fun e w1 ⟨he,hb⟩=>⟨_,he,below_next hS hb,dagW hG (std1_4.out w1 g11 (below_next hS hb) (r11.still hb) G11) (hF.out _ _ _ _)⟩) ?_
   refine arN qd1x10 hS (fun w1 g10 G10 lg hb rr hS1=>dagW hG (std1_6.out w1 g10 g11 hS1 rr (r11.still hb) G10 G11 (ne_r r11 lg)) (hF.out _ _ _ _)) ?_
   exact AllReadyH.nil)
  have std1_9:Hid (∀ (cur:World),Below Vd1_.heap.size Vd1_ cur→G 5 #[true,true,true,true,true,true,true,true,true,false,false,false,false,false] (F undef undef (numV xx) undef) cur):=Hid.mk' (by
   intro cur  hS 
   rw [hF.out,hG.out]
   clear std1_0 std1_1 std1_2 std1_3 std1_4 std1_6
   refine wpAnyH_ready (rs:=[9,10,11]) (by kernel_rfl) (by simp) ?_
   refine arC qd1x9 (k2 _) (fun e w1 ⟨he,hb⟩=>⟨_,he,below_next hS hb,dagW hG (std1_5.out w1  (below_next hS hb) ) (hF.out _ _ _ _)⟩) ?_
   refine arN qd1x10 hS (fun w1 g10 G10 lg hb rr hS1=>dagW hG (std1_7.out w1 g10 hS1 rr G10) (hF.out _ _ _ _)) ?_
   refine arN qd1x11 hS (fun w1 g11 G11 lg hb rr hS1=>dagW hG (std1_8.out w1 g11 hS1 rr G11) (hF.out _ _ _ _)) ?_
   exact AllReadyH.nil)
  have std1_10:Hid (∀ (cur:World) (g10 g11:Nat),Below Vd1_.heap.size Vd1_ cur→RW cur g10 0 (c4 (0))→RW cur g11 0 (c4 (0))→Vd1_.heap.size≤g10→Vd1_.heap.size≤g11→g10≠g11→G 4 #[true,true,true,true,false,true,true,true,true,false,true,true,false,false] (F (pA g10 0) (pA g11 0) undef undef) cur):=Hid.mk' (by
   intro cur g10 g11 hS r10 r11 G10 G11 d10_11
   rw [hF.out,hG.out]
   clear std1_0 std1_1 std1_2 std1_3 std1_4 std1_5 std1_7 std1_8 std1_9
   refine wpAnyH_ready (rs:=[4]) (by kernel_rfl) (by simp) ?_
   refine arC qd1x4 (k1 _) (fun e w1 ⟨he,hb⟩=>⟨_,he,below_next hS hb,dagW hG (std1_6.out w1 g10 g11 (below_next hS hb) (r10.still hb) (r11.still hb) G10 G11 d10_11) (hF.out _ _ _ _)⟩) ?_
   exact AllReadyH.nil)
  have std1_11:Hid (∀ (cur:World) (g10:Nat),Below Vd1_.heap.size Vd1_ cur→RW cur g10 0 (c4 (0))→Vd1_.heap.size≤g10→G 5 #[true,true,true,true,false,true,true,true,true,false,true,false,false,false] (F (pA g10 0) undef undef undef) cur):=Hid.mk' (by
   intro cur g10 hS r10 G10
   rw [hF.out,hG.out]
   clear std1_0 std1_1 std1_2 std1_3 std1_4 std1_5 std1_6 std1_8 std1_9
   refine wpAnyH_ready (rs:=[4,11]) (by kernel_rfl) (by simp) ?_
   refine arC qd1x4 (k1 _) (fun e w1 ⟨he,hb⟩=>⟨_,he,below_next hS hb,dagW hG (std1_7.out w1 g10 (below_next hS hb) (r10.still hb) G10) (hF.out _ _ _ _)⟩) ?_
   refine arN qd1x11 hS (fun w1 g11 G11 lg hb rr hS1=>dagW hG (std1_10.out w1 g10 g11 hS1 (r10.still hb) rr G10 G11 (ne_l r10 lg)) (hF.out _ _ _ _)) ?_
   exact AllReadyH.nil)
  have std1_12:Hid (∀ (cur:World) (g11:Nat),Below Vd1_.heap.size Vd1_ cur→RW cur g11 0 (c4 (0))→Vd1_.heap.size≤g11→G 5 #[true,true,true,true,false,true,true,true,true,false,false,true,false,false] (F undef (pA g11 0) undef undef) cur):=Hid.mk' (by
   intro cur g11 hS r11 G11
   rw [hF.out,hG.out]
   clear std1_0 std1_1 std1_2 std1_3 std1_4 std1_5 std1_6 std1_7 std1_9 std1_11
   refine wpAnyH_ready (rs:=[4,10]) (by kernel_rfl) (by simp) ?_
   refine arC qd1x4 (k1 _) (fun e w1 ⟨he,hb⟩=>⟨_,he,below_next hS hb,dagW hG (std1_8.out w1 g11 (below_next hS hb) (r11.still hb) G11) (hF.out _ _ _ _)⟩) ?_
   refine arN qd1x10 hS (fun w1 g10 G10 lg hb rr hS1=>dagW hG (std1_10.out w1 g10 g11 hS1 rr (r11.still hb) G10 G11 (ne_r r11 lg)) (hF.out _ _ _ _)) ?_
   exact AllReadyH.nil)
  have std1_13:Hid (∀ (cur:World),Below Vd1_.heap.size Vd1_ cur→G 6 #[true,true,true,true,false,true,true,true,true,false,false,false,false,false] (F undef undef undef undef) cur):=Hid.mk' (by
   intro cur  hS 
   rw [hF.out,hG.out]
   clear std1_0 std1_1 std1_2 std1_3 std1_4 std1_5 std1_6 std1_7 std1_8 std1_10
   refine wpAnyH_ready (rs:=[4,10,11]) (by kernel_rfl) (by simp) ?_
   refine arC qd1x4 (k1 _) (fun e w1 ⟨he,hb⟩=>⟨_,he,below_next hS hb,dagW hG (std1_9.out w1  (below_next hS hb) ) (hF.out _ _ _ _)⟩) ?_
   refine arN qd1x10 hS (fun w1 g10 G10 lg hb rr hS1=>dagW hG (std1_11.out w1 g10 hS1 rr G10) (hF.out _ _ _ _)) ?_
   refine arN qd1x11 hS (fun w1 g11 G11 lg hb rr hS1=>dagW hG (std1_12.out w1 g11 hS1 rr G11) (hF.out _ _ _ _)) ?_
   exact AllReadyH.nil)
  rw [hG.out]
  exact dagW hG (std1_13.out Vd1_ hS) (hF.out _ _ _ _)
 case rest =>
 obtain ⟨b5,b6,rfl,rfl,hb1,B5,B6,h5,h6⟩:=hcut
 have lt4:=hres.lt
 have n54:b5≠g4:=by omega
 have n64:b6≠g4:=by omega
 clear lt4 B5 B6 k1 k2 
 replace pX:=pX.still hb1
 replace pY:=pY.still hb1
 replace pZ:=pZ.still hb1
 replace pT:=pT.still hb1
 replace qX:=qX.still hb1
 replace qY:=qY.still hb1
 replace qZ:=qZ.still hb1
 replace qT:=qT.still hb1
 replace hres:=hres.still hb1
 obtain ⟨U1,hU⟩:∃ W,W=wc:=⟨_,rfl⟩
 rw [←hU]
 rw [←hU] at pX pY pZ pT qX qY qZ qT hres h5 h6 hb1
 replace hbW:=below_next hbW hb1
 clear hU hb1
 go_upto_region 2 with (fail)
 go_cut [7,8] from 10 (fun s7 s8 wc=>∃ h7 h8:Nat,s7 = .pointer (some ⟨h7,0,none⟩)∧s8 = .pointer (some ⟨h8,0,none⟩)∧Below U1.heap.size U1 wc∧U1.heap.size≤h7∧U1.heap.size≤h8∧RW wc h7 0 (c4 zz)∧RW wc h8 0 (c4 tt))
 case first =>
  clear k7 k8 k9 k10 k11 k12 k13 k14 k15 pX pY qX qY hres h5 h6 hbW
  have hdrew:Below U1.heap.size U1 U1.drew:=(Below.refl _ _).drew
  replace pZ:=pZ.still hdrew
  replace pT:=pT.still hdrew
  replace qZ:=qZ.still hdrew
  replace qT:=qT.still hdrew
  refine wp_region_noPanic ?_
  refine wp_region_held_drew (S:=fun w'=>Below U1.drew.heap.size U1.drew w') (by kernel_rfl) (Below.refl _ _) (fun hS => ?_)
  generalize U1.drew=Vd2_ at *
  refine tkH 0 (oN 20 (Op.fieldAddr 53 (oT 2) 2) 0 "curve.go:55" #[]) (pA g2 8) hS yR ?_
  (try simp only [pS])
  refine tkH 1 (oN 21 (Op.load 51 (oT 20)) 51 "curve.go:55" #[jD 0]) (numV pz) hS (ldN pZ 20) ?_
  (try simp only [pS])
  refine tkH 2 (oN 22 (Op.fieldAddr 53 (oT 3) 2) 0 "curve.go:55" #[]) (pA g3 8) hS yR ?_
  (try simp only [pS])
  refine tkH 3 (oN 23 (Op.load 51 (oT 22)) 51 "curve.go:55" #[jD 2]) (numV qz) hS (ldN qZ 22) ?_
  (try simp only [pS])
  refine tkH 5 (oN 25 (Op.fieldAddr 53 (oT 2) 3) 0 "curve.go:55" #[]) (pA g2 12) hS yR ?_
  (try simp only [pS])
  refine tkH 6 (oN 26 (Op.load 51 (oT 25)) 51 "curve.go:55" #[jD 5]) (numV pt) hS (ldN pT 25) ?_
  (try simp only [pS])
  refine tkH 7 (oN 27 (Op.fieldAddr 53 (oT 3) 3) 0 "curve.go:55" #[]) (pA g3 12) hS yR ?_
  (try simp only [pS])
  refine tkH 8 (oN 28 (Op.load 51 (oT 27)) 51 "curve.go:55" #[jD 7]) (numV qt) hS (ldN qT 27) ?_
  (try simp only [pS])
  refine dag_root (fun G hG0 => ?_)
  have hG:=Hid.mk' hG0
  clear hG0
  obtain ⟨F,hF0⟩:∃ F:Value→Value→Value→Value→Value→Value→Act,∀ v7 v8 v24 v29 v30 v31,F v7 v8 v24 v29 v30 v31={ tmps:=#[.agg (p16 px py pz pt).toArray,.agg (p16 qx qy qz qt).toArray,pA g2 0,pA g3 0,pA g4 0,pA b5 0,pA b6 0,v7,v8,undef,u10,u11,u12,u13,u14,u15,u16,u17,u18,u19,pA g2 8,numV pz,pA g3 8,numV qz,v24,pA g2 12,numV pt,pA g3 12,numV qt,v29,v30,v31,u32,u33,u34,u35,u36,u37,u38,u39,u40,u41,u42,u43,u44,u45,u46,u47,u48,u49,u50,u51,u52,u53,u54,u55,u56,u57],defers:=[] }:=⟨_,fun _ _ _ _ _ _=>rfl⟩
  have hF:=Hid.mk' hF0
  clear hF0
  have std2_0:Hid (∀ (cur:World) (g12 g13:Nat),Below Vd2_.heap.size Vd2_ cur→RW cur g12 0 (c4 (zz))→RW cur g13 0 (c4 (tt))→Vd2_.heap.size≤g12→Vd2_.heap.size≤g13→g12≠g13→G 0 #[true,true,true,true,true,true,true,true,true,true,true,true,true,true,true,true] (F (pA g12 0) (pA g13 0) (numV zz) (numV t0) (numV dd) (numV tt)) cur):=Hid.mk' (by
   intro cur g12 g13 hS r12 r13 G12 G13 d12_13
   rw [hF.out,hG.out]
   refine wpAnyH_done (by kernel_rfl) ?_ _
   refine NoPanic.normal ?_
   go_wp2
   go_meet
   case rel=>exact ⟨g12,g13,rfl,rfl,below_next hdrew hS,Nat.le_trans hdrew.size G12,Nat.le_trans hdrew.size G13,r12,r13⟩)
  have std2_1:Hid (∀ (cur:World) (g12 g13:Nat),Below Vd2_.heap.size Vd2_ cur→RW cur g12 0 (c4 (zz))→RW cur g13 0 (c4 (0))→Vd2_.heap.size≤g12→Vd2_.heap.size≤g13→g12≠g13→G 1 #[true,true,true,true,true,true,true,true,true,true,true,true,true,true,true,false] (F (pA g12 0) (pA g13 0) (numV zz) (numV t0) (numV dd) (numV tt)) cur):=Hid.mk' (by
   intro cur g12 g13 hS r12 r13 G12 G13 d12_13
   rw [hF.out,hG.out]
   refine wpAnyH_ready (rs:=[15]) (by kernel_rfl) (by simp) ?_
   refine arS qd2x15 8 31 (tt) r13 hS G13 (fun w1 rr hS1 far=>dagW hG (std2_0.out w1 g12 g13 hS1 (far _ _ _ d12_13 r12) rr G12 G13 d12_13) (hF.out _ _ _ _ _ _)) ?_
   exact AllReadyH.nil)
  have std2_2:Hid (∀ (cur:World) (g12 g13:Nat),Below Vd2_.heap.size Vd2_ cur→RW cur g12 0 (c4 (0))→RW cur g13 0 (c4 (0))→Vd2_.heap.size≤g12→Vd2_.heap.size≤g13→g12≠g13→G 2 #[true,true,true,true,true,true,true,true,true,true,true,true,true,true,false,false] (F (pA g12 0) (pA g13 0) (numV zz) (numV t0) (numV dd) (numV tt)) cur):=Hid.mk' (by
   intro cur g12 g13 hS r12 r13 G12 G13 d12_13
   rw [hF.out,hG.out]
   clear std2_0
   refine wpAnyH_ready (rs:=[14]) (by kernel_rfl) (by simp) ?_
   refine arS qd2x14 7 24 (zz) r12 hS G12 (fun w1 rr hS1 far=>dagW hG (std2_1.out w1 g12 g13 hS1 rr (far _ _ _ d12_13.symm r13) G12 G13 d12_13) (hF.out _ _ _ _ _ _)) ?_
   exact AllReadyH.nil)
  have std2_3:Hid (∀ (cur:World) (g12:Nat),Below Vd2_.heap.size Vd2_ cur→RW cur g12 0 (c4 (0))→Vd2_.heap.size≤g12→G 3 #[true,true,true,true,true,true,true,true,true,true,true,true,true,false,false,false] (F (pA g12 0) undef (numV zz) (numV t0) (numV dd) (numV tt)) cur):=Hid.mk' (by
   intro cur g12 hS r12 G12
   rw [hF.out,hG.out]
   clear std2_0 std2_1
   refine wpAnyH_ready (rs:=[13]) (by kernel_rfl) (by simp) ?_
   refine arN qd2x13 hS (fun w1 g13 G13 lg hb rr hS1=>dagW hG (std2_2.out w1 g12 g13 hS1 (r12.still hb) rr G12 G13 (ne_l r12 lg)) (hF.out _ _ _ _ _ _)) ?_
   exact AllReadyH.nil)
  have std2_4:Hid (∀ (cur:World) (g13:Nat),Below Vd2_.heap.size Vd2_ cur→RW cur g13 0 (c4 (0))→Vd2_.heap.size≤g13→G 3 #[true,true,true,true,true,true,true,true,true,true,true,true,false,true,false,false] (F undef (pA g13 0) (numV zz) (numV t0) (numV dd) (numV tt)) cur):=Hid.mk' (by
   intro cur g13 hS r13 G13
   rw [hF.out,hG.out]
   clear std2_0 std2_1 std2_3
   refine wpAnyH_ready (rs:=[12]) (by kernel_rfl) (by simp) ?_
   refine arN qd2x12 hS (fun w1 g12 G12 lg hb rr hS1=>dagW hG (std2_2.out w1 g12 g13 hS1 rr (r13.still hb) G12 G13 (ne_r r13 lg)) (hF.out _ _ _ _ _ _)) ?_
   exact AllReadyH.nil)
  have std2_5:Hid (∀ (cur:World),Below Vd2_.heap.size Vd2_ cur→G 4 #[true,true,true,true,true,true,true,true,true,true,true,true,false,false,false,false] (F undef undef (numV zz) (numV t0) (numV dd) (numV tt)) cur):=Hid.mk' (by
   intro cur  hS 
   rw [hF.out,hG.out]
   clear std2_0 std2_1 std2_2
   refine wpAnyH_ready (rs:=[12,13]) (by kernel_rfl) (by simp) ?_
   refine arN qd2x12 hS (fun w1 g12 G12 lg hb rr hS1=>dagW hG (std2_3.out w1 g12 hS1 rr G12) (hF.out _ _ _ _ _ _)) ?_
   refine arN qd2x13 hS (fun w1 g13 G13 lg hb rr hS1=>dagW hG (std2_4.out w1 g13 hS1 rr G13) (hF.out _ _ _ _ _ _)) ?_
   exact AllReadyH.nil)
  have std2_6:Hid (∀ (cur:World) (g12 g13:Nat),Below Vd2_.heap.size Vd2_ cur→RW cur g12 0 (c4 (0))→RW cur g13 0 (c4 (0))→Vd2_.heap.size≤g12→Vd2_.heap.size≤g13→g12≠g13→G 3 #[true,true,true,true,true,true,true,true,true,true,true,false,true,true,false,false] (F (pA g12 0) (pA g13 0) (numV zz) (numV t0) (numV dd) u31) cur):=Hid.mk' (by
   intro cur g12 g13 hS r12 r13 G12 G13 d12_13
   rw [hF.out,hG.out]
   clear std2_0 std2_1 std2_3 std2_4 std2_5
   refine wpAnyH_ready (rs:=[11]) (by kernel_rfl) (by simp) ?_
   refine arC qd2x11 (k6 _) (fun e w1 ⟨he,hb⟩=>⟨_,he,below_next hS hb,dagW hG (std2_2.out w1 g12 g13 (below_next hS hb) (r12.still hb) (r13.still hb) G12 G13 d12_13) (hF.out _ _ _ _ _ _)⟩) ?_
   exact AllReadyH.nil)
  have std2_7:Hid (∀ (cur:World) (g12:Nat),Below Vd2_.heap.size Vd2_ cur→RW cur g12 0 (c4 (0))→Vd2_.heap.size≤g12→G 4 #[true,true,true,true,true,true,true,true,true,true,true,false,true,false,false,false] (F (pA g12 0) undef (numV zz) (numV t0) (numV dd) u31) cur):=Hid.mk' (by
   intro cur g12 hS r12 G12
   rw [hF.out,hG.out]
   clear std2_0 std2_1 std2_2 std2_4 std2_5
   refine wpAnyH_ready (rs:=[11,13]) (by kernel_rfl) (by simp) ?_
   refine arC qd2x11 (k6 _) (fun e w1 ⟨he,hb⟩=>⟨_,he,below_next hS hb,dagW hG (std2_3.out w1 g12 (below_next hS hb) (r12.still hb) G12) (hF.out _ _ _ _ _ _)⟩) ?_
   refine arN qd2x13 hS (fun w1 g13 G13 lg hb rr hS1=>dagW hG (std2_6.out w1 g12 g13 hS1 (r12.still hb) rr G12 G13 (ne_l r12 lg)) (hF.out _ _ _ _ _ _)) ?_
   exact AllReadyH.nil)
  have std2_8:Hid (∀ (cur:World) (g13:Nat),Below Vd2_.heap.size Vd2_ cur→RW cur g13 0 (c4 (0))→Vd2_.heap.size≤g13→G 4 #[true,true,true,true,true,true,true,true,true,true,true,false,false,true,false,false] (F undef (pA g13 0) (numV zz) (numV t0) (numV dd) u31) cur):=Hid.mk' (by
   intro cur g13 hS r13 G13
   rw [hF.out,hG.out]
   clear std2_0 std2_1 std2_2 std2_3 std2_5 std2_7
   refine wpAnyH_ready (rs:=[11,12]) (by kernel_rfl) (by simp) ?_
   refine arC qd2x11 (k6 _) (fun e w1 ⟨he,hb⟩=>⟨_,he,below_next hS hb,dagW hG (std2_4.out w1 g13 (below_next hS hb) (r13.still hb) G13) (hF.out _ _ _ _ _ _)⟩) ?_
   refine arN qd2x12 hS (fun w1 g12 G12 lg hb rr hS1=>dagW hG (std2_6.out w1 g12 g13 hS1 rr (r13.still hb) G12 G13 (ne_r r13 lg)) (hF.out _ _ _ _ _ _)) ?_
   exact AllReadyH.nil)
  have std2_9:Hid (∀ (cur:World),Below Vd2_.heap.size Vd2_ cur→G 5 #[true,true,true,true,true,true,true,true,true,true,true,false,false,false,false,false] (F undef undef (numV zz) (numV t0) (numV dd) u31) cur):=Hid.mk' (by
   intro cur  hS 
   rw [hF.out,hG.out]
   clear std2_0 std2_1 std2_2 std2_3 std2_4 std2_6
   refine wpAnyH_ready (rs:=[11,12,13]) (by kernel_rfl) (by simp) ?_
   refine arC qd2x11 (k6 _) (fun e w1 ⟨he,hb⟩=>⟨_,he,below_next hS hb,dagW hG (std2_5.out w1  (below_next hS hb) ) (hF.out _ _ _ _ _ _)⟩) ?_
   refine arN qd2x12 hS (fun w1 g12 G12 lg hb rr hS1=>dagW hG (std2_7.out w1 g12 hS1 rr G12) (hF.out _ _ _ _ _ _)) ?_
   refine arN qd2x13 hS (fun w1 g13 G13 lg hb rr hS1=>dagW hG (std2_8.out w1 g13 hS1 rr G13) (hF.out _ _ _ _ _ _)) ?_
   exact AllReadyH.nil)
  have std2_10:Hid (∀ (cur:World) (g12 g13:Nat),Below Vd2_.heap.size Vd2_ cur→RW cur g12 0 (c4 (0))→RW cur g13 0 (c4 (0))→Vd2_.heap.size≤g12→Vd2_.heap.size≤g13→g12≠g13→G 4 #[true,true,true,true,true,true,true,true,true,true,false,false,true,true,false,false] (F (pA g12 0) (pA g13 0) (numV zz) (numV t0) u30 u31) cur):=Hid.mk' (by
   intro cur g12 g13 hS r12 r13 G12 G13 d12_13
   rw [hF.out,hG.out]
   clear std2_0 std2_1 std2_2 std2_3 std2_4 std2_5 std2_7 std2_8 std2_9
   refine wpAnyH_ready (rs:=[10]) (by kernel_rfl) (by simp) ?_
   refine arC qd2x10 (k5 _) (fun e w1 ⟨he,hb⟩=>⟨_,he,below_next hS hb,dagW hG (std2_6.out w1 g12 g13 (below_next hS hb) (r12.still hb) (r13.still hb) G12 G13 d12_13) (hF.out _ _ _ _ _ _)⟩) ?_
   exact AllReadyH.nil)
  have std2_11:Hid (∀ (cur:World) (g12:Nat),Below Vd2_.heap.size Vd2_ cur→RW cur g12 0 (c4 (0))→Vd2_.heap.size≤g12→G 5 #[true,true,true,true,true,true,true,true,true,true,false,false,true,false,false,false] (F (pA g12 0) undef (numV zz) (numV t0) u30 u31) cur):=Hid.mk' (by
   intro cur g12 hS r12 G12
   rw [hF.out,hG.out]
   clear std2_0 std2_1 std2_2 std2_3 std2_4 std2_5 std2_6 std2_8 std2_9
   refine wpAnyH_ready (rs:=[10,13]) (by kernel_rfl) (by simp) ?_
   refine arC qd2x10 (k5 _) (fun e w1 ⟨he,hb⟩=>⟨_,he,below_next hS hb,dagW hG (std2_7.out w1 g12 (below_next hS hb) (r12.still hb) G12) (hF.out _ _ _ _ _ _)⟩) ?_
   refine arN qd2x13 hS (fun w1 g13 G13 lg hb rr hS1=>dagW hG (std2_10.out w1 g12 g13 hS1 (r12.still hb) rr G12 G13 (ne_l r12 lg)) (hF.out _ _ _ _ _ _)) ?_
   exact AllReadyH.nil)
  have std2_12:Hid (∀ (cur:World) (g13:Nat),Below Vd2_.heap.size Vd2_ cur→RW cur g13 0 (c4 (0))→Vd2_.heap.size≤g13→G 5 #[true,true,true,true,true,true,true,true,true,true,false,false,false,true,false,false] (F undef (pA g13 0) (numV zz) (numV t0) u30 u31) cur):=Hid.mk' (by
   intro cur g13 hS r13 G13
   rw [hF.out,hG.out]
   clear std2_0 std2_1 std2_2 std2_3 std2_4 std2_5 std2_6 std2_7 std2_9 std2_11
   refine wpAnyH_ready (rs:=[10,12]) (by kernel_rfl) (by simp) ?_
   refine arC qd2x10 (k5 _) (fun e w1 ⟨he,hb⟩=>⟨_,he,below_next hS hb,dagW hG (std2_8.out w1 g13 (below_next hS hb) (r13.still hb) G13) (hF.out _ _ _ _ _ _)⟩) ?_
   refine arN qd2x12 hS (fun w1 g12 G12 lg hb rr hS1=>dagW hG (std2_10.out w1 g12 g13 hS1 rr (r13.still hb) G12 G13 (ne_r r13 lg)) (hF.out _ _ _ _ _ _)) ?_
   exact AllReadyH.nil)
  have std2_13:Hid (∀ (cur:World),Below Vd2_.heap.size Vd2_ cur→G 6 #[true,true,true,true,true,true,true,true,true,true,false,false,false,false,false,false] (F undef undef (numV zz) (numV t0) u30 u31) cur):=Hid.mk' (by
   intro cur  hS 
   rw [hF.out,hG.out]
   clear std2_0 std2_1 std2_2 std2_3 std2_4 std2_5 std2_6 std2_7 std2_8 std2_10
   refine wpAnyH_ready (rs:=[10,12,13]) (by kernel_rfl) (by simp) ?_
   refine arC qd2x10 (k5 _) (fun e w1 ⟨he,hb⟩=>⟨_,he,below_next hS hb,dagW hG (std2_9.out w1  (below_next hS hb) ) (hF.out _ _ _ _ _ _)⟩) ?_
   refine arN qd2x12 hS (fun w1 g12 G12 lg hb rr hS1=>dagW hG (std2_11.out w1 g12 hS1 rr G12) (hF.out _ _ _ _ _ _)) ?_
   refine arN qd2x13 hS (fun w1 g13 G13 lg hb rr hS1=>dagW hG (std2_12.out w1 g13 hS1 rr G13) (hF.out _ _ _ _ _ _)) ?_
   exact AllReadyH.nil)
  have std2_14:Hid (∀ (cur:World) (g12 g13:Nat),Below Vd2_.heap.size Vd2_ cur→RW cur g12 0 (c4 (0))→RW cur g13 0 (c4 (0))→Vd2_.heap.size≤g12→Vd2_.heap.size≤g13→g12≠g13→G 5 #[true,true,true,true,true,true,true,true,true,false,false,false,true,true,false,false] (F (pA g12 0) (pA g13 0) (numV zz) u29 u30 u31) cur):=Hid.mk' (by
   intro cur g12 g13 hS r12 r13 G12 G13 d12_13
   rw [hF.out,hG.out]
   clear std2_0 std2_1 std2_2 std2_3 std2_4 std2_5 std2_6 std2_7 std2_8 std2_9 std2_11 std2_12 std2_13
   refine wpAnyH_ready (rs:=[9]) (by kernel_rfl) (by simp) ?_
   refine arC qd2x9 (k4 _) (fun e w1 ⟨he,hb⟩=>⟨_,he,below_next hS hb,dagW hG (std2_10.out w1 g12 g13 (below_next hS hb) (r12.still hb) (r13.still hb) G12 G13 d12_13) (hF.out _ _ _ _ _ _)⟩) ?_
   exact AllReadyH.nil)
  have std2_15:Hid (∀ (cur:World) (g12:Nat),Below Vd2_.heap.size Vd2_ cur→RW cur g12 0 (c4 (0))→Vd2_.heap.size≤g12→G 6 #[true,true,true,true,true,true,true,true,true,false,false,false,true,false,false,false] (F (pA g12 0) undef (numV zz) u29 u30 u31) cur):=Hid.mk' (by
   intro cur g12 hS r12 G12
   rw [hF.out,hG.out]
   clear std2_0 std2_1 std2_2 std2_3 std2_4 std2_5 std2_6 std2_7 std2_8 std2_9 std2_10 std2_12 std2_13
   refine wpAnyH_ready (rs:=[9,13]) (by kernel_rfl) (by simp) ?_
   refine arC qd2x9 (k4 _) (fun e w1 ⟨he,hb⟩=>⟨_,he,below_next hS hb,dagW hG (std2_11.out w1 g12 (below_next hS hb) (r12.still hb) G12) (hF.out _ _ _ _ _ _)⟩) ?_
   refine arN qd2x13 hS (fun w1 g13 G13 lg hb rr hS1=>dagW hG (std2_14.out w1 g12 g13 hS1 (r12.still hb) rr G12 G13 (ne_l r12 lg)) (hF.out _ _ _ _ _ _)) ?_
   exact AllReadyH.nil)
  have std2_16:Hid (∀ (cur:World) (g13:Nat),Below Vd2_.heap.size Vd2_ cur→RW cur g13 0 (c4 (0))→Vd2_.heap.size≤g13→G 6 #[true,true,true,true,true,true,true,true,true,false,false,false,false,true,false,false] (F undef (pA g13 0) (numV zz) u29 u30 u31) cur):=Hid.mk' (by
   intro cur g13 hS r13 G13
   rw [hF.out,hG.out]
   clear std2_0 std2_1 std2_2 std2_3 std2_4 std2_5 std2_6 std2_7 std2_8 std2_9 std2_10 std2_11 std2_13 std2_15
   refine wpAnyH_ready (rs:=[9,12]) (by kernel_rfl) (by simp) ?_
   refine arC qd2x9 (k4 _) (fun e w1 ⟨he,hb⟩=>⟨_,he,below_next hS hb,dagW hG (std2_12.out w1 g13 (below_next hS hb) (r13.still hb) G13) (hF.out _ _ _ _ _ _)⟩) ?_
   refine arN qd2x12 hS (fun w1 g12 G12 lg hb rr hS1=>dagW hG (std2_14.out w1 g12 g13 hS1 rr (r13.still hb) G12 G13 (ne_r r13 lg)) (hF.out _ _ _ _ _ _)) ?_
   exact AllReadyH.nil)
  have std2_17:Hid (∀ (cur:World),Below Vd2_.heap.size Vd2_ cur→G 7 #[true,true,true,true,true,true,true,true,true,false,false,false,false,false,false,false] (F undef undef (numV zz) u29 u30 u31) cur):=Hid.mk' (by
   intro cur  hS 
   rw [hF.out,hG.out]
   clear std2_0 std2_1 std2_2 std2_3 std2_4 std2_5 std2_6 std2_7 std2_8 std2_9 std2_10 std2_11 std2_12 std2_14
   refine wpAnyH_ready (rs:=[9,12,13]) (by kernel_rfl) (by simp) ?_
   refine arC qd2x9 (k4 _) (fun e w1 ⟨he,hb⟩=>⟨_,he,below_next hS hb,dagW hG (std2_13.out w1  (below_next hS hb) ) (hF.out _ _ _ _ _ _)⟩) ?_
   refine arN qd2x12 hS (fun w1 g12 G12 lg hb rr hS1=>dagW hG (std2_15.out w1 g12 hS1 rr G12) (hF.out _ _ _ _ _ _)) ?_
   refine arN qd2x13 hS (fun w1 g13 G13 lg hb rr hS1=>dagW hG (std2_16.out w1 g13 hS1 rr G13) (hF.out _ _ _ _ _ _)) ?_
   exact AllReadyH.nil)
  have std2_18:Hid (∀ (cur:World) (g12 g13:Nat),Below Vd2_.heap.size Vd2_ cur→RW cur g12 0 (c4 (0))→RW cur g13 0 (c4 (0))→Vd2_.heap.size≤g12→Vd2_.heap.size≤g13→g12≠g13→G 6 #[true,true,true,true,false,true,true,true,true,false,false,false,true,true,false,false] (F (pA g12 0) (pA g13 0) u24 u29 u30 u31) cur):=Hid.mk' (by
   intro cur g12 g13 hS r12 r13 G12 G13 d12_13
   rw [hF.out,hG.out]
   clear std2_0 std2_1 std2_2 std2_3 std2_4 std2_5 std2_6 std2_7 std2_8 std2_9 std2_10 std2_11 std2_12 std2_13 std2_15 std2_16 std2_17
   refine wpAnyH_ready (rs:=[4]) (by kernel_rfl) (by simp) ?_
   refine arC qd2x4 (k3 _) (fun e w1 ⟨he,hb⟩=>⟨_,he,below_next hS hb,dagW hG (std2_14.out w1 g12 g13 (below_next hS hb) (r12.still hb) (r13.still hb) G12 G13 d12_13) (hF.out _ _ _ _ _ _)⟩) ?_
   exact AllReadyH.nil)
  have std2_19:Hid (∀ (cur:World) (g12:Nat),Below Vd2_.heap.size Vd2_ cur→RW cur g12 0 (c4 (0))→Vd2_.heap.size≤g12→G 7 #[true,true,true,true,false,true,true,true,true,false,false,false,true,false,false,false] (F (pA g12 0) undef u24 u29 u30 u31) cur):=Hid.mk' (by
   intro cur g12 hS r12 G12
   rw [hF.out,hG.out]
   clear std2_0 std2_1 std2_2 std2_3 std2_4 std2_5 std2_6 std2_7 std2_8 std2_9 std2_10 std2_11 std2_12 std2_13 std2_14 std2_16 std2_17
   refine wpAnyH_ready (rs:=[4,13]) (by kernel_rfl) (by simp) ?_
   refine arC qd2x4 (k3 _) (fun e w1 ⟨he,hb⟩=>⟨_,he,below_next hS hb,dagW hG (std2_15.out w1 g12 (below_next hS hb) (r12.still hb) G12) (hF.out _ _ _ _ _ _)⟩) ?_
   refine arN qd2x13 hS (fun w1 g13 G13 lg hb rr hS1=>dagW hG (std2_18.out w1 g12 g13 hS1 (r12.still hb) rr G12 G13 (ne_l r12 lg)) (hF.out _ _ _ _ _ _)) ?_
   exact AllReadyH.nil)
  have std2_20:Hid (∀ (cur:World) (g13:Nat),Below Vd2_.heap.size Vd2_ cur→RW cur g13 0 (c4 (0))→Vd2_.heap.size≤g13→G 7 #[true,true,true,true,false,true,true,true,true,false,false,false,false,true,false,false] (F undef (pA g13 0) u24 u29 u30 u31) cur):=Hid.mk' (by
   intro cur g13 hS r13 G13
   rw [hF.out,hG.out]
   clear std2_0 std2_1 std2_2 std2_3 std2_4 std2_5 std2_6 std2_7 std2_8 std2_9 std2_10 std2_11 std2_12 std2_13 std2_14 std2_15 std2_17 std2_19
   refine wpAnyH_ready (rs:=[4,12]) (by kernel_rfl) (by simp) ?_
   refine arC qd2x4 (k3 _) (fun e w1 ⟨he,hb⟩=>⟨_,he,below_next hS hb,dagW hG (std2_16.out w1 g13 (below_next hS hb) (r13.still hb) G13) (hF.out _ _ _ _ _ _)⟩) ?_
   refine arN qd2x12 hS (fun w1 g12 G12 lg hb rr hS1=>dagW hG (std2_18.out w1 g12 g13 hS1 rr (r13.still hb) G12 G13 (ne_r r13 lg)) (hF.out _ _ _ _ _ _)) ?_
   exact AllReadyH.nil)
  have std2_21:Hid (∀ (cur:World),Below Vd2_.heap.size Vd2_ cur→G 8 #[true,true,true,true,false,true,true,true,true,false,false,false,false,false,false,false] (F undef undef u24 u29 u30 u31) cur):=Hid.mk' (by
   intro cur  hS 
   rw [hF.out,hG.out]
   clear std2_0 std2_1 std2_2 std2_3 std2_4 std2_5 std2_6 std2_7 std2_8 std2_9 std2_10 std2_11 std2_12 std2_13 std2_14 std2_15 std2_16 std2_18
   refine wpAnyH_ready (rs:=[4,12,13]) (by kernel_rfl) (by simp) ?_
   refine arC qd2x4 (k3 _) (fun e w1 ⟨he,hb⟩=>⟨_,he,below_next hS hb,dagW hG (std2_17.out w1  (below_next hS hb) ) (hF.out _ _ _ _ _ _)⟩) ?_
   refine arN qd2x12 hS (fun w1 g12 G12 lg hb rr hS1=>dagW hG (std2_19.out w1 g12 hS1 rr G12) (hF.out _ _ _ _ _ _)) ?_
   refine arN qd2x13 hS (fun w1 g13 G13 lg hb rr hS1=>dagW hG (std2_20.out w1 g13 hS1 rr G13) (hF.out _ _ _ _ _ _)) ?_
   exact AllReadyH.nil)
  rw [hG.out]
  exact dagW hG (std2_21.out Vd2_ hS) (hF.out _ _ _ _ _ _)
 case rest =>
 obtain ⟨b7,b8,rfl,rfl,hb1,B7,B8,h7,h8⟩:=hcut
 have lt4:=hres.lt
 have n74:b7≠g4:=by omega
 have n84:b8≠g4:=by omega
 clear lt4 B7 B8 k3 k4 k5 k6 pZ pT qZ qT
 replace pX:=pX.still hb1
 replace pY:=pY.still hb1
 replace qX:=qX.still hb1
 replace qY:=qY.still hb1
 replace hres:=hres.still hb1
 replace h5:=h5.still hb1
 replace h6:=h6.still hb1
 obtain ⟨U2,hU⟩:∃ W,W=wc:=⟨_,rfl⟩
 rw [←hU]
 rw [←hU] at pX pY qX qY hres h5 h6 h7 h8 hb1
 replace hbW:=below_next hbW hb1
 clear hU hb1
 go_upto_region 3 with (fail)
 go_cut [9] from 10 (fun s9 wc=>∃ h9:Nat,s9 = .pointer (some ⟨h9,0,none⟩)∧Below U2.heap.size U2 wc∧U2.heap.size≤h9∧RW wc h9 0 (c4 cr))
 case first =>
  clear k12 k13 k14 k15 hres h7 h8 hbW
  have hdrew:Below U2.heap.size U2 U2.drew:=(Below.refl _ _).drew
  replace pX:=pX.still hdrew
  replace pY:=pY.still hdrew
  replace qX:=qX.still hdrew
  replace qY:=qY.still hdrew
  replace h5:=h5.still hdrew
  replace h6:=h6.still hdrew
  refine wp_region_noPanic ?_
  refine wp_region_held_drew (S:=fun w'=>Below U2.drew.heap.size U2.drew w') (by kernel_rfl) (Below.refl _ _) (fun hS => ?_)
  generalize U2.drew=Vd3_ at *
  refine tkH 0 (oN 32 (Op.fieldAddr 53 (oT 2) 0) 0 "curve.go:56" #[]) (pA g2 0) hS yR ?_
  (try simp only [pS])
  refine tkH 1 (oN 33 (Op.load 51 (oT 32)) 51 "curve.go:56" #[jD 0]) (numV px) hS (ldN pX 32) ?_
  (try simp only [pS])
  refine tkH 2 (oN 34 (Op.fieldAddr 53 (oT 2) 1) 0 "curve.go:56" #[]) (pA g2 4) hS yR ?_
  (try simp only [pS])
  refine tkH 3 (oN 35 (Op.load 51 (oT 34)) 51 "curve.go:56" #[jD 2]) (numV py) hS (ldN pY 34) ?_
  (try simp only [pS])
  refine tkH 5 (oN 37 (Op.fieldAddr 53 (oT 3) 0) 0 "curve.go:56" #[]) (pA g3 0) hS yR ?_
  (try simp only [pS])
  refine tkH 6 (oN 38 (Op.load 51 (oT 37)) 51 "curve.go:56" #[jD 5]) (numV qx) hS (ldN qX 37) ?_
  (try simp only [pS])
  refine tkH 7 (oN 39 (Op.fieldAddr 53 (oT 3) 1) 0 "curve.go:56" #[]) (pA g3 4) hS yR ?_
  (try simp only [pS])
  refine tkH 8 (oN 40 (Op.load 51 (oT 39)) 51 "curve.go:56" #[jD 7]) (numV qy) hS (ldN qY 39) ?_
  (try simp only [pS])
  refine tkH 11 (oN 43 (Op.load 51 (oT 5)) 51 "curve.go:56" #[]) (numV xx) hS (ldN h5 5) ?_
  (try simp only [pS])
  refine tkH 13 (oN 45 (Op.load 51 (oT 6)) 51 "curve.go:56" #[]) (numV yy) hS (ldN h6 6) ?_
  (try simp only [pS])
  refine dag_root (fun G hG0 => ?_)
  have hG:=Hid.mk' hG0
  clear hG0
  obtain ⟨F,hF0⟩:∃ F:Value→Value→Value→Value→Value→Value→Act,∀ v9 v36 v41 v42 v44 v46,F v9 v36 v41 v42 v44 v46={ tmps:=#[.agg (p16 px py pz pt).toArray,.agg (p16 qx qy qz qt).toArray,pA g2 0,pA g3 0,pA g4 0,pA b5 0,pA b6 0,pA b7 0,pA b8 0,v9,u10,u11,u12,u13,u14,u15,u16,u17,u18,u19,u20,u21,u22,u23,u24,u25,u26,u27,u28,u29,u30,u31,pA g2 0,numV px,pA g2 4,numV py,v36,pA g3 0,numV qx,pA g3 4,numV qy,v41,v42,numV xx,v44,numV yy,v46,u47,u48,u49,u50,u51,u52,u53,u54,u55,u56,u57],defers:=[] }:=⟨_,fun _ _ _ _ _ _=>rfl⟩
  have hF:=Hid.mk' hF0
  clear hF0
  have std3_0:Hid (∀ (cur:World) (g15:Nat),Below Vd3_.heap.size Vd3_ cur→RW cur g15 0 (c4 (cr))→Vd3_.heap.size≤g15→G 0 #[true,true,true,true,true,true,true,true,true,true,true,true,true,true,true,true,true] (F (pA g15 0) (numV f1) (numV f2) (numV f3) (numV f4) (numV cr)) cur):=Hid.mk' (by
   intro cur g15 hS r15 G15
   rw [hF.out,hG.out]
   refine wpAnyH_done (by kernel_rfl) ?_ _
   refine NoPanic.normal ?_
   go_wp2
   go_meet
   case rel=>exact ⟨g15,rfl,below_next hdrew hS,Nat.le_trans hdrew.size G15,r15⟩)
  have std3_1:Hid (∀ (cur:World) (g15:Nat),Below Vd3_.heap.size Vd3_ cur→RW cur g15 0 (c4 (0))→Vd3_.heap.size≤g15→G 1 #[true,true,true,true,true,true,true,true,true,true,true,true,true,true,true,true,false] (F (pA g15 0) (numV f1) (numV f2) (numV f3) (numV f4) (numV cr)) cur):=Hid.mk' (by
   intro cur g15 hS r15 G15
   rw [hF.out,hG.out]
   refine wpAnyH_ready (rs:=[16]) (by kernel_rfl) (by simp) ?_
   refine arS qd3x16 9 46 (cr) r15 hS G15 (fun w1 rr hS1 far=>dagW hG (std3_0.out w1 g15 hS1 rr G15) (hF.out _ _ _ _ _ _)) ?_
   exact AllReadyH.nil)
  have std3_2:Hid (∀ (cur:World),Below Vd3_.heap.size Vd3_ cur→G 2 #[true,true,true,true,true,true,true,true,true,true,true,true,true,true,true,false,false] (F undef (numV f1) (numV f2) (numV f3) (numV f4) (numV cr)) cur):=Hid.mk' (by
   intro cur  hS 
   rw [hF.out,hG.out]
   clear std3_0
   refine wpAnyH_ready (rs:=[15]) (by kernel_rfl) (by simp) ?_
   refine arN qd3x15 hS (fun w1 g15 G15 lg hb rr hS1=>dagW hG (std3_1.out w1 g15 hS1 rr G15) (hF.out _ _ _ _ _ _)) ?_
   exact AllReadyH.nil)
  have std3_3:Hid (∀ (cur:World) (g15:Nat),Below Vd3_.heap.size Vd3_ cur→RW cur g15 0 (c4 (0))→Vd3_.heap.size≤g15→G 2 #[true,true,true,true,true,true,true,true,true,true,true,true,true,true,false,true,false] (F (pA g15 0) (numV f1) (numV f2) (numV f3) (numV f4) u46) cur):=Hid.mk' (by
   intro cur g15 hS r15 G15
   rw [hF.out,hG.out]
   clear std3_0 std3_2
   refine wpAnyH_ready (rs:=[14]) (by kernel_rfl) (by simp) ?_
   refine arC qd3x14 (k11 _) (fun e w1 ⟨he,hb⟩=>⟨_,he,below_next hS hb,dagW hG (std3_1.out w1 g15 (below_next hS hb) (r15.still hb) G15) (hF.out _ _ _ _ _ _)⟩) ?_
   exact AllReadyH.nil)
  have std3_4:Hid (∀ (cur:World),Below Vd3_.heap.size Vd3_ cur→G 3 #[true,true,true,true,true,true,true,true,true,true,true,true,true,true,false,false,false] (F undef (numV f1) (numV f2) (numV f3) (numV f4) u46) cur):=Hid.mk' (by
   intro cur  hS 
   rw [hF.out,hG.out]
   clear std3_0 std3_1
   refine wpAnyH_ready (rs:=[14,15]) (by kernel_rfl) (by simp) ?_
   refine arC qd3x14 (k11 _) (fun e w1 ⟨he,hb⟩=>⟨_,he,below_next hS hb,dagW hG (std3_2.out w1  (below_next hS hb) ) (hF.out _ _ _ _ _ _)⟩) ?_
   refine arN qd3x15 hS (fun w1 g15 G15 lg hb rr hS1=>dagW hG (std3_3.out w1 g15 hS1 rr G15) (hF.out _ _ _ _ _ _)) ?_
   exact AllReadyH.nil)
  have std3_5:Hid (∀ (cur:World) (g15:Nat),Below Vd3_.heap.size Vd3_ cur→RW cur g15 0 (c4 (0))→Vd3_.heap.size≤g15→G 3 #[true,true,true,true,true,true,true,true,true,true,true,true,false,true,false,true,false] (F (pA g15 0) (numV f1) (numV f2) (numV f3) u44 u46) cur):=Hid.mk' (by
   intro cur g15 hS r15 G15
   rw [hF.out,hG.out]
   clear std3_0 std3_1 std3_2 std3_4
   refine wpAnyH_ready (rs:=[12]) (by kernel_rfl) (by simp) ?_
   refine arC qd3x12 (k10 _) (fun e w1 ⟨he,hb⟩=>⟨_,he,below_next hS hb,dagW hG (std3_3.out w1 g15 (below_next hS hb) (r15.still hb) G15) (hF.out _ _ _ _ _ _)⟩) ?_
   exact AllReadyH.nil)
  have std3_6:Hid (∀ (cur:World),Below Vd3_.heap.size Vd3_ cur→G 4 #[true,true,true,true,true,true,true,true,true,true,true,true,false,true,false,false,false] (F undef (numV f1) (numV f2) (numV f3) u44 u46) cur):=Hid.mk' (by
   intro cur  hS 
   rw [hF.out,hG.out]
   clear std3_0 std3_1 std3_2 std3_3
   refine wpAnyH_ready (rs:=[12,15]) (by kernel_rfl) (by simp) ?_
   refine arC qd3x12 (k10 _) (fun e w1 ⟨he,hb⟩=>⟨_,he,below_next hS hb,dagW hG (std3_4.out w1  (below_next hS hb) ) (hF.out _ _ _ _ _ _)⟩) ?_
   refine arN qd3x15 hS (fun w1 g15 G15 lg hb rr hS1=>dagW hG (std3_5.out w1 g15 hS1 rr G15) (hF.out _ _ _ _ _ _)) ?_
   exact AllReadyH.nil)
  have std3_7:Hid (∀ (cur:World) (g15:Nat),Below Vd3_.heap.size Vd3_ cur→RW cur g15 0 (c4 (0))→Vd3_.heap.size≤g15→G 4 #[true,true,true,true,true,true,true,true,true,true,false,true,false,true,false,true,false] (F (pA g15 0) (numV f1) (numV f2) u42 u44 u46) cur):=Hid.mk' (by
   intro cur g15 hS r15 G15
   rw [hF.out,hG.out]
   clear std3_0 std3_1 std3_2 std3_3 std3_4 std3_6
   refine wpAnyH_ready (rs:=[10]) (by kernel_rfl) (by simp) ?_
   refine arC qd3x10 (k9 _) (fun e w1 ⟨he,hb⟩=>⟨_,he,below_next hS hb,dagW hG (std3_5.out w1 g15 (below_next hS hb) (r15.still hb) G15) (hF.out _ _ _ _ _ _)⟩) ?_
   exact AllReadyH.nil)
  have std3_8:Hid (∀ (cur:World),Below Vd3_.heap.size Vd3_ cur→G 5 #[true,true,true,true,true,true,true,true,true,true,false,true,false,true,false,false,false] (F undef (numV f1) (numV f2) u42 u44 u46) cur):=Hid.mk' (by
   intro cur  hS 
   rw [hF.out,hG.out]
   clear std3_0 std3_1 std3_2 std3_3 std3_4 std3_5
   refine wpAnyH_ready (rs:=[10,15]) (by kernel_rfl) (by simp) ?_
   refine arC qd3x10 (k9 _) (fun e w1 ⟨he,hb⟩=>⟨_,he,below_next hS hb,dagW hG (std3_6.out w1  (below_next hS hb) ) (hF.out _ _ _ _ _ _)⟩) ?_
   refine arN qd3x15 hS (fun w1 g15 G15 lg hb rr hS1=>dagW hG (std3_7.out w1 g15 hS1 rr G15) (hF.out _ _ _ _ _ _)) ?_
   exact AllReadyH.nil)
  have std3_9:Hid (∀ (cur:World) (g15:Nat),Below Vd3_.heap.size Vd3_ cur→RW cur g15 0 (c4 (0))→Vd3_.heap.size≤g15→G 5 #[true,true,true,true,true,true,true,true,true,false,false,true,false,true,false,true,false] (F (pA g15 0) (numV f1) u41 u42 u44 u46) cur):=Hid.mk' (by
   intro cur g15 hS r15 G15
   rw [hF.out,hG.out]
   clear std3_0 std3_1 std3_2 std3_3 std3_4 std3_5 std3_6 std3_8
   refine wpAnyH_ready (rs:=[9]) (by kernel_rfl) (by simp) ?_
   refine arC qd3x9 (k8 _) (fun e w1 ⟨he,hb⟩=>⟨_,he,below_next hS hb,dagW hG (std3_7.out w1 g15 (below_next hS hb) (r15.still hb) G15) (hF.out _ _ _ _ _ _)⟩) ?_
   exact AllReadyH.nil)
  have std3_10:Hid (∀ (cur:World),Below Vd3_.heap.size Vd3_ cur→G 6 #[true,true,true,true,true,true,true,true,true,false,false,true,false,true,false,false,false] (F undef (numV f1) u41 u42 u44 u46) cur):=Hid.mk' (by
   intro cur  hS 
   rw [hF.out,hG.out]
   clear std3_0 std3_1 std3_2 std3_3 std3_4 std3_5 std3_6 std3_7
   refine wpAnyH_ready (rs:=[9,15]) (by kernel_rfl) (by simp) ?_
   refine arC qd3x9 (k8 _) (fun e w1 ⟨he,hb⟩=>⟨_,he,below_next hS hb,dagW hG (std3_8.out w1  (below_next hS hb) ) (hF.out _ _ _ _ _ _)⟩) ?_
   refine arN qd3x15 hS (fun w1 g15 G15 lg hb rr hS1=>dagW hG (std3_9.out w1 g15 hS1 rr G15) (hF.out _ _ _ _ _ _)) ?_
   exact AllReadyH.nil)
  have std3_11:Hid (∀ (cur:World) (g15:Nat),Below Vd3_.heap.size Vd3_ cur→RW cur g15 0 (c4 (0))→Vd3_.heap.size≤g15→G 6 #[true,true,true,true,false,true,true,true,true,false,false,true,false,true,false,true,false] (F (pA g15 0) u36 u41 u42 u44 u46) cur):=Hid.mk' (by
   intro cur g15 hS r15 G15
   rw [hF.out,hG.out]
   clear std3_0 std3_1 std3_2 std3_3 std3_4 std3_5 std3_6 std3_7 std3_8 std3_10
   refine wpAnyH_ready (rs:=[4]) (by kernel_rfl) (by simp) ?_
   refine arC qd3x4 (k7 _) (fun e w1 ⟨he,hb⟩=>⟨_,he,below_next hS hb,dagW hG (std3_9.out w1 g15 (below_next hS hb) (r15.still hb) G15) (hF.out _ _ _ _ _ _)⟩) ?_
   exact AllReadyH.nil)
  have std3_12:Hid (∀ (cur:World),Below Vd3_.heap.size Vd3_ cur→G 7 #[true,true,true,true,false,true,true,true,true,false,false,true,false,true,false,false,false] (F undef u36 u41 u42 u44 u46) cur):=Hid.mk' (by
   intro cur  hS 
   rw [hF.out,hG.out]
   clear std3_0 std3_1 std3_2 std3_3 std3_4 std3_5 std3_6 std3_7 std3_8 std3_9
   refine wpAnyH_ready (rs:=[4,15]) (by kernel_rfl) (by simp) ?_
   refine arC qd3x4 (k7 _) (fun e w1 ⟨he,hb⟩=>⟨_,he,below_next hS hb,dagW hG (std3_10.out w1  (below_next hS hb) ) (hF.out _ _ _ _ _ _)⟩) ?_
   refine arN qd3x15 hS (fun w1 g15 G15 lg hb rr hS1=>dagW hG (std3_11.out w1 g15 hS1 rr G15) (hF.out _ _ _ _ _ _)) ?_
   exact AllReadyH.nil)
  rw [hG.out]
  exact dagW hG (std3_12.out Vd3_ hS) (hF.out _ _ _ _ _ _)
 case rest =>
 obtain ⟨b9,rfl,hb1,B9,h9⟩:=hcut
 have lt4:=hres.lt
 have n94:b9≠g4:=by omega
 clear lt4 B9 k7 k8 k9 k10 k11 pX pY qX qY
 replace hres:=hres.still hb1
 replace h5:=h5.still hb1
 replace h6:=h6.still hb1
 replace h7:=h7.still hb1
 replace h8:=h8.still hb1
 obtain ⟨U3,hU⟩:∃ W,W=wc:=⟨_,rfl⟩
 rw [←hU]
 rw [←hU] at hres h5 h6 h7 h8 h9 hb1
 replace hbW:=below_next hbW hb1
 clear hU hb1
 go_upto_region 4 with (fail)
 have l4:=hres.lt
 have hdrew:Below U3.heap.size U3 U3.drew:=(Below.refl _ _).drew
 replace hres:=hres.still hdrew
 replace h5:=h5.still hdrew
 replace h6:=h6.still hdrew
 replace h7:=h7.still hdrew
 replace h8:=h8.still hdrew
 replace h9:=h9.still hdrew
 refine wp_region_noPanic ?_
 replace l4:=Nat.lt_of_lt_of_le l4 hdrew.size
 refine wp_region_held_drew (S:=fun w'=>Out g4 0 16 U3.drew w') (by kernel_rfl) (Out.refl _ _ _ _) (fun hS => ?_)
 generalize U3.drew=Vd4_ at *
 refine tkH 0 (oN 47 (Op.load 51 (oT 9)) 51 "curve.go:57" #[]) (numV cr) hS (ldO h9 n94 51 9 Tryz.underlying51 info4) ?_
 (try simp only [pS])
 refine tkH 1 (oN 48 (Op.load 51 (oT 7)) 51 "curve.go:57" #[]) (numV zz) hS (ldO h7 n74 51 7 Tryz.underlying51 info4) ?_
 (try simp only [pS])
 refine tkH 2 (oN 49 (Op.load 51 (oT 8)) 51 "curve.go:57" #[]) (numV tt) hS (ldO h8 n84 51 8 Tryz.underlying51 info4) ?_
 (try simp only [pS])
 refine tkH 4 (oN 51 (Op.load 51 (oT 6)) 51 "curve.go:57" #[]) (numV yy) hS (ldO h6 n64 51 6 Tryz.underlying51 info4) ?_
 (try simp only [pS])
 refine tkH 5 (oN 52 (Op.load 51 (oT 5)) 51 "curve.go:57" #[]) (numV xx) hS (ldO h5 n54 51 5 Tryz.underlying51 info4) ?_
 (try simp only [pS])
 refine tkH 7 (oN 54 (Op.load 51 (oT 7)) 51 "curve.go:57" #[]) (numV zz) hS (ldO h7 n74 51 7 Tryz.underlying51 info4) ?_
 (try simp only [pS])
 refine tkH 8 (oN 55 (Op.load 51 (oT 8)) 51 "curve.go:57" #[]) (numV tt) hS (ldO h8 n84 51 8 Tryz.underlying51 info4) ?_
 (try simp only [pS])
 refine callH 3 (oN 50 (cF1 104 #[oT 48,oT 49] #[51,51]) 51 "curve.go:57" #[jD 1,jD 2]) (k12 _) ?_
 (rintro e wd4_1 ⟨rfl,hbd4_1⟩)
 have hSd4_1:=hS.trans (Out.of_below hbd4_1 l4)
 replace l4:=Nat.lt_of_lt_of_le l4 hbd4_1.size
 replace hres:=hres.still hbd4_1
 refine ⟨_,rfl,hSd4_1,?_⟩
 clear hbd4_1
 (try simp only [pS])
 refine callH 6 (oN 53 (cF1 104 #[oT 51,oT 52] #[51,51]) 51 "curve.go:57" #[jD 4,jD 5,jC 3]) (k13 _) ?_
 (rintro e wd4_2 ⟨rfl,hbd4_2⟩)
 have hSd4_2:=hSd4_1.trans (Out.of_below hbd4_2 l4)
 replace l4:=Nat.lt_of_lt_of_le l4 hbd4_2.size
 replace hres:=hres.still hbd4_2
 refine ⟨_,rfl,hSd4_2,?_⟩
 clear hbd4_2
 (try simp only [pS])
 refine callH 9 (oN 56 (cF1 63 #[oT 54,oT 55] #[51,51]) 51 "curve.go:57" #[jD 7,jD 8,jC 6]) (k14 _) ?_
 (rintro e wd4_3 ⟨rfl,hbd4_3⟩)
 have hSd4_3:=hSd4_2.trans (Out.of_below hbd4_3 l4)
 replace l4:=Nat.lt_of_lt_of_le l4 hbd4_3.size
 replace hres:=hres.still hbd4_3
 refine ⟨_,rfl,hSd4_3,?_⟩
 clear hbd4_3
 (try simp only [pS])
 refine callH 10 (oN 57 (cF1 106 #[oT 47,oT 50,oT 53,oT 56] #[51,51,51,51]) 53 "curve.go:57" #[jD 0,jD 3,jD 6,jD 9,jC 9]) (k15 _) ?_
 (rintro e wd4_4 ⟨rfl,hbd4_4⟩)
 have hSd4_4:=hSd4_3.trans (Out.of_below hbd4_4 l4)
 replace l4:=Nat.lt_of_lt_of_le l4 hbd4_4.size
 replace hres:=hres.still hbd4_4
 refine ⟨_,rfl,hSd4_4,?_⟩
 clear hbd4_4
 (try simp only [pS])
 refine wpAnyH_ready (rs:=[11]) (by kernel_rfl) (by simp) ?_
 refine AllReadyH.cons (o:=qd4x11) rfl (fun K hK => ?_) (AllReadyH.nil)
 unfold qd4x11
 rw [if_pos (by rfl)]
 refine wp_store_mid 53 _ _ rfl g4 0 (p16 o1 o2 o3 o4).toArray rfl rfl (thr16 hres _ _ _ _) (info16A _ _ _ _) (one16 _ _ _ _) ?_
 have hSd4_5:=hSd4_4.trans (Out.setCells (b:=g4) (o:=0) (n:=16) wd4_4 (p16 o1 o2 o3 o4) (Nat.le_refl _) (by rw [p16_len];exact Nat.le_refl _))
 replace hres:=hres.stored (p16 o1 o2 o3 o4) (p16_same _ _ _ _ _ _ _ _)
 obtain ⟨wd4_5,hwd4_5⟩:∃ W,wd4_4.setCells g4 0 (p16 o1 o2 o3 o4)=W:=⟨_,rfl⟩
 rw [hwd4_5] at hres
 rw [hwd4_5] at hSd4_5
 rw [show wd4_4.setCells g4 0 (p16 o1 o2 o3 o4).toArray.toList=wd4_5 from hwd4_5]
 refine hK.out _ _ hSd4_5 (fun h => ?_)
 clear h hK K hwd4_5
 (try dsimp only [Act.put])
 refine wpAnyH_done (by kernel_rfl) ?_ _
 refine NoPanic.normal ?_
 clear k12 k13 k14 k15
 have fin:=(hbW.trans (hdrew.mono hbW.size)).trans (hSd4_5.below w4 (Nat.le_trans hbW.size hdrew.size))
 go_wp2
 exact bodyPost_ret (results_cell_mid Tryz.results66 _ _ g4 0 (p16 o1 o2 o3 o4) _ rfl hres.range Tryz.underlying53 rfl (info16 _ _ _ _)) rfl ⟨rfl,fin⟩
end Go.Proofs.YtdgkmloabificaaGreatDoor
namespace Go.Proofs.YtdgkmloabificaaGreatDoor
open Go.RowKit
structure W6 (p:N4) (P:Fp × Fp):Prop where
 ok:p.Ok
 on:On dE P
 ext:Ext4 p P
def R6 (c:List Value) (P:Fp × Fp):Prop:=∃ p:N4,c=p16 p.X p.Y p.Z p.T∧p.Ok∧On dE P∧((p.X=0∧p.Y=0∧p.Z=0∧p.T=0∧P=ezero)∨Ext4 p P)
theorem W6.r6 {p:N4} {P:Fp × Fp} (h:W6 p P):R6 (p16 p.X p.Y p.Z p.T) P:=⟨p,rfl,h.ok,h.on,.inr h.ext⟩
theorem R6.len {c:List Value} {P:Fp × Fp} (h:R6 c P):c.length=16:=by obtain ⟨p,rfl,-⟩:=h;rfl
theorem R6.one {c:List Value} {P:Fp × Fp} (h:R6 c P):c.toArray.all (·.oneCell')=true:=by obtain ⟨p,rfl,-⟩:=h;exact one16 _ _ _ _
theorem R6.on {c:List Value} {P:Fp × Fp} (h:R6 c P):On dE P:=by obtain ⟨p,-,-,h,-⟩:=h;exact h
theorem r6_zero:R6 (p16 0 0 0 0) ezero:=⟨⟨0,0,0,0⟩,rfl,⟨by decide,by decide,by decide,by decide⟩,ezero_on dE,.inl ⟨rfl,rfl,rfl,rfl,rfl⟩⟩
theorem fmul_comm (a b:Nat):fmul a b=fmul b a:=by unfold fmul;rw [Nat.mul_comm]
theorem padd_pt {p q:N4} {P Q:Fp × Fp} (hp:W6 p P) (hq:W6 q Q) (w:World) :
 Calls Tryz.prog 66 #[pV p.X p.Y p.Z p.T,pV q.X q.Y q.Z q.T] w fun e w'=>∃ r:N4,e = .returned (pV r.X r.Y r.Z r.T)∧W6 r (eadd dE P Q)∧Below w.heap.size w w':=by
 have hr:W6 (addN dN p q) (eadd dE P Q):=⟨addN_ok _ _ _,eadd_on ns_dE hp.on hq.on,addN_ext hp.on hq.on hp.ext hq.ext⟩
 refine (add_raw p.X p.Y p.Z p.T q.X q.Y q.Z q.T dN _ _ _ _ _ _ _ _ _ _ _ _ _ _ _ _ _
  (fun W=>times_any _ _ hp.ok.X hq.ok.X W) (fun W=>times_any _ _ hp.ok.Y hq.ok.Y W) (fun W=>times_any _ _ hp.ok.Z hq.ok.Z W) (fun W=>times_any _ _ hp.ok.T hq.ok.T W) (fun W=>curveD_any W) (fun W=>times_any _ _ (fmul_lt _ _) dN_lt W)
  (fun W=>plus_any _ _ hp.ok.X hp.ok.Y W) (fun W=>plus_any _ _ hq.ok.X hq.ok.Y W) (fun W=>times_any _ _ (fadd_lt _ _) (fadd_lt _ _) W) (fun W=>minus_any _ _ (fmul_lt _ _) (fmul_lt _ _) W) (fun W=>minus_any _ _ (fsub_lt _ _) (fmul_lt _ _) W)
  (fun W=>plus_any _ _ (fmul_lt _ _) (fmul_lt _ _) W) (fun W=>plus_any _ _ (fmul_lt _ _) (fmul_lt _ _) W) (fun W=>minus_any _ _ (fmul_lt _ _) (fmul_lt _ _) W)
  (fun W=>quot_any _ _ _ _ (fsub_lt _ _) (fadd_lt _ _) (fadd_lt _ _) (fsub_lt _ _) W) w).mono ?_
 rintro e w' ⟨rfl,hb⟩
 refine ⟨addN dN p q,?_,hr,hb⟩
 show Ending.returned (pV (fmul (subXY p q) (fsub (fmul p.Z q.Z) (fmul (fmul p.T q.T) dN))) (fmul (fadd (fmul p.Y q.Y) (fmul p.X q.X)) (fadd (fmul p.Z q.Z) (fmul (fmul p.T q.T) dN))) (fmul (fadd (fmul p.Z q.Z) (fmul (fmul p.T q.T) dN)) (fsub (fmul p.Z q.Z) (fmul (fmul p.T q.T) dN))) (fmul (subXY p q) (fadd (fmul p.Y q.Y) (fmul p.X q.X))))=_
 rw [fmul_comm (fadd (fmul p.Y q.Y) (fmul p.X q.X)) (fadd (fmul p.Z q.Z) (fmul (fmul p.T q.T) dN)),fmul_comm (fadd (fmul p.Z q.Z) (fmul (fmul p.T q.T) dN)) (fsub (fmul p.Z q.Z) (fmul (fmul p.T q.T) dN))]
 rfl
section
variable {n:Nat} [NeZero n]
theorem tw_g {a b c:Fin n} (h:b=a*(1+c)):a+a - b=a*(1-c):=by rw [h];clear h;grind
theorem tw_f {i x y r:Fin n} (h:i*(x*y+y*x)=r):i*(x*y+x*y)=r:=by rw [←h];clear h;grind
end
theorem ext_dbl {D:Fp} (hD:NS D) {P:Fp × Fp} (hP:On D P) {X Y Z T:Fp} (h:Ext X Y Z T P) :
 Ext ((X*Y+X*Y)*(Z*Z+Z*Z - (Y*Y - X*X))) ((Y*Y - X*X)*(Y*Y+X*X)) ((Z*Z+Z*Z - (Y*Y - X*X))*(Y*Y - X*X)) ((X*Y+X*Y)*(Y*Y+X*X)) (eadd D P P):=by
 have k:=h.k
 have hh:Y*Y - X*X=Z*Z*(1+D*P.1*P.1*P.2*P.2):=by
  rw [s_dbl1 iI_sq k.1 h.y]
  congr 1
  exact s_on hP
 refine ext_of hD hP hP (fp_ne h.z h.z) ?_ ?_ hh ?_
 · exact tw_f (s_f h.x h.y h.x h.y)
 · exact tw_g hh
 · exact s_s iI_sq k.1 h.y k.1 h.y
def dblN (p:N4):N4 :=
 ⟨fmul (fadd (fmul p.X p.Y) (fmul p.X p.Y)) (fsub (fadd (fmul p.Z p.Z) (fmul p.Z p.Z)) (fsub (fmul p.Y p.Y) (fmul p.X p.X))),
  fmul (fadd (fmul p.Y p.Y) (fmul p.X p.X)) (fsub (fmul p.Y p.Y) (fmul p.X p.X)),
  fmul (fsub (fmul p.Y p.Y) (fmul p.X p.X)) (fsub (fadd (fmul p.Z p.Z) (fmul p.Z p.Z)) (fsub (fmul p.Y p.Y) (fmul p.X p.X))),
  fmul (fadd (fmul p.X p.Y) (fmul p.X p.Y)) (fadd (fmul p.Y p.Y) (fmul p.X p.X))⟩
theorem dblN_ext {p:N4} {P:Fp × Fp} (hP:On dE P) (h:Ext4 p P):Ext4 (dblN p) (eadd dE P P):=by
 have e:=ext_dbl ns_dE hP h
 unfold Ext4 dblN
 rw [fmul_comm (fadd (fmul p.Y p.Y) (fmul p.X p.X)),fmul_comm (fsub (fmul p.Y p.Y) (fmul p.X p.X)) (fsub (fadd (fmul p.Z p.Z) (fmul p.Z p.Z)) (fsub (fmul p.Y p.Y) (fmul p.X p.X)))]
 simp only [cF_mul,cF_add,cF_sub _ _ (fmul_lt _ _),cF_sub _ _ (fsub_lt _ _)]
 exact e
theorem ptwice_pt {p:N4} {P:Fp × Fp} (hp:W6 p P) (w:World) :
 Calls Tryz.prog 88 #[pV p.X p.Y p.Z p.T] w fun e w'=>∃ r:N4,e = .returned (pV r.X r.Y r.Z r.T)∧W6 r (eadd dE P P)∧Below w.heap.size w w':=by
 have hr:W6 (dblN p) (eadd dE P P):=⟨⟨fmul_lt _ _,fmul_lt _ _,fmul_lt _ _,fmul_lt _ _⟩,eadd_on ns_dE hp.on hp.on,dblN_ext hp.on hp.ext⟩
 refine (twice_raw p.X p.Y p.Z p.T _ _ _ _ _ _ _ _ _ _ _ _ _
  (fun W=>times_any _ _ hp.ok.X hp.ok.X W) (fun W=>times_any _ _ hp.ok.Y hp.ok.Y W) (fun W=>times_any _ _ hp.ok.Z hp.ok.Z W) (fun W=>times_any _ _ hp.ok.X hp.ok.Y W)
  (fun W=>minus_any _ _ (fmul_lt _ _) (fmul_lt _ _) W) (fun W=>plus_any _ _ (fmul_lt _ _) (fmul_lt _ _) W) (fun W=>plus_any _ _ (fmul_lt _ _) (fmul_lt _ _) W) (fun W=>plus_any _ _ (fmul_lt _ _) (fmul_lt _ _) W) (fun W=>minus_any _ _ (fadd_lt _ _) (fsub_lt _ _) W)
  (fun W=>quot_any _ _ _ _ (fadd_lt _ _) (fsub_lt _ _) (fadd_lt _ _) (fsub_lt _ _) W) w).mono ?_
 rintro e w' ⟨rfl,hb⟩
 exact ⟨dblN p,rfl,hr,hb⟩
theorem zero_at:fmul 0 1=0:=by decide
theorem z_ne {p:N4} {P:Fp × Fp} (h:Ext4 p P):(decide (p.X=0) && decide (p.Y=0) && decide (p.Z=0) && decide (p.T=0))=false:=by
 have hz:p.Z≠0:=fun e=>h.z (by rw [e];exact cF_zero)
 rw [decide_eq_false hz,Bool.and_false,Bool.false_and]
set_option maxRecDepth 20000 in
set_option maxHeartbeats 4000000 in
theorem pwhole_pt {c:List Value} {P:Fp × Fp} (h:R6 c P) (w:World) :
 Calls Tryz.prog 50 #[.agg c.toArray] w fun e w'=>∃ r:N4,e = .returned (.agg (p16 r.X r.Y r.Z r.T).toArray)∧W6 r P∧Below w.heap.size w w':=by
 obtain ⟨p,rfl,hok,hon,hd⟩:=h
 have hzp:=zeroP
 obtain ⟨V1,g1,eg1,hg1,bg1,hp⟩:∃ V g,w.alloc (.cells (p16 p.X p.Y p.Z p.T).toArray 53)=V∧w.heap.size=g∧Below w.heap.size w V∧RW V g 0 (p16 p.X p.Y p.Z p.T):=⟨_,_,rfl,rfl,(Below.refl _ _).alloc (Nat.le_refl _) _,RW.fresh w _ _⟩
 obtain ⟨W,g2,eg2,hg2,bg2,hres⟩:=fresh16 V1
 have t1:V1.heap.size=w.heap.size+1:=by rw [←eg1];simp
 have HW:Hid (W=(w.alloc (.cells (p16 p.X p.Y p.Z p.T).toArray 53)).alloc (.cells zP 53)):=Hid.mk' (by rw [←eg2,←eg1])
 have q1:Hid (w.heap.size=g1):=Hid.mk' hg1
 have q2:Hid (w.heap.size+1=g2):=Hid.mk' (by omega)
 replace hp:=hp.still bg2
 have hbW:Below w.heap.size w W:=bg1.trans (bg2.mono (by omega))
 have w2:w.heap.size≤g2:=by omega
 clear eg1 eg2 hg1 hg2 bg1 bg2 t1 V1
 rcases hd with ⟨e0,e1,e2,e3,eP⟩ | hx
 · have hz:(decide (p.X=0) && decide (p.Y=0) && decide (p.Z=0) && decide (p.T=0))=true:=by rw [e0,e1,e2,e3];rfl
   have c1:∀ W,Calls Tryz.prog 89 #[.int .i64 1] W fun e w'=>e = .returned (.agg (c4 1).toArray)∧Below W.heap.size W w':=fsmall_pos 1 (by decide)
   have ca:∀ W,Calls Tryz.prog 47 #[.agg (c4 0).toArray,.agg (c4 1).toArray] W fun e w'=>e = .returned (.agg (p16 0 1 1 0).toArray)∧Below W.heap.size W w':=fun W=>by
    have k:=pat_any 0 1 (by decide) (by decide) W
    rw [zero_at] at k
    exact k
   subst eP
   have Hz:=Hid.mk' hz
   clear e0 e1 e2 e3 hz
   go_enter Tryz.func50,Tryz.ntmps50
   go_wp2_with (first
    | (rw [←HW.out,q2.out,q1.out];refine wpList_load_mid rfl 53 _ rfl g1 0 rfl (p16 p.X p.Y p.Z p.T) _ hp.range Tryz.underlying53 rfl (info16 _ _ _ _) ?_;clear HW q1 q2)
    | (refine wpList_build0 rfl 53 rfl _ builtP0 ?_)
    | (refine wpList_eqp rfl _ _ _ rfl p hok rfl rfl true Hz.out ?_;clear Hz)
    | (refine wpList_build0 rfl 51 rfl _ built0 ?_)
    | (go_at_call 89;refine (c1 _).mono ?_;clear c1;rintro e w1 ⟨rfl,hb1⟩;(replace hres:=hres.still hb1);(replace hbW:=below_next hbW hb1);clear hb1)
    | (go_at_call 47;refine (ca _).mono ?_;clear ca;rintro e w2' ⟨rfl,hb2⟩;(replace hres:=hres.still hb2);(replace hbW:=below_next hbW hb2);clear hb2;(have t6:w2'.there g2 0 (p16 0 1 1 0).toArray.size:=thr16 hres _ _ _ _))
    | (with_reducible (refine id (?_:wpList _ _ _ _ _ _));refine wpList_store_mid rfl 53 _ _ rfl g2 0 (p16 0 1 1 0).toArray rfl rfl t6 (info16A _ _ _ _) (one16 _ _ _ _) ?_))
   (try simp only [Exit.inBlock,Exit.then])
   exact bodyPost_ret (results_cell_mid Tryz.results50 _ _ g2 0 (p16 0 1 1 0) _ rfl (hres.stored (p16 0 1 1 0) (p16_same _ _ _ _ _ _ _ _)).range Tryz.underlying53 rfl (info16 _ _ _ _)) rfl ⟨zeroN,rfl,⟨zeroN_ok,hon,zeroN_ext⟩,below_setCells w2 _ _ _ hbW⟩
 · have hz:=z_ne hx
   have Hz:=Hid.mk' hz
   clear hz
   have t6:W.there g2 0 (p16 p.X p.Y p.Z p.T).toArray.size:=thr16 hres _ _ _ _
   go_enter Tryz.func50,Tryz.ntmps50
   go_wp2_with (first
    | (rw [←HW.out,q2.out,q1.out];refine wpList_load_mid rfl 53 _ rfl g1 0 rfl (p16 p.X p.Y p.Z p.T) _ hp.range Tryz.underlying53 rfl (info16 _ _ _ _) ?_;clear HW q1 q2)
    | (refine wpList_load_mid rfl 53 _ rfl g1 0 rfl (p16 p.X p.Y p.Z p.T) _ hp.range Tryz.underlying53 rfl (info16 _ _ _ _) ?_)
    | (refine wpList_build0 rfl 53 rfl _ builtP0 ?_)
    | (refine wpList_eqp rfl _ _ _ rfl p hok rfl rfl false Hz.out ?_;clear Hz)
    | (with_reducible (refine id (?_:wpList _ _ _ _ _ _));refine wpList_store_mid rfl 53 _ _ rfl g2 0 (p16 p.X p.Y p.Z p.T).toArray rfl rfl t6 (info16A _ _ _ _) (one16 _ _ _ _) ?_))
   (try simp only [Exit.inBlock,Exit.then])
   exact bodyPost_ret (results_cell_mid Tryz.results50 _ _ g2 0 (p16 p.X p.Y p.Z p.T) _ rfl (hres.stored (p16 p.X p.Y p.Z p.T) (p16_same _ _ _ _ _ _ _ _)).range Tryz.underlying53 rfl (info16 _ _ _ _)) rfl ⟨p,rfl,⟨hok,hon,hx⟩,below_setCells w2 _ _ _ hbW⟩
end Go.Proofs.YtdgkmloabificaaGreatDoor
namespace Go.Proofs.YtdgkmloabificaaGreatDoor
open Go.RowKit
set_option maxRecDepth 20000 in
set_option maxHeartbeats 4000000 in
theorem peqb_any {w:World} {v u:Value} {S T:ByteArray} (hv:Str w v S) (hu:Str w u T) :
 Calls Tryz.prog 64 #[v,u] w fun e w'=>e = .returned (.bool (S.toList == T.toList))∧Below w.heap.size w w':=by
 have q1:=hv.conv w (Below.refl _ _)
 have q2:=hu.conv w (Below.refl _ _)
 obtain ⟨x1,n1,k1,rfl⟩:=hv.form
 obtain ⟨x2,n2,k2,rfl⟩:=hu.form
 clear hv hu
 go_enter Tryz.func64,Tryz.ntmps64
 go_wp2
 go_ret
 exact ⟨rfl,Below.refl _ _⟩
theorem num_str {a b:Nat} (ha:a<pF) (hb:b<pF):((strB 32 (byt a)).toList == (strB 32 (byt b)).toList)=decide (a=b):=by
 by_cases h:a=b
 · subst h;rw [decide_eq_true rfl];exact beq_self_eq_true _
 · rw [decide_eq_false h,ByteArray.toList_eq,ByteArray.toList_eq]
   exact beq_false_of_ne (fun e=>h (val_of_byt ha hb ((strB_eq (byt_all a) (byt_all b)).1 (WideShapes.bytes_inj e)).2))
theorem bytes_str (n:Nat) (w:World):Calls Tryz.prog 92 #[numV n] w fun e w'=>∃ v,e = .returned v∧Str w' v (strB 32 (byt n))∧Below w.heap.size w w' :=
 (bytes_any n w).mono fun _ _ ⟨g,he,hg,hr,hb⟩=>⟨_,he,Str.of (NewB.bytes ⟨g,rfl,hg,hr⟩ (by decide)) (byt_all n),hb⟩
set_option maxRecDepth 20000 in
set_option maxHeartbeats 4000000 in
theorem pequal_any (a b:Nat) (ha:a<pF) (hb:b<pF) (w:World) :
 Calls Tryz.prog 65 #[numV a,numV b] w fun e w'=>e = .returned (.bool (decide (a=b)))∧Below w.heap.size w w':=by
 have hse:=num_str ha hb
 have cB1:=bytes_str a
 have cB2:=bytes_str b
 generalize strB 32 (byt a)=Sa at *
 generalize strB 32 (byt b)=Sb at *
 rw [←hse]
 have Hs:=Hid.mk' hse
 clear hse ha hb
 obtain ⟨hA,hB⟩:=two_rows w (c4 a) (c4 b) 51
 obtain ⟨W,hW⟩:∃ W,W=(w.alloc (.cells (c4 a).toArray 51)).alloc (.cells (c4 b).toArray 51):=⟨_,rfl⟩
 have hw:Below w.heap.size w W:=by rw [hW];exact ((Below.refl _ _).alloc (Nat.le_refl _) _).alloc (by simp) _
 rw [←hW] at hA hB
 have HW:=Hid.mk' hW
 obtain ⟨g2,hg2⟩:∃ g,w.heap.size=g:=⟨_,rfl⟩
 obtain ⟨g3,hg3⟩:∃ g,w.heap.size+1=g:=⟨_,rfl⟩
 rw [hg2] at hA
 rw [hg3] at hB
 have H2:=Hid.mk' hg2
 have H3:=Hid.mk' hg3
 clear hW hg2 hg3
 rw [show numV a = .agg (c4 a).toArray from rfl,show numV b = .agg (c4 b).toArray from rfl]
 go_enter Tryz.func65,Tryz.ntmps65
 go_wp2
 rw [←HW.out,H3.out,H2.out]
 clear HW H2 H3 Hs
 have hdrew:Below W.heap.size W W.drew:=(Below.refl _ _).drew
 replace hA:=hA.still hdrew
 replace hB:=hB.still hdrew
 replace hw:=below_next hw hdrew
 clear hdrew
 refine wp_region_noPanic ?_
 refine wp_region_held_drew (S:=fun w'=>Below W.drew.heap.size W.drew w') (by kernel_rfl) (Below.refl _ _) (fun hHeld => ?_)
 clear hHeld
 refine tkH 0 (oN 5 (Op.load 51 (oT 2)) 51 "curve.go:103" #[]) (numV a) bR (ldH hA 51 2 Tryz.underlying51 info4) ?_
 (try simp only [pS])
 refine tkH 2 (oN 7 (Op.load 51 (oT 3)) 51 "curve.go:103" #[]) (numV b) bR (ldH hB 51 3 Tryz.underlying51 info4) ?_
 (try simp only [pS])
 refine callN 1 (oN 6 (cF1 92 #[oT 5] #[51]) 22 "curve.go:103" #[jD 0]) (cB1 _) ?_
 (clear cB1;rintro e w1 ⟨v1,rfl,t1,hb1⟩;(obtain ⟨x1,n1,k1,rfl⟩:=t1.form))
 refine ⟨_,rfl,hb1,?_⟩
 clear hA
 replace hB:=hB.still hb1
 replace hw:=below_next hw hb1
 clear hb1
 (try simp only [pS])
 refine callN 3 (oN 8 (cF1 92 #[oT 7] #[51]) 22 "curve.go:103" #[jD 2,jC 1]) (cB2 _) ?_
 (clear cB2;rintro e w2 ⟨v2,rfl,t2,hb2⟩;(obtain ⟨x2,n2,k2,rfl⟩:=t2.form))
 refine ⟨_,rfl,hb2,?_⟩
 clear hB
 replace t1:=t1.still hb2
 replace hw:=below_next hw hb2
 clear hb2
 (try simp only [pS])
 refine callN 4 (oN 9 (cF1 64 #[oT 6,oT 8] #[22,22]) 4 "curve.go:103" #[jD 1,jD 3,jC 3]) (peqb_any t1 t2) ?_
 (rintro e w3 ⟨rfl,hb3⟩)
 refine ⟨_,rfl,hb3,?_⟩
 clear t1
 clear t2
 replace hw:=below_next hw hb3
 clear hb3
 (try simp only [pS])
 refine tkH 5 (oN 4 (Op.assign (oT 9)) 4 "curve.go:103" #[jD 4,jC 4,jP 0,jP 1,jP 2,jP 3,jP 4]) ?va5 bR (Or.inl ⟨by rfl,?ha5⟩) ?ra5
 case ha5 =>
  intro w hSw
  go_simp
  try with_reducible rfl
 (try simp only [pS])
 refine wpAnyH_done (by kernel_rfl) ?_ _
 refine NoPanic.normal ?_
 go_wp2
 go_ret
 exact ⟨rfl,hw⟩
theorem byt0_odd {x:Nat} (h:x%2=1):bits .and .u8 (byt x 0:Int) 1=1:=by
 rw [and1_u8 (byt x 0) (byt_lt x 0),byt0_mod x,h];rfl
theorem byt0_even {x:Nat} (h:x%2=0):bits .and .u8 (byt x 0:Int) 1=0:=by
 rw [and1_u8 (byt x 0) (byt_lt x 0),byt0_mod x,h];rfl
theorem or_high {y:Nat} (hy:y<pF):bits .or .u8 (byt y 31:Int) 128=((byt y 31+128:Nat):Int):=by
 have:=enc_bit (byt y 31) (byt31_lt hy) 1 (by decide)
 exact this
set_option maxRecDepth 20000 in
set_option maxHeartbeats 4000000 in
theorem bytesOf_any (x y:Nat) (hy:y<pF) (w:World) :
 Calls Tryz.prog 52 #[numV x,numV y] w fun e w'=>∃ s,e = .returned s∧NewC w w' s 32 (encXY x y)∧Below w.heap.size w w':=by
 have e3:=or_high hy
 have cy:∀ W,Calls Tryz.prog 92 #[.agg (c4 y).toArray] W fun e w'=>∃ g,e = .returned (.slice (some ⟨g,0,none⟩) 32 32)∧W.heap.size≤g∧RowAt .u8 w' g 0 32 (byt y)∧Below W.heap.size W w':=bytes_any y
 have cx:∀ W,Calls Tryz.prog 92 #[.agg (c4 x).toArray] W fun e w'=>∃ g,e = .returned (.slice (some ⟨g,0,none⟩) 32 32)∧W.heap.size≤g∧RowAt .u8 w' g 0 32 (byt x)∧Below W.heap.size W w':=bytes_any x
 obtain ⟨hA,hB⟩:=two_rows w (c4 x) (c4 y) 51
 obtain ⟨W,hW⟩:∃ W,W=(w.alloc (.cells (c4 x).toArray 51)).alloc (.cells (c4 y).toArray 51):=⟨_,rfl⟩
 have hw:Below w.heap.size w W:=by rw [hW];exact ((Below.refl _ _).alloc (Nat.le_refl _) _).alloc (by simp) _
 rw [←hW] at hA hB
 have HW:=Hid.mk' hW
 obtain ⟨g2,hg2⟩:∃ g,w.heap.size=g:=⟨_,rfl⟩
 obtain ⟨g3,hg3⟩:∃ g,w.heap.size+1=g:=⟨_,rfl⟩
 rw [hg2] at hA
 rw [hg3] at hB
 have H2:=Hid.mk' hg2
 have H3:=Hid.mk' hg3
 clear hW hg2 hg3
 rw [show numV x = .agg (c4 x).toArray from rfl,show numV y = .agg (c4 y).toArray from rfl]
 go_enter Tryz.func52,Tryz.ntmps52
 rcases Nat.mod_two_eq_zero_or_one x with hp | hp
 · have e1:=byt0_even hp
   go_wp2_with (first
    | (rw [←HW.out,H3.out,H2.out];refine wpList_load_mid rfl 51 _ rfl g3 0 rfl (c4 y) _ hB.range Tryz.underlying51 rfl info4 ?_;clear HW H2 H3)
    | (go_at_call 92;refine (cy _).mono ?_;clear cy hB;rintro e w1 ⟨gy,rfl,hgy,ry,hb1⟩;(have sb:=hw.size);(replace hA:=hA.still hb1);(replace hw:=below_next hw hb1);clear hb1;(have lgy:=block_lt_of_cell (ry 0 (by decide)).1);(have wgy:w.heap.size≤gy:=Nat.le_trans sb hgy);clear sb)
    | (refine wpList_load_mid rfl 51 _ rfl g2 0 rfl (c4 x) _ hA.range Tryz.underlying51 rfl info4 ?_)
    | (go_at_call 92;refine (cx _).mono ?_;clear cx hA;rintro e w2 ⟨gx,rfl,hgx,rx,hb2⟩;(replace ry:=ry.below hb2 lgy);(replace hw:=below_next hw hb2);clear hb2;(have c0:=(rx 0 (by decide)).1);rw [Nat.zero_add] at c0))
   go_ret
   refine ⟨_,rfl,⟨gy,32,rfl,Nat.le_refl _,wgy,ry.congr fun j hj => ?_⟩,hw⟩
   unfold encXY
   rw [hp]
   split
   · next h=>rw [h,Nat.mul_zero,Nat.add_zero]
   · rfl
 · have e1:=byt0_odd hp
   go_wp2_with (first
    | (rw [←HW.out,H3.out,H2.out];refine wpList_load_mid rfl 51 _ rfl g3 0 rfl (c4 y) _ hB.range Tryz.underlying51 rfl info4 ?_;clear HW H2 H3)
    | (go_at_call 92;refine (cy _).mono ?_;clear cy hB;rintro e w1 ⟨gy,rfl,hgy,ry,hb1⟩;(have sb:=hw.size);(replace hA:=hA.still hb1);(replace hw:=below_next hw hb1);clear hb1;(have lgy:=block_lt_of_cell (ry 0 (by decide)).1);(have wgy:w.heap.size≤gy:=Nat.le_trans sb hgy);clear sb)
    | (refine wpList_load_mid rfl 51 _ rfl g2 0 rfl (c4 x) _ hA.range Tryz.underlying51 rfl info4 ?_)
    | (go_at_call 92;refine (cx _).mono ?_;clear cx hA;rintro e w2 ⟨gx,rfl,hgx,rx,hb2⟩;(replace ry:=ry.below hb2 lgy);(replace hw:=below_next hw hb2);clear hb2;(have c0:=(rx 0 (by decide)).1);rw [Nat.zero_add] at c0;(have c31:=(ry 31 (by decide)).1);rw [Nat.zero_add] at c31;(have f31:=(ry 31 (by decide)).2);rw [Nat.zero_add] at f31))
   have r31:=ry.set (i:=31) (by decide) (v:=(byt y 31:Int)+128) (u:=byt y 31+128) (Int.natCast_add _ _).symm
   rw [Nat.zero_add] at r31
   go_ret
   refine ⟨_,rfl,⟨gy,32,rfl,Nat.le_refl _,wgy,r31.congr fun j hj => ?_⟩,?_⟩
   · unfold upd encXY
     rw [hp]
   · exact below_setCells wgy [_] 31 _ hw
end Go.Proofs.YtdgkmloabificaaGreatDoor
namespace Go.Proofs.YtdgkmloabificaaGreatDoor
open Go.RowKit
abbrev qm1x5:Oper:=oS (Op.store 53 (oT 4) (oT 9)) "point.go:57" #[jD 4,jC 4,jP 0,jP 1,jP 2,jP 3,jP 4]
set_option maxRecDepth 20000 in
set_option maxHeartbeats 4000000 in
theorem pzero_pt (w:World):Calls Tryz.prog 120 #[] w fun e w'=>e = .returned (.agg (p16 0 0 0 0).toArray)∧Below w.heap.size w w':=by
 have hzp:=zeroP
 obtain ⟨W,g,eW,hg,b,h0⟩:=fresh16 w
 have HW:Hid (w.alloc (.cells zP 53)=W):=Hid.mk' eW
 have Hg:Hid (w.heap.size=g):=Hid.mk' hg
 have wg:w.heap.size≤g:=Nat.le_of_eq hg
 have t0:W.there g 0 (p16 0 0 0 0).toArray.size:=h0.there
 clear eW hg
 go_enter Tryz.func120,Tryz.ntmps120
 go_wp2_with (first
  | (refine wpList_build0 rfl 53 rfl _ builtP0 ?_)
  | (with_reducible (refine id (?_:wpList _ _ _ _ _ _));rw [HW.out,Hg.out];refine wpList_store_mid rfl 53 _ _ rfl g 0 (p16 0 0 0 0).toArray rfl rfl t0 (info16A _ _ _ _) (one16 _ _ _ _) ?_;clear HW Hg))
 (try simp only [Exit.inBlock,Exit.then])
 exact bodyPost_ret (results_cell_mid Tryz.results120 _ _ g 0 (p16 0 0 0 0) _ rfl (h0.stored (p16 0 0 0 0) rfl).range Tryz.underlying53 rfl (info16 _ _ _ _)) rfl ⟨rfl,below_setCells wg _ _ _ b⟩
theorem base_w6:W6 (ofXY xB yB) baseP:=⟨ofXY_ok xB_lt yB_lt,base_on,ofXY_ext _ _⟩
set_option maxRecDepth 20000 in
set_option maxHeartbeats 4000000 in
theorem pbase_pt (w:World):Calls Tryz.prog 21 #[] w fun e w'=>∃ c,e = .returned (.agg c.toArray)∧R6 c baseP∧Below w.heap.size w w':=by
 have hzp:=zeroP
 have hr:R6 (p16 xB yB 1 (fmul xB yB)) baseP:=base_w6.r6
 have cx:∀ W,Calls Tryz.prog 48 #[] W fun e w'=>e = .returned (.agg (c4 xB).toArray)∧Below W.heap.size W w':=baseX_any
 have cy:∀ W,Calls Tryz.prog 49 #[] W fun e w'=>e = .returned (.agg (c4 yB).toArray)∧Below W.heap.size W w':=baseY_any
 have ca:∀ W,Calls Tryz.prog 47 #[.agg (c4 xB).toArray,.agg (c4 yB).toArray] W fun e w'=>e = .returned (.agg (p16 xB yB 1 (fmul xB yB)).toArray)∧Below W.heap.size W w':=fun W=>pat_any xB yB xB_lt yB_lt W
 generalize fmul xB yB=tb at *
 generalize xB=xb at *
 generalize yB=yb at *
 generalize baseP=pb at *
 obtain ⟨W,g,eW,hg,b,h0⟩:=fresh16 w
 have HW:Hid (w.alloc (.cells zP 53)=W):=Hid.mk' eW
 have Hg:Hid (w.heap.size=g):=Hid.mk' hg
 have wg:w.heap.size≤g:=Nat.le_of_eq hg
 clear eW hg
 go_enter Tryz.func21,Tryz.ntmps21
 go_wp2_with (first
  | (go_at_call 48;rw [HW.out,Hg.out];refine (cx _).mono ?_;clear cx HW Hg;rintro e w1 ⟨rfl,hb1⟩;(replace h0:=h0.still hb1);(replace b:=below_next b hb1);clear hb1)
  | (go_at_call 49;refine (cy _).mono ?_;clear cy;rintro e w2 ⟨rfl,hb2⟩;(replace h0:=h0.still hb2);(replace b:=below_next b hb2);clear hb2)
  | (go_at_call 47;refine (ca _).mono ?_;clear ca;rintro e w3 ⟨rfl,hb3⟩;(replace h0:=h0.still hb3);(replace b:=below_next b hb3);clear hb3;(have t0:w3.there g 0 (p16 xb yb 1 tb).toArray.size:=h0.there))
  | (with_reducible (refine id (?_:wpList _ _ _ _ _ _));refine wpList_store_mid rfl 53 _ _ rfl g 0 (p16 xb yb 1 tb).toArray rfl rfl t0 (info16A _ _ _ _) (one16 _ _ _ _) ?_))
 (try simp only [Exit.inBlock,Exit.then])
 exact bodyPost_ret (results_cell_mid Tryz.results21 _ _ g 0 (p16 xb yb 1 tb) _ rfl (h0.stored (p16 xb yb 1 tb) rfl).range Tryz.underlying53 rfl (info16 _ _ _ _)) rfl ⟨_,rfl,hr,below_setCells wg _ _ _ b⟩
set_option maxRecDepth 20000 in
set_option maxHeartbeats 8000000 in
theorem pplus_pt {c d:List Value} {P Q:Fp × Fp} (hP:R6 c P) (hQ:R6 d Q) (w:World) :
 Calls Tryz.prog 30 #[.agg c.toArray,.agg d.toArray] w fun e w'=>∃ c',e = .returned (.agg c'.toArray)∧R6 c' (eadd dE P Q)∧Below w.heap.size w w':=by
 have hzp:=zeroP
 have kc:=fun W=>pwhole_pt hP W
 have kd:=fun W=>pwhole_pt hQ W
 have lc:=hP.len
 have ld:=hQ.len
 clear hP hQ
 obtain ⟨V1,g2,eg2,hg2,bg2,hc⟩:∃ V g,w.alloc (.cells c.toArray 53)=V∧w.heap.size=g∧Below w.heap.size w V∧RW V g 0 c:=⟨_,_,rfl,rfl,(Below.refl _ _).alloc (Nat.le_refl _) _,RW.fresh w _ _⟩
 obtain ⟨V2,g3,eg3,hg3,bg3,hd⟩:∃ V g,V1.alloc (.cells d.toArray 53)=V∧V1.heap.size=g∧Below V1.heap.size V1 V∧RW V g 0 d:=⟨_,_,rfl,rfl,(Below.refl _ _).alloc (Nat.le_refl _) _,RW.fresh V1 _ _⟩
 obtain ⟨W,g4,eg4,hg4,bg4,hres⟩:=fresh16 V2
 have t1:V1.heap.size=w.heap.size+1:=by rw [←eg2];simp
 have t2:V2.heap.size=V1.heap.size+1:=by rw [←eg3];simp
 have HW:Hid (W=((w.alloc (.cells c.toArray 53)).alloc (.cells d.toArray 53)).alloc (.cells zP 53)):=Hid.mk' (by rw [←eg4,←eg3,←eg2])
 have q2:Hid (w.heap.size=g2):=Hid.mk' hg2
 have q3:Hid (w.heap.size+1=g3):=Hid.mk' (by omega)
 have q4:Hid (w.heap.size+1+1=g4):=Hid.mk' (by omega)
 replace hc:=(hc.still bg3).still bg4
 replace hd:=hd.still bg4
 have hbW:Below w.heap.size w W:=(bg2.trans (bg3.mono (by omega))).trans (bg4.mono (by omega))
 have w4:w.heap.size≤g4:=by omega
 have n24:g2≠g4:=by omega
 have n34:g3≠g4:=by omega
 have l4:=hres.lt
 clear eg2 eg3 eg4 hg2 hg3 hg4 bg2 bg3 bg4 t1 t2 V1 V2
 go_enter Tryz.func30,Tryz.ntmps30
 go_upto_region 1 with (fail)
 rw [←HW.out,q4.out,q3.out,q2.out]
 clear HW q4 q3 q2
 have hdrew:Below W.heap.size W W.drew:=(Below.refl _ _).drew
 replace hc:=hc.still hdrew
 replace hd:=hd.still hdrew
 replace hres:=hres.still hdrew
 refine wp_region_noPanic ?_
 replace l4:=Nat.lt_of_lt_of_le l4 hdrew.size
 refine wp_region_held_drew (S:=fun w'=>Out g4 0 16 W.drew w') (by kernel_rfl) (Out.refl _ _ _ _) (fun hS => ?_)
 generalize W.drew=Vm1_ at *
 refine tkH 0 (oN 5 (Op.load 53 (oT 2)) 53 "point.go:57" #[]) (.agg c.toArray) hS (ldO hc n24 53 2 Tryz.underlying53 (infoP lc)) ?_
 (try simp only [pS])
 refine tkH 2 (oN 7 (Op.load 53 (oT 3)) 53 "point.go:57" #[]) (.agg d.toArray) hS (ldO hd n34 53 3 Tryz.underlying53 (infoP ld)) ?_
 (try simp only [pS])
 refine callH 1 (oN 6 (cF1 50 #[oT 5] #[53]) 53 "point.go:57" #[jD 0]) (kc _) ?_
 (clear kc;rintro e wm1_1 ⟨r1,rfl,hr1,hbm1_1⟩)
 have hSm1_1:=hS.trans (Out.of_below hbm1_1 l4)
 replace l4:=Nat.lt_of_lt_of_le l4 hbm1_1.size
 replace hres:=hres.still hbm1_1
 refine ⟨_,rfl,hSm1_1,?_⟩
 clear hbm1_1
 (try simp only [pS])
 refine callH 3 (oN 8 (cF1 50 #[oT 7] #[53]) 53 "point.go:57" #[jD 2,jC 1]) (kd _) ?_
 (clear kd;rintro e wm1_2 ⟨r2,rfl,hr2,hbm1_2⟩)
 have hSm1_2:=hSm1_1.trans (Out.of_below hbm1_2 l4)
 replace l4:=Nat.lt_of_lt_of_le l4 hbm1_2.size
 replace hres:=hres.still hbm1_2
 refine ⟨_,rfl,hSm1_2,?_⟩
 clear hbm1_2
 (try simp only [pS])
 refine callH 4 (oN 9 (cF1 66 #[oT 6,oT 8] #[53,53]) 53 "point.go:57" #[jD 1,jD 3,jC 3]) (padd_pt hr1 hr2 _) ?_
 (rintro e wm1_3 ⟨r3,rfl,hr3,hbm1_3⟩)
 have hSm1_3:=hSm1_2.trans (Out.of_below hbm1_3 l4)
 replace l4:=Nat.lt_of_lt_of_le l4 hbm1_3.size
 replace hres:=hres.still hbm1_3
 refine ⟨_,rfl,hSm1_3,?_⟩
 clear hbm1_3
 (try simp only [pS])
 refine wpAnyH_ready (rs:=[5]) (by kernel_rfl) (by simp) ?_
 refine AllReadyH.cons (o:=qm1x5) rfl (fun K hK => ?_) (AllReadyH.nil)
 unfold qm1x5
 rw [if_pos (by rfl)]
 refine wp_store_mid 53 _ _ rfl g4 0 (p16 r3.X r3.Y r3.Z r3.T).toArray rfl rfl (thr16 hres _ _ _ _) (info16A _ _ _ _) (one16 _ _ _ _) ?_
 have hSm1_4:=hSm1_3.trans (Out.setCells (b:=g4) (o:=0) (n:=16) wm1_3 (p16 r3.X r3.Y r3.Z r3.T) (Nat.le_refl _) (by rw [p16_len];exact Nat.le_refl _))
 replace hres:=hres.stored (p16 r3.X r3.Y r3.Z r3.T) (p16_same _ _ _ _ _ _ _ _)
 obtain ⟨wm1_4,hwm1_4⟩:∃ W,wm1_3.setCells g4 0 (p16 r3.X r3.Y r3.Z r3.T)=W:=⟨_,rfl⟩
 rw [hwm1_4] at hres
 rw [hwm1_4] at hSm1_4
 rw [show wm1_3.setCells g4 0 (p16 r3.X r3.Y r3.Z r3.T).toArray.toList=wm1_4 from hwm1_4]
 refine hK.out _ _ hSm1_4 (fun h => ?_)
 clear h hK K hwm1_4
 (try dsimp only [Act.put])
 refine wpAnyH_done (by kernel_rfl) ?_ _
 refine NoPanic.normal ?_
 have fin:=(hbW.trans (hdrew.mono hbW.size)).trans (hSm1_4.below w4 (Nat.le_trans hbW.size hdrew.size))
 go_wp2
 exact bodyPost_ret (results_cell_mid Tryz.results30 _ _ g4 0 (p16 r3.X r3.Y r3.Z r3.T) _ rfl hres.range Tryz.underlying53 rfl (info16 _ _ _ _)) rfl ⟨_,rfl,hr3.r6,fin⟩
end Go.Proofs.YtdgkmloabificaaGreatDoor
