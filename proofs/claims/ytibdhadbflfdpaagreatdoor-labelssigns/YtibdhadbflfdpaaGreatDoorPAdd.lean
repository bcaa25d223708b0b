/- What add of package point does in the model. -/
import Derived.Test.YtibdhadbflfdpaaGreatDoorPTw
namespace Go.Proofs.YtibdhadbflfdpaaGreatDoor
open Nat renaming le_refl → JW
open Nat renaming lt_of_lt_of_le → JX
open Nat renaming le_trans → JY
open Go renaming wpAnyH_ready → J1
open Go.AllReadyH renaming nil → J6
open Go.NoPanic renaming normal → J8
open Go.RowKit
abbrev Gq:Oper:=oS (Op.store 75 (oT 6) (oT 19)) "curve.go:54" #[jD 11,jD 9,jC 12,jP 0,jP 1,jP 2,jP 3,jP 4,jP 5,jP 6,jP 7,jP 8,jP 9,jP 10,jP 11,jP 12]
abbrev Hj:Oper:=oS (Op.store 75 (oT 5) (oT 14)) "curve.go:54" #[jD 10,jD 4,jC 9,jP 0,jP 1,jP 2,jP 3,jP 4,jT 5,jT 6,jT 7,jT 8,jU 9,jP 10,jP 11]
abbrev mr:Oper:=oN 6 (Op.alloc 75) 0 "curve.go:54" #[]
abbrev mi:Oper:=oN 5 (Op.alloc 75) 0 "curve.go:54" #[]
abbrev yD:Oper:=oN 19 (dA 98 #[oT 16,oT 18] #[75,75]) 75 "curve.go:54" #[jD 6,jD 8,jC 4]
abbrev yX:Oper:=oN 14 (dA 98 #[oT 11,oT 13] #[75,75]) 75 "curve.go:54" #[jD 1,jD 3]
abbrev Gu:Oper:=oS (Op.store 75 (oT 8) (oT 31)) "curve.go:55" #[jD 13,jD 11,jC 14,jP 0,jP 1,jP 2,jP 3,jP 4,jP 5,jP 6,jP 7,jP 8,jP 9,jP 10,jP 11,jP 12,jP 13,jP 14]
abbrev GY:Oper:=oS (Op.store 75 (oT 7) (oT 24)) "curve.go:55" #[jD 12,jD 4,jC 11,jP 0,jP 1,jP 2,jP 3,jP 4,jT 5,jT 6,jT 7,jT 8,jU 9,jU 10,jU 11,jP 12,jP 13]
abbrev gC:Oper:=oN 8 (Op.alloc 75) 0 "curve.go:55" #[]
abbrev gm:Oper:=oN 7 (Op.alloc 75) 0 "curve.go:55" #[]
abbrev sI:Oper:=oN 31 (dA 98 #[oT 29,oT 30] #[75,75]) 75 "curve.go:55" #[jD 9,jD 10,jC 10]
abbrev rW:Oper:=oN 30 (dA 174 #[] #[]) 75 "curve.go:55" #[jC 9]
abbrev yJ:Oper:=oN 29 (dA 98 #[oT 26,oT 28] #[75,75]) 75 "curve.go:55" #[jD 6,jD 8,jC 4]
abbrev yk:Oper:=oN 24 (dA 98 #[oT 21,oT 23] #[75,75]) 75 "curve.go:55" #[jD 1,jD 3]
abbrev GZ:Oper:=oS (Op.store 75 (oT 9) (oT 46)) "curve.go:56" #[jD 15,jD 14,jC 14,jP 0,jP 1,jP 2,jP 3,jP 4,jP 5,jP 6,jP 7,jP 8,jP 9,jP 10,jP 11,jP 12,jP 13,jP 14,jP 15]
abbrev lK:Oper:=oN 9 (Op.alloc 75) 0 "curve.go:56" #[]
abbrev C8:Oper:=oN 46 (dA 112 #[oT 44,oT 45] #[75,75]) 75 "curve.go:56" #[jD 12,jD 13,jC 12]
abbrev Bk:Oper:=oN 44 (dA 112 #[oT 42,oT 43] #[75,75]) 75 "curve.go:56" #[jD 10,jD 11,jC 10]
abbrev CT:Oper:=oN 42 (dA 98 #[oT 36,oT 41] #[75,75]) 75 "curve.go:56" #[jD 4,jD 9,jC 9]
abbrev Fs:Oper:=oN 41 (dA 175 #[oT 38,oT 40] #[75,75]) 75 "curve.go:56" #[jD 6,jD 8,jC 4]
abbrev Fk:Oper:=oN 36 (dA 175 #[oT 33,oT 35] #[75,75]) 75 "curve.go:56" #[jD 1,jD 3]
abbrev BS:Oper:=oS (Op.store 77 (oT 4) (oT 57)) "curve.go:57" #[jD 10,jC 10,jP 0,jP 1,jP 2,jP 3,jP 4,jP 5,jP 6,jP 7,jP 8,jP 9,jP 10]
set_option maxRecDepth 20000 in
set_option maxHeartbeats 16000000 in
theorem EK (px py pz pt qx qy qz qt dd xx yy zz t0 tt f1 f2 f3 f4 cr qb qc qd o1 o2 o3 o4:Nat)
 (k1:∀ W,Calls Tryz.prog 98 #[ag px,ag qx] W fun e w'=>e = .returned (ag xx)∧Below W.heap.size W w')
 (k2:∀ W,Calls Tryz.prog 98 #[ag py,ag qy] W fun e w'=>e = .returned (ag yy)∧Below W.heap.size W w')
 (k3:∀ W,Calls Tryz.prog 98 #[ag pz,ag qz] W fun e w'=>e = .returned (ag zz)∧Below W.heap.size W w')
 (k4:∀ W,Calls Tryz.prog 98 #[ag pt,ag qt] W fun e w'=>e = .returned (ag t0)∧Below W.heap.size W w')
 (k5:∀ W,Calls Tryz.prog 174 #[] W fun e w'=>e = .returned (ag dd)∧Below W.heap.size W w')
 (k6:∀ W,Calls Tryz.prog 98 #[ag t0,ag dd] W fun e w'=>e = .returned (ag tt)∧Below W.heap.size W w')
 (k7:∀ W,Calls Tryz.prog 175 #[ag px,ag py] W fun e w'=>e = .returned (ag f1)∧Below W.heap.size W w')
 (k8:∀ W,Calls Tryz.prog 175 #[ag qx,ag qy] W fun e w'=>e = .returned (ag f2)∧Below W.heap.size W w')
 (k9:∀ W,Calls Tryz.prog 98 #[ag f1,ag f2] W fun e w'=>e = .returned (ag f3)∧Below W.heap.size W w')
 (k10:∀ W,Calls Tryz.prog 112 #[ag f3,ag xx] W fun e w'=>e = .returned (ag f4)∧Below W.heap.size W w')
 (k11:∀ W,Calls Tryz.prog 112 #[ag f4,ag yy] W fun e w'=>e = .returned (ag cr)∧Below W.heap.size W w')
 (k12:∀ W,Calls Tryz.prog 175 #[ag zz,ag tt] W fun e w'=>e = .returned (ag qb)∧Below W.heap.size W w')
 (k13:∀ W,Calls Tryz.prog 175 #[ag yy,ag xx] W fun e w'=>e = .returned (ag qc)∧Below W.heap.size W w')
 (k14:∀ W,Calls Tryz.prog 112 #[ag zz,ag tt] W fun e w'=>e = .returned (ag qd)∧Below W.heap.size W w')
 (k15:∀ W,Calls Tryz.prog 177 #[ag cr,ag qb,ag qc,ag qd] W fun e w'=>e = .returned (pV o1 o2 o3 o4)∧Below W.heap.size W w')
 (w:World):Calls Tryz.prog 115 #[pV px py pz pt,pV qx qy qz qt] w fun e w'=>e = .returned (pV o1 o2 o3 o4)∧Below w.heap.size w w':=by
 have hzp:=eF
 obtain ⟨V1,g2,eg2,hg2,bg2,hp⟩:∃ V g,w.alloc (.cells (aw px py pz pt).toArray 77)=V∧w.heap.size=g∧Below w.heap.size w V∧RW V g 0 (aw px py pz pt):=⟨_,_,rfl,rfl,(Below.refl _ _).alloc (JW _) _,RW.fresh w _ _⟩
 obtain ⟨V2,g3,eg3,hg3,bg3,hq⟩:∃ V g,V1.alloc (.cells (aw qx qy qz qt).toArray 77)=V∧V1.heap.size=g∧Below V1.heap.size V1 V∧RW V g 0 (aw qx qy qz qt):=⟨_,_,rfl,rfl,(Below.refl _ _).alloc (JW _) _,RW.fresh V1 _ _⟩
 obtain ⟨W,g4,eg4,hg4,bg4,hres⟩:=dM V2
 have t1:V1.heap.size=w.heap.size+1:=by rw [←eg2];simp
 have t2:V2.heap.size=V1.heap.size+1:=by rw [←eg3];simp
 have HW:Hid (W=((w.alloc (.cells (aw px py pz pt).toArray 77)).alloc (.cells (aw qx qy qz qt).toArray 77)).alloc (.cells zP 77)):=Hid.mk' (by rw [←eg4,←eg3,←eg2]);have q2:Hid (w.heap.size=g2):=Hid.mk' hg2;have q3:Hid (w.heap.size+1=g3):=Hid.mk' (by omega);have q4:Hid (w.heap.size+1+1=g4):=Hid.mk' (by omega);replace hp:=(hp.still bg3).still bg4;replace hq:=hq.still bg4;have hbW:Below w.heap.size w W:=(bg2.trans (bg3.mono (by omega))).trans (bg4.mono (by omega))
 have w4:w.heap.size≤g4:=by omega
 obtain ⟨pX,pY,pZ,pT⟩:=jp hp;obtain ⟨qX,qY,qZ,qT⟩:=jp hq;clear eg2 eg3 eg4 hg2 hg3 hg4 bg2 bg3 bg4 t1 t2 hp hq V1 V2;rw [show pV px py pz pt = .agg (aw px py pz pt).toArray from rfl,show pV qx qy qz qt = .agg (aw qx qy qz qt).toArray from rfl];go_enter Tryz.func115,Tryz.ntmps115
 go_upto_region 1 with (fail)
 rw [←HW.out,q4.out,q3.out,q2.out];clear HW q4 q3 q2
 go_cut [5,6] from 10 (fun s5 s6 wc=>∃ h5 h6:Nat,s5 = .pointer (some ⟨h5,0,none⟩)∧s6 = .pointer (some ⟨h6,0,none⟩)∧Below W.heap.size W wc∧W.heap.size≤h5∧W.heap.size≤h6∧RW wc h5 0 (c4 xx)∧RW wc h6 0 (c4 yy))
 case first =>
  clear k3 k4 k5 k6 k7 k8 k9 k10 k11 k12 k13 k14 k15 pZ pT qZ qT hres hbW;have hdrew:Below W.heap.size W W.drew:=(Below.refl _ _).drew;replace pX:=pX.still hdrew;replace pY:=pY.still hdrew;replace qX:=qX.still hdrew;replace qY:=qY.still hdrew;refine wp_region_noPanic ?_;refine wp_region_held_drew (S:=fun w'=>Below W.drew.heap.size W.drew w') (by kernel_rfl) (Below.refl _ _) (fun hS => ?_);generalize W.drew=Vd1_ at *;refine tk 0 (pA g2 0) hS (hy:=yR) (h := ?_);(try simp only [pS]);refine tk 1 (ag px) hS (hy:=(iu pX 10)) (h := ?_);(try simp only [pS]);refine tk 2 (pA g3 0) hS (hy:=yR) (h := ?_);(try simp only [pS]);refine tk 3 (ag qx) hS (hy:=(iu qX 12)) (h := ?_);(try simp only [pS]);refine tk 5 (pA g2 4) hS (hy:=yR) (h := ?_);(try simp only [pS]);refine tk 6 (ag py) hS (hy:=(iu pY 15)) (h := ?_);(try simp only [pS]);refine tk 7 (pA g3 4) hS (hy:=yR) (h := ?_);(try simp only [pS]);refine tk 8 (ag qy) hS (hy:=(iu qY 17)) (h := ?_);(try simp only [pS]);refine iQ (fun G hG0 => ?_);have hG:=Hid.mk' hG0;clear hG0
  obtain ⟨F,hF0⟩:∃ F:Value→Value→Value→Value→Act,∀ v5 v6 v14 v19,F v5 v6 v14 v19={ tmps:=#[.agg (aw px py pz pt).toArray,.agg (aw qx qy qz qt).toArray,pA g2 0,pA g3 0,pA g4 0,v5,v6,undef,undef,undef,pA g2 0,ag px,pA g3 0,ag qx,v14,pA g2 4,ag py,pA g3 4,ag qy,v19,undef,undef,undef,undef,undef,undef,undef,undef,undef,undef,undef,undef,undef,undef,undef,undef,undef,undef,undef,undef,undef,undef,undef,undef,undef,undef,undef,undef,undef,undef,undef,undef,undef,undef,undef,undef,undef,undef],defers:=[] }:=⟨_,fun _ _ _ _=>rfl⟩
  have hF:=Hid.mk' hF0;clear hF0
  have std1_0:Hid (∀ (cur:World) (g10 g11:Nat),Below Vd1_.heap.size Vd1_ cur→RW cur g10 0 (c4 (xx))→RW cur g11 0 (c4 (yy))→Vd1_.heap.size≤g10→Vd1_.heap.size≤g11→g10≠g11→G 0 #[true,true,true,true,true,true,true,true,true,true,true,true,true,true] (F (pA g10 0) (pA g11 0) (ag xx) (ag yy)) cur):=Hid.mk' (by
   intro cur g10 g11 hS r10 r11 G10 G11 d10_11;rw [hF.out,hG.out];refine wpAnyH_done (by kernel_rfl) ?_ _;refine J8 ?_;go_wp2;go_meet
   case rel=>exact ⟨g10,g11,rfl,rfl,aa hdrew hS,JY hdrew.size G10,JY hdrew.size G11,r10,r11⟩)
  have std1_1:Hid (∀ (cur:World) (g10 g11:Nat),Below Vd1_.heap.size Vd1_ cur→RW cur g10 0 (c4 (xx))→RW cur g11 0 (c4 (0))→Vd1_.heap.size≤g10→Vd1_.heap.size≤g11→g10≠g11→G 1 #[true,true,true,true,true,true,true,true,true,true,true,true,true,false] (F (pA g10 0) (pA g11 0) (ag xx) (ag yy)) cur):=Hid.mk' (by
   intro cur g10 g11 hS r10 r11 G10 G11 d10_11;rw [hF.out,hG.out];refine J1 (rs:=[13]) (by kernel_rfl) (by simp) ?_;refine DJ Gq 6 19 (yy) r11 hS G11 (fun w1 rr hS1 far=>ar hG (std1_0.out w1 g10 g11 hS1 (far _ _ _ d10_11 r10) rr G10 G11 d10_11) (hF.out _ _ _ _)) ?_
   exact J6)
  have std1_2:Hid (∀ (cur:World) (g10 g11:Nat),Below Vd1_.heap.size Vd1_ cur→RW cur g10 0 (c4 (0))→RW cur g11 0 (c4 (0))→Vd1_.heap.size≤g10→Vd1_.heap.size≤g11→g10≠g11→G 2 #[true,true,true,true,true,true,true,true,true,true,true,true,false,false] (F (pA g10 0) (pA g11 0) (ag xx) (ag yy)) cur):=Hid.mk' (by
   intro cur g10 g11 hS r10 r11 G10 G11 d10_11;rw [hF.out,hG.out];clear std1_0;refine J1 (rs:=[12]) (by kernel_rfl) (by simp) ?_;refine DJ Hj 5 14 (xx) r10 hS G10 (fun w1 rr hS1 far=>ar hG (std1_1.out w1 g10 g11 hS1 rr (far _ _ _ d10_11.symm r11) G10 G11 d10_11) (hF.out _ _ _ _)) ?_
   exact J6)
  have std1_3:Hid (∀ (cur:World) (g10:Nat),Below Vd1_.heap.size Vd1_ cur→RW cur g10 0 (c4 (0))→Vd1_.heap.size≤g10→G 3 #[true,true,true,true,true,true,true,true,true,true,true,false,false,false] (F (pA g10 0) undef (ag xx) (ag yy)) cur):=Hid.mk' (by
   intro cur g10 hS r10 G10;rw [hF.out,hG.out];clear std1_0 std1_1;refine J1 (rs:=[11]) (by kernel_rfl) (by simp) ?_;refine bT mr hS (fun w1 g11 G11 lg hb rr hS1=>ar hG (std1_2.out w1 g10 g11 hS1 (r10.still hb) rr G10 G11 (dz r10 lg)) (hF.out _ _ _ _)) ?_
   exact J6)
  have std1_4:Hid (∀ (cur:World) (g11:Nat),Below Vd1_.heap.size Vd1_ cur→RW cur g11 0 (c4 (0))→Vd1_.heap.size≤g11→G 3 #[true,true,true,true,true,true,true,true,true,true,false,true,false,false] (F undef (pA g11 0) (ag xx) (ag yy)) cur):=Hid.mk' (by
   intro cur g11 hS r11 G11;rw [hF.out,hG.out];clear std1_0 std1_1 std1_3;refine J1 (rs:=[10]) (by kernel_rfl) (by simp) ?_;refine bT mi hS (fun w1 g10 G10 lg hb rr hS1=>ar hG (std1_2.out w1 g10 g11 hS1 rr (r11.still hb) G10 G11 (dG r11 lg)) (hF.out _ _ _ _)) ?_
   exact J6)
  have std1_5:Hid (∀ (cur:World),Below Vd1_.heap.size Vd1_ cur→G 4 #[true,true,true,true,true,true,true,true,true,true,false,false,false,false] (F undef undef (ag xx) (ag yy)) cur):=Hid.mk' (by
   intro cur  hS ;rw [hF.out,hG.out];clear std1_0 std1_1 std1_2;refine J1 (rs:=[10,11]) (by kernel_rfl) (by simp) ?_;refine bT mi hS (fun w1 g10 G10 lg hb rr hS1=>ar hG (std1_3.out w1 g10 hS1 rr G10) (hF.out _ _ _ _)) ?_;refine bT mr hS (fun w1 g11 G11 lg hb rr hS1=>ar hG (std1_4.out w1 g11 hS1 rr G11) (hF.out _ _ _ _)) ?_
   exact J6)
  have std1_6:Hid (∀ (cur:World) (g10 g11:Nat),Below Vd1_.heap.size Vd1_ cur→RW cur g10 0 (c4 (0))→RW cur g11 0 (c4 (0))→Vd1_.heap.size≤g10→Vd1_.heap.size≤g11→g10≠g11→G 3 #[true,true,true,true,true,true,true,true,true,false,true,true,false,false] (F (pA g10 0) (pA g11 0) (ag xx) undef) cur):=Hid.mk' (by
   intro cur g10 g11 hS r10 r11 G10 G11 d10_11;rw [hF.out,hG.out];clear std1_0 std1_1 std1_3 std1_4 std1_5;refine J1 (rs:=[9]) (by kernel_rfl) (by simp) ?_;refine dr yD (k2 _) (fun e w1 ⟨he,hb⟩=>⟨_,he,aa hS hb,ar hG (std1_2.out w1 g10 g11 (aa hS hb) (r10.still hb) (r11.still hb) G10 G11 d10_11) (hF.out _ _ _ _)⟩) ?_
   exact J6)
  have std1_7:Hid (∀ (cur:World) (g10:Nat),Below Vd1_.heap.size Vd1_ cur→RW cur g10 0 (c4 (0))→Vd1_.heap.size≤g10→G 4 #[true,true,true,true,true,true,true,true,true,false,true,false,false,false] (F (pA g10 0) undef (ag xx) undef) cur):=Hid.mk' (by
   intro cur g10 hS r10 G10;rw [hF.out,hG.out];clear std1_0 std1_1 std1_2 std1_4 std1_5;refine J1 (rs:=[9,11]) (by kernel_rfl) (by simp) ?_;refine dr yD (k2 _) (fun e w1 ⟨he,hb⟩=>⟨_,he,aa hS hb,ar hG (std1_3.out w1 g10 (aa hS hb) (r10.still hb) G10) (hF.out _ _ _ _)⟩) ?_;refine bT mr hS (fun w1 g11 G11 lg hb rr hS1=>ar hG (std1_6.out w1 g10 g11 hS1 (r10.still hb) rr G10 G11 (dz r10 lg)) (hF.out _ _ _ _)) ?_
   exact J6)
  have std1_8:Hid (∀ (cur:World) (g11:Nat),Below Vd1_.heap.size Vd1_ cur→RW cur g11 0 (c4 (0))→Vd1_.heap.size≤g11→G 4 #[true,true,true,true,true,true,true,true,true,false,false,true,false,false] (F undef (pA g11 0) (ag xx) undef) cur):=Hid.mk' (by
   intro cur g11 hS r11 G11;rw [hF.out,hG.out];clear std1_0 std1_1 std1_2 std1_3 std1_5 std1_7;refine J1 (rs:=[9,10]) (by kernel_rfl) (by simp) ?_;refine dr yD (k2 _) (fun e w1 ⟨he,hb⟩=>⟨_,he,aa hS hb,ar hG (std1_4.out w1 g11 (aa hS hb) (r11.still hb) G11) (hF.out _ _ _ _)⟩) ?_;refine bT mi hS (fun w1 g10 G10 lg hb rr hS1=>ar hG (std1_6.out w1 g10 g11 hS1 rr (r11.still hb) G10 G11 (dG r11 lg)) (hF.out _ _ _ _)) ?_
   exact J6)
  have std1_9:Hid (∀ (cur:World),Below Vd1_.heap.size Vd1_ cur→G 5 #[true,true,true,true,true,true,true,true,true,false,false,false,false,false] (F undef undef (ag xx) undef) cur):=Hid.mk' (by
   intro cur  hS ;rw [hF.out,hG.out];clear std1_0 std1_1 std1_2 std1_3 std1_4 std1_6;refine J1 (rs:=[9,10,11]) (by kernel_rfl) (by simp) ?_;refine dr yD (k2 _) (fun e w1 ⟨he,hb⟩=>⟨_,he,aa hS hb,ar hG (std1_5.out w1  (aa hS hb) ) (hF.out _ _ _ _)⟩) ?_;refine bT mi hS (fun w1 g10 G10 lg hb rr hS1=>ar hG (std1_7.out w1 g10 hS1 rr G10) (hF.out _ _ _ _)) ?_;refine bT mr hS (fun w1 g11 G11 lg hb rr hS1=>ar hG (std1_8.out w1 g11 hS1 rr G11) (hF.out _ _ _ _)) ?_
   exact J6)
  have std1_10:Hid (∀ (cur:World) (g10 g11:Nat),Below Vd1_.heap.size Vd1_ cur→RW cur g10 0 (c4 (0))→RW cur g11 0 (c4 (0))→Vd1_.heap.size≤g10→Vd1_.heap.size≤g11→g10≠g11→G 4 #[true,true,true,true,false,true,true,true,true,false,true,true,false,false] (F (pA g10 0) (pA g11 0) undef undef) cur):=Hid.mk' (by
   intro cur g10 g11 hS r10 r11 G10 G11 d10_11;rw [hF.out,hG.out];clear std1_0 std1_1 std1_2 std1_3 std1_4 std1_5 std1_7 std1_8 std1_9;refine J1 (rs:=[4]) (by kernel_rfl) (by simp) ?_;refine dr yX (k1 _) (fun e w1 ⟨he,hb⟩=>⟨_,he,aa hS hb,ar hG (std1_6.out w1 g10 g11 (aa hS hb) (r10.still hb) (r11.still hb) G10 G11 d10_11) (hF.out _ _ _ _)⟩) ?_
   exact J6)
  have std1_11:Hid (∀ (cur:World) (g10:Nat),Below Vd1_.heap.size Vd1_ cur→RW cur g10 0 (c4 (0))→Vd1_.heap.size≤g10→G 5 #[true,true,true,true,false,true,true,true,true,false,true,false,false,false] (F (pA g10 0) undef undef undef) cur):=Hid.mk' (by
   intro cur g10 hS r10 G10;rw [hF.out,hG.out];clear std1_0 std1_1 std1_2 std1_3 std1_4 std1_5 std1_6 std1_8 std1_9;refine J1 (rs:=[4,11]) (by kernel_rfl) (by simp) ?_;refine dr yX (k1 _) (fun e w1 ⟨he,hb⟩=>⟨_,he,aa hS hb,ar hG (std1_7.out w1 g10 (aa hS hb) (r10.still hb) G10) (hF.out _ _ _ _)⟩) ?_;refine bT mr hS (fun w1 g11 G11 lg hb rr hS1=>ar hG (std1_10.out w1 g10 g11 hS1 (r10.still hb) rr G10 G11 (dz r10 lg)) (hF.out _ _ _ _)) ?_
   exact J6)
  have std1_12:Hid (∀ (cur:World) (g11:Nat),Below Vd1_.heap.size Vd1_ cur→RW cur g11 0 (c4 (0))→Vd1_.heap.size≤g11→G 5 #[true,true,true,true,false,true,true,true,true,false,false,true,false,false] (F undef (pA g11 0) undef undef) cur):=Hid.mk' (by
   intro cur g11 hS r11 G11;rw [hF.out,hG.out];clear std1_0 std1_1 std1_2 std1_3 std1_4 std1_5 std1_6 std1_7 std1_9 std1_11;refine J1 (rs:=[4,10]) (by kernel_rfl) (by simp) ?_;refine dr yX (k1 _) (fun e w1 ⟨he,hb⟩=>⟨_,he,aa hS hb,ar hG (std1_8.out w1 g11 (aa hS hb) (r11.still hb) G11) (hF.out _ _ _ _)⟩) ?_;refine bT mi hS (fun w1 g10 G10 lg hb rr hS1=>ar hG (std1_10.out w1 g10 g11 hS1 rr (r11.still hb) G10 G11 (dG r11 lg)) (hF.out _ _ _ _)) ?_
   exact J6)
  have std1_13:Hid (∀ (cur:World),Below Vd1_.heap.size Vd1_ cur→G 6 #[true,true,true,true,false,true,true,true,true,false,false,false,false,false] (F undef undef undef undef) cur):=Hid.mk' (by
   intro cur  hS ;rw [hF.out,hG.out];clear std1_0 std1_1 std1_2 std1_3 std1_4 std1_5 std1_6 std1_7 std1_8 std1_10;refine J1 (rs:=[4,10,11]) (by kernel_rfl) (by simp) ?_;refine dr yX (k1 _) (fun e w1 ⟨he,hb⟩=>⟨_,he,aa hS hb,ar hG (std1_9.out w1  (aa hS hb) ) (hF.out _ _ _ _)⟩) ?_;refine bT mi hS (fun w1 g10 G10 lg hb rr hS1=>ar hG (std1_11.out w1 g10 hS1 rr G10) (hF.out _ _ _ _)) ?_;refine bT mr hS (fun w1 g11 G11 lg hb rr hS1=>ar hG (std1_12.out w1 g11 hS1 rr G11) (hF.out _ _ _ _)) ?_
   exact J6)
  rw [hG.out];exact ar hG (std1_13.out Vd1_ hS) (hF.out _ _ _ _)
 case rest =>
 obtain ⟨b5,b6,rfl,rfl,hb1,B5,B6,h5,h6⟩:=hcut;have lt4:=hres.lt
 have n54:b5≠g4:=by omega
 have n64:b6≠g4:=by omega
 clear lt4 B5 B6 k1 k2 ;replace pX:=pX.still hb1;replace pY:=pY.still hb1;replace pZ:=pZ.still hb1;replace pT:=pT.still hb1;replace qX:=qX.still hb1;replace qY:=qY.still hb1;replace qZ:=qZ.still hb1;replace qT:=qT.still hb1;replace hres:=hres.still hb1
 obtain ⟨U1,hU⟩:∃ W,W=wc:=⟨_,rfl⟩
 rw [←hU];rw [←hU] at pX pY pZ pT qX qY qZ qT hres h5 h6 hb1;replace hbW:=aa hbW hb1;clear hU hb1
 go_upto_region 2 with (fail)
 go_cut [7,8] from 10 (fun s7 s8 wc=>∃ h7 h8:Nat,s7 = .pointer (some ⟨h7,0,none⟩)∧s8 = .pointer (some ⟨h8,0,none⟩)∧Below U1.heap.size U1 wc∧U1.heap.size≤h7∧U1.heap.size≤h8∧RW wc h7 0 (c4 zz)∧RW wc h8 0 (c4 tt))
 case first =>
  clear k7 k8 k9 k10 k11 k12 k13 k14 k15 pX pY qX qY hres h5 h6 hbW;have hdrew:Below U1.heap.size U1 U1.drew:=(Below.refl _ _).drew;replace pZ:=pZ.still hdrew;replace pT:=pT.still hdrew;replace qZ:=qZ.still hdrew;replace qT:=qT.still hdrew;refine wp_region_noPanic ?_;refine wp_region_held_drew (S:=fun w'=>Below U1.drew.heap.size U1.drew w') (by kernel_rfl) (Below.refl _ _) (fun hS => ?_);generalize U1.drew=Vd2_ at *;refine tk 0 (pA g2 8) hS (hy:=yR) (h := ?_);(try simp only [pS]);refine tk 1 (ag pz) hS (hy:=(iu pZ 20)) (h := ?_);(try simp only [pS]);refine tk 2 (pA g3 8) hS (hy:=yR) (h := ?_);(try simp only [pS]);refine tk 3 (ag qz) hS (hy:=(iu qZ 22)) (h := ?_);(try simp only [pS]);refine tk 5 (pA g2 12) hS (hy:=yR) (h := ?_);(try simp only [pS]);refine tk 6 (ag pt) hS (hy:=(iu pT 25)) (h := ?_);(try simp only [pS]);refine tk 7 (pA g3 12) hS (hy:=yR) (h := ?_);(try simp only [pS]);refine tk 8 (ag qt) hS (hy:=(iu qT 27)) (h := ?_);(try simp only [pS]);refine iQ (fun G hG0 => ?_);have hG:=Hid.mk' hG0;clear hG0
  obtain ⟨F,hF0⟩:∃ F:Value→Value→Value→Value→Value→Value→Act,∀ v7 v8 v24 v29 v30 v31,F v7 v8 v24 v29 v30 v31={ tmps:=#[.agg (aw px py pz pt).toArray,.agg (aw qx qy qz qt).toArray,pA g2 0,pA g3 0,pA g4 0,pA b5 0,pA b6 0,v7,v8,undef,u10,u11,u12,u13,u14,u15,u16,u17,u18,u19,pA g2 8,ag pz,pA g3 8,ag qz,v24,pA g2 12,ag pt,pA g3 12,ag qt,v29,v30,v31,u32,u33,u34,u35,u36,u37,u38,u39,u40,u41,u42,u43,u44,u45,u46,u47,u48,u49,u50,u51,u52,u53,u54,u55,u56,u57],defers:=[] }:=⟨_,fun _ _ _ _ _ _=>rfl⟩
  have hF:=Hid.mk' hF0;clear hF0
  have std2_0:Hid (∀ (cur:World) (g12 g13:Nat),Below Vd2_.heap.size Vd2_ cur→RW cur g12 0 (c4 (zz))→RW cur g13 0 (c4 (tt))→Vd2_.heap.size≤g12→Vd2_.heap.size≤g13→g12≠g13→G 0 #[true,true,true,true,true,true,true,true,true,true,true,true,true,true,true,true] (F (pA g12 0) (pA g13 0) (ag zz) (ag t0) (ag dd) (ag tt)) cur):=Hid.mk' (by
   intro cur g12 g13 hS r12 r13 G12 G13 d12_13;rw [hF.out,hG.out];refine wpAnyH_done (by kernel_rfl) ?_ _;refine J8 ?_;go_wp2;go_meet
   case rel=>exact ⟨g12,g13,rfl,rfl,aa hdrew hS,JY hdrew.size G12,JY hdrew.size G13,r12,r13⟩)
  have std2_1:Hid (∀ (cur:World) (g12 g13:Nat),Below Vd2_.heap.size Vd2_ cur→RW cur g12 0 (c4 (zz))→RW cur g13 0 (c4 (0))→Vd2_.heap.size≤g12→Vd2_.heap.size≤g13→g12≠g13→G 1 #[true,true,true,true,true,true,true,true,true,true,true,true,true,true,true,false] (F (pA g12 0) (pA g13 0) (ag zz) (ag t0) (ag dd) (ag tt)) cur):=Hid.mk' (by
   intro cur g12 g13 hS r12 r13 G12 G13 d12_13;rw [hF.out,hG.out];refine J1 (rs:=[15]) (by kernel_rfl) (by simp) ?_;refine DJ Gu 8 31 (tt) r13 hS G13 (fun w1 rr hS1 far=>ar hG (std2_0.out w1 g12 g13 hS1 (far _ _ _ d12_13 r12) rr G12 G13 d12_13) (hF.out _ _ _ _ _ _)) ?_
   exact J6)
  have std2_2:Hid (∀ (cur:World) (g12 g13:Nat),Below Vd2_.heap.size Vd2_ cur→RW cur g12 0 (c4 (0))→RW cur g13 0 (c4 (0))→Vd2_.heap.size≤g12→Vd2_.heap.size≤g13→g12≠g13→G 2 #[true,true,true,true,true,true,true,true,true,true,true,true,true,true,false,false] (F (pA g12 0) (pA g13 0) (ag zz) (ag t0) (ag dd) (ag tt)) cur):=Hid.mk' (by
   intro cur g12 g13 hS r12 r13 G12 G13 d12_13;rw [hF.out,hG.out];clear std2_0;refine J1 (rs:=[14]) (by kernel_rfl) (by simp) ?_;refine DJ GY 7 24 (zz) r12 hS G12 (fun w1 rr hS1 far=>ar hG (std2_1.out w1 g12 g13 hS1 rr (far _ _ _ d12_13.symm r13) G12 G13 d12_13) (hF.out _ _ _ _ _ _)) ?_
   exact J6)
  have std2_3:Hid (∀ (cur:World) (g12:Nat),Below Vd2_.heap.size Vd2_ cur→RW cur g12 0 (c4 (0))→Vd2_.heap.size≤g12→G 3 #[true,true,true,true,true,true,true,true,true,true,true,true,true,false,false,false] (F (pA g12 0) undef (ag zz) (ag t0) (ag dd) (ag tt)) cur):=Hid.mk' (by
   intro cur g12 hS r12 G12;rw [hF.out,hG.out];clear std2_0 std2_1;refine J1 (rs:=[13]) (by kernel_rfl) (by simp) ?_;refine bT gC hS (fun w1 g13 G13 lg hb rr hS1=>ar hG (std2_2.out w1 g12 g13 hS1 (r12.still hb) rr G12 G13 (dz r12 lg)) (hF.out _ _ _ _ _ _)) ?_
   exact J6)
  have std2_4:Hid (∀ (cur:World) (g13:Nat),Below Vd2_.heap.size Vd2_ cur→RW cur g13 0 (c4 (0))→Vd2_.heap.size≤g13→G 3 #[true,true,true,true,true,true,true,true,true,true,true,true,false,true,false,false] (F undef (pA g13 0) (ag zz) (ag t0) (ag dd) (ag tt)) cur):=Hid.mk' (by
   intro cur g13 hS r13 G13;rw [hF.out,hG.out];clear std2_0 std2_1 std2_3;refine J1 (rs:=[12]) (by kernel_rfl) (by simp) ?_;refine bT gm hS (fun w1 g12 G12 lg hb rr hS1=>ar hG (std2_2.out w1 g12 g13 hS1 rr (r13.still hb) G12 G13 (dG r13 lg)) (hF.out _ _ _ _ _ _)) ?_
   exact J6)
  have std2_5:Hid (∀ (cur:World),Below Vd2_.heap.size Vd2_ cur→G 4 #[true,true,true,true,true,true,true,true,true,true,true,true,false,false,false,false] (F undef undef (ag zz) (ag t0) (ag dd) (ag tt)) cur):=Hid.mk' (by
   intro cur  hS ;rw [hF.out,hG.out];clear std2_0 std2_1 std2_2;refine J1 (rs:=[12,13]) (by kernel_rfl) (by simp) ?_;refine bT gm hS (fun w1 g12 G12 lg hb rr hS1=>ar hG (std2_3.out w1 g12 hS1 rr G12) (hF.out _ _ _ _ _ _)) ?_;refine bT gC hS (fun w1 g13 G13 lg hb rr hS1=>ar hG (std2_4.out w1 g13 hS1 rr G13) (hF.out _ _ _ _ _ _)) ?_
   exact J6)
  have std2_6:Hid (∀ (cur:World) (g12 g13:Nat),Below Vd2_.heap.size Vd2_ cur→RW cur g12 0 (c4 (0))→RW cur g13 0 (c4 (0))→Vd2_.heap.size≤g12→Vd2_.heap.size≤g13→g12≠g13→G 3 #[true,true,true,true,true,true,true,true,true,true,true,false,true,true,false,false] (F (pA g12 0) (pA g13 0) (ag zz) (ag t0) (ag dd) u31) cur):=Hid.mk' (by
   intro cur g12 g13 hS r12 r13 G12 G13 d12_13;rw [hF.out,hG.out];clear std2_0 std2_1 std2_3 std2_4 std2_5;refine J1 (rs:=[11]) (by kernel_rfl) (by simp) ?_;refine dr sI (k6 _) (fun e w1 ⟨he,hb⟩=>⟨_,he,aa hS hb,ar hG (std2_2.out w1 g12 g13 (aa hS hb) (r12.still hb) (r13.still hb) G12 G13 d12_13) (hF.out _ _ _ _ _ _)⟩) ?_
   exact J6)
  have std2_7:Hid (∀ (cur:World) (g12:Nat),Below Vd2_.heap.size Vd2_ cur→RW cur g12 0 (c4 (0))→Vd2_.heap.size≤g12→G 4 #[true,true,true,true,true,true,true,true,true,true,true,false,true,false,false,false] (F (pA g12 0) undef (ag zz) (ag t0) (ag dd) u31) cur):=Hid.mk' (by
   intro cur g12 hS r12 G12;rw [hF.out,hG.out];clear std2_0 std2_1 std2_2 std2_4 std2_5;refine J1 (rs:=[11,13]) (by kernel_rfl) (by simp) ?_;refine dr sI (k6 _) (fun e w1 ⟨he,hb⟩=>⟨_,he,aa hS hb,ar hG (std2_3.out w1 g12 (aa hS hb) (r12.still hb) G12) (hF.out _ _ _ _ _ _)⟩) ?_;refine bT gC hS (fun w1 g13 G13 lg hb rr hS1=>ar hG (std2_6.out w1 g12 g13 hS1 (r12.still hb) rr G12 G13 (dz r12 lg)) (hF.out _ _ _ _ _ _)) ?_
   exact J6)
  have std2_8:Hid (∀ (cur:World) (g13:Nat),Below Vd2_.heap.size Vd2_ cur→RW cur g13 0 (c4 (0))→Vd2_.heap.size≤g13→G 4 #[true,true,true,true,true,true,true,true,true,true,true,false,false,true,false,false] (F undef (pA g13 0) (ag zz) (ag t0) (ag dd) u31) cur):=Hid.mk' (by
   intro cur g13 hS r13 G13;rw [hF.out,hG.out];clear std2_0 std2_1 std2_2 std2_3 std2_5 std2_7;refine J1 (rs:=[11,12]) (by kernel_rfl) (by simp) ?_;refine dr sI (k6 _) (fun e w1 ⟨he,hb⟩=>⟨_,he,aa hS hb,ar hG (std2_4.out w1 g13 (aa hS hb) (r13.still hb) G13) (hF.out _ _ _ _ _ _)⟩) ?_;refine bT gm hS (fun w1 g12 G12 lg hb rr hS1=>ar hG (std2_6.out w1 g12 g13 hS1 rr (r13.still hb) G12 G13 (dG r13 lg)) (hF.out _ _ _ _ _ _)) ?_
   exact J6)
  have std2_9:Hid (∀ (cur:World),Below Vd2_.heap.size Vd2_ cur→G 5 #[true,true,true,true,true,true,true,true,true,true,true,false,false,false,false,false] (F undef undef (ag zz) (ag t0) (ag dd) u31) cur):=Hid.mk' (by
   intro cur  hS ;rw [hF.out,hG.out];clear std2_0 std2_1 std2_2 std2_3 std2_4 std2_6;refine J1 (rs:=[11,12,13]) (by kernel_rfl) (by simp) ?_;refine dr sI (k6 _) (fun e w1 ⟨he,hb⟩=>⟨_,he,aa hS hb,ar hG (std2_5.out w1  (aa hS hb) ) (hF.out _ _ _ _ _ _)⟩) ?_;refine bT gm hS (fun w1 g12 G12 lg hb rr hS1=>ar hG (std2_7.out w1 g12 hS1 rr G12) (hF.out _ _ _ _ _ _)) ?_;refine bT gC hS (fun w1 g13 G13 lg hb rr hS1=>ar hG (std2_8.out w1 g13 hS1 rr G13) (hF.out _ _ _ _ _ _)) ?_
   exact J6)
  have std2_10:Hid (∀ (cur:World) (g12 g13:Nat),Below Vd2_.heap.size Vd2_ cur→RW cur g12 0 (c4 (0))→RW cur g13 0 (c4 (0))→Vd2_.heap.size≤g12→Vd2_.heap.size≤g13→g12≠g13→G 4 #[true,true,true,true,true,true,true,true,true,true,false,false,true,true,false,false] (F (pA g12 0) (pA g13 0) (ag zz) (ag t0) u30 u31) cur):=Hid.mk' (by
   intro cur g12 g13 hS r12 r13 G12 G13 d12_13;rw [hF.out,hG.out];clear std2_0 std2_1 std2_2 std2_3 std2_4 std2_5 std2_7 std2_8 std2_9;refine J1 (rs:=[10]) (by kernel_rfl) (by simp) ?_;refine dr rW (k5 _) (fun e w1 ⟨he,hb⟩=>⟨_,he,aa hS hb,ar hG (std2_6.out w1 g12 g13 (aa hS hb) (r12.still hb) (r13.still hb) G12 G13 d12_13) (hF.out _ _ _ _ _ _)⟩) ?_
   exact J6)
  have std2_11:Hid (∀ (cur:World) (g12:Nat),Below Vd2_.heap.size Vd2_ cur→RW cur g12 0 (c4 (0))→Vd2_.heap.size≤g12→G 5 #[true,true,true,true,true,true,true,true,true,true,false,false,true,false,false,false] (F (pA g12 0) undef (ag zz) (ag t0) u30 u31) cur):=Hid.mk' (by
   intro cur g12 hS r12 G12;rw [hF.out,hG.out];clear std2_0 std2_1 std2_2 std2_3 std2_4 std2_5 std2_6 std2_8 std2_9;refine J1 (rs:=[10,13]) (by kernel_rfl) (by simp) ?_;refine dr rW (k5 _) (fun e w1 ⟨he,hb⟩=>⟨_,he,aa hS hb,ar hG (std2_7.out w1 g12 (aa hS hb) (r12.still hb) G12) (hF.out _ _ _ _ _ _)⟩) ?_;refine bT gC hS (fun w1 g13 G13 lg hb rr hS1=>ar hG (std2_10.out w1 g12 g13 hS1 (r12.still hb) rr G12 G13 (dz r12 lg)) (hF.out _ _ _ _ _ _)) ?_
   exact J6)
  have std2_12:Hid (∀ (cur:World) (g13:Nat),Below Vd2_.heap.size Vd2_ cur→RW cur g13 0 (c4 (0))→Vd2_.heap.size≤g13→G 5 #[true,true,true,true,true,true,true,true,true,true,false,false,false,true,false,false] (F undef (pA g13 0) (ag zz) (ag t0) u30 u31) cur):=Hid.mk' (by
   intro cur g13 hS r13 G13;rw [hF.out,hG.out];clear std2_0 std2_1 std2_2 std2_3 std2_4 std2_5 std2_6 std2_7 std2_9 std2_11;refine J1 (rs:=[10,12]) (by kernel_rfl) (by simp) ?_;refine dr rW (k5 _) (fun e w1 ⟨he,hb⟩=>⟨_,he,aa hS hb,ar hG (std2_8.out w1 g13 (aa hS hb) (r13.still hb) G13) (hF.out _ _ _ _ _ _)⟩) ?_;refine bT gm hS (fun w1 g12 G12 lg hb rr hS1=>ar hG (std2_10.out w1 g12 g13 hS1 rr (r13.still hb) G12 G13 (dG r13 lg)) (hF.out _ _ _ _ _ _)) ?_
   exact J6)
  have std2_13:Hid (∀ (cur:World),Below Vd2_.heap.size Vd2_ cur→G 6 #[true,true,true,true,true,true,true,true,true,true,false,false,false,false,false,false] (F undef undef (ag zz) (ag t0) u30 u31) cur):=Hid.mk' (by
   intro cur  hS ;rw [hF.out,hG.out];clear std2_0 std2_1 std2_2 std2_3 std2_4 std2_5 std2_6 std2_7 std2_8 std2_10;refine J1 (rs:=[10,12,13]) (by kernel_rfl) (by simp) ?_;refine dr rW (k5 _) (fun e w1 ⟨he,hb⟩=>⟨_,he,aa hS hb,ar hG (std2_9.out w1  (aa hS hb) ) (hF.out _ _ _ _ _ _)⟩) ?_;refine bT gm hS (fun w1 g12 G12 lg hb rr hS1=>ar hG (std2_11.out w1 g12 hS1 rr G12) (hF.out _ _ _ _ _ _)) ?_;refine bT gC hS (fun w1 g13 G13 lg hb rr hS1=>ar hG (std2_12.out w1 g13 hS1 rr G13) (hF.out _ _ _ _ _ _)) ?_
   exact J6)
  have std2_14:Hid (∀ (cur:World) (g12 g13:Nat),Below Vd2_.heap.size Vd2_ cur→RW cur g12 0 (c4 (0))→RW cur g13 0 (c4 (0))→Vd2_.heap.size≤g12→Vd2_.heap.size≤g13→g12≠g13→G 5 #[true,true,true,true,true,true,true,true,true,false,false,false,true,true,false,false] (F (pA g12 0) (pA g13 0) (ag zz) u29 u30 u31) cur):=Hid.mk' (by
   intro cur g12 g13 hS r12 r13 G12 G13 d12_13;rw [hF.out,hG.out];clear std2_0 std2_1 std2_2 std2_3 std2_4 std2_5 std2_6 std2_7 std2_8 std2_9 std2_11 std2_12 std2_13;refine J1 (rs:=[9]) (by kernel_rfl) (by simp) ?_;refine dr yJ (k4 _) (fun e w1 ⟨he,hb⟩=>⟨_,he,aa hS hb,ar hG (std2_10.out w1 g12 g13 (aa hS hb) (r12.still hb) (r13.still hb) G12 G13 d12_13) (hF.out _ _ _ _ _ _)⟩) ?_
   exact J6)
  have std2_15:Hid (∀ (cur:World) (g12:Nat),Below Vd2_.heap.size Vd2_ cur→RW cur g12 0 (c4 (0))→Vd2_.heap.size≤g12→G 6 #[true,true,true,true,true,true,true,true,true,false,false,false,true,false,false,false] (F (pA g12 0) undef (ag zz) u29 u30 u31) cur):=Hid.mk' (by
   intro cur g12 hS r12 G12;rw [hF.out,hG.out];clear std2_0 std2_1 std2_2 std2_3 std2_4 std2_5 std2_6 std2_7 std2_8 std2_9 std2_10 std2_12 std2_13;refine J1 (rs:=[9,13]) (by kernel_rfl) (by simp) ?_;refine dr yJ (k4 _) (fun e w1 ⟨he,hb⟩=>⟨_,he,aa hS hb,ar hG (std2_11.out w1 g12 (aa hS hb) (r12.still hb) G12) (hF.out _ _ _ _ _ _)⟩) ?_;refine bT gC hS (fun w1 g13 G13 lg hb rr hS1=>ar hG (std2_14.out w1 g12 g13 hS1 (r12.still hb) rr G12 G13 (dz r12 lg)) (hF.out _ _ _ _ _ _)) ?_
   exact J6)
  have std2_16:Hid (∀ (cur:World) (g13:Nat),Below Vd2_.heap.size Vd2_ cur→RW cur g13 0 (c4 (0))→Vd2_.heap.size≤g13→G 6 #[true,true,true,true,true,true,true,true,true,false,false,false,false,true,false,false] (F undef (pA g13 0) (ag zz) u29 u30 u31) cur):=Hid.mk' (by
   intro cur g13 hS r13 G13;rw [hF.out,hG.out];clear std2_0 std2_1 std2_2 std2_3 std2_4 std2_5 std2_6 std2_7 std2_8 std2_9 std2_10 std2_11 std2_13 std2_15;refine J1 (rs:=[9,12]) (by kernel_rfl) (by simp) ?_;refine dr yJ (k4 _) (fun e w1 ⟨he,hb⟩=>⟨_,he,aa hS hb,ar hG (std2_12.out w1 g13 (aa hS hb) (r13.still hb) G13) (hF.out _ _ _ _ _ _)⟩) ?_;refine bT gm hS (fun w1 g12 G12 lg hb rr hS1=>ar hG (std2_14.out w1 g12 g13 hS1 rr (r13.still hb) G12 G13 (dG r13 lg)) (hF.out _ _ _ _ _ _)) ?_
   exact J6)
  have std2_17:Hid (∀ (cur:World),Below Vd2_.heap.size Vd2_ cur→G 7 #[true,true,true,true,true,true,true,true,true,false,false,false,false,false,false,false] (F undef undef (ag zz) u29 u30 u31) cur):=Hid.mk' (by
   intro cur  hS ;rw [hF.out,hG.out];clear std2_0 std2_1 std2_2 std2_3 std2_4 std2_5 std2_6 std2_7 std2_8 std2_9 std2_10 std2_11 std2_12 std2_14;refine J1 (rs:=[9,12,13]) (by kernel_rfl) (by simp) ?_;refine dr yJ (k4 _) (fun e w1 ⟨he,hb⟩=>⟨_,he,aa hS hb,ar hG (std2_13.out w1  (aa hS hb) ) (hF.out _ _ _ _ _ _)⟩) ?_;refine bT gm hS (fun w1 g12 G12 lg hb rr hS1=>ar hG (std2_15.out w1 g12 hS1 rr G12) (hF.out _ _ _ _ _ _)) ?_;refine bT gC hS (fun w1 g13 G13 lg hb rr hS1=>ar hG (std2_16.out w1 g13 hS1 rr G13) (hF.out _ _ _ _ _ _)) ?_
   exact J6)
  have std2_18:Hid (∀ (cur:World) (g12 g13:Nat),Below Vd2_.heap.size Vd2_ cur→RW cur g12 0 (c4 (0))→RW cur g13 0 (c4 (0))→Vd2_.heap.size≤g12→Vd2_.heap.size≤g13→g12≠g13→G 6 #[true,true,true,true,false,true,true,true,true,false,false,false,true,true,false,false] (F (pA g12 0) (pA g13 0) u24 u29 u30 u31) cur):=Hid.mk' (by
   intro cur g12 g13 hS r12 r13 G12 G13 d12_13;rw [hF.out,hG.out];clear std2_0 std2_1 std2_2 std2_3 std2_4 std2_5 std2_6 std2_7 std2_8 std2_9 std2_10 std2_11 std2_12 std2_13 std2_15 std2_16 std2_17;refine J1 (rs:=[4]) (by kernel_rfl) (by simp) ?_;refine dr yk (k3 _) (fun e w1 ⟨he,hb⟩=>⟨_,he,aa hS hb,ar hG (std2_14.out w1 g12 g13 (aa hS hb) (r12.still hb) (r13.still hb) G12 G13 d12_13) (hF.out _ _ _ _ _ _)⟩) ?_
   exact J6)
  have std2_19:Hid (∀ (cur:World) (g12:Nat),Below Vd2_.heap.size Vd2_ cur→RW cur g12 0 (c4 (0))→Vd2_.heap.size≤g12→G 7 #[true,true,true,true,false,true,true,true,true,false,false,false,true,false,false,false] (F (pA g12 0) undef u24 u29 u30 u31) cur):=Hid.mk' (by
   intro cur g12 hS r12 G12;rw [hF.out,hG.out];clear std2_0 std2_1 std2_2 std2_3 std2_4 std2_5 std2_6 std2_7 std2_8 std2_9 std2_10 std2_11 std2_12 std2_13 std2_14 std2_16 std2_17;refine J1 (rs:=[4,13]) (by kernel_rfl) (by simp) ?_;refine dr yk (k3 _) (fun e w1 ⟨he,hb⟩=>⟨_,he,aa hS hb,ar hG (std2_15.out w1 g12 (aa hS hb) (r12.still hb) G12) (hF.out _ _ _ _ _ _)⟩) ?_;refine bT gC hS (fun w1 g13 G13 lg hb rr hS1=>ar hG (std2_18.out w1 g12 g13 hS1 (r12.still hb) rr G12 G13 (dz r12 lg)) (hF.out _ _ _ _ _ _)) ?_
   exact J6)
  have std2_20:Hid (∀ (cur:World) (g13:Nat),Below Vd2_.heap.size Vd2_ cur→RW cur g13 0 (c4 (0))→Vd2_.heap.size≤g13→G 7 #[true,true,true,true,false,true,true,true,true,false,false,false,false,true,false,false] (F undef (pA g13 0) u24 u29 u30 u31) cur):=Hid.mk' (by
   intro cur g13 hS r13 G13;rw [hF.out,hG.out];clear std2_0 std2_1 std2_2 std2_3 std2_4 std2_5 std2_6 std2_7 std2_8 std2_9 std2_10 std2_11 std2_12 std2_13 std2_14 std2_15 std2_17 std2_19;refine J1 (rs:=[4,12]) (by kernel_rfl) (by simp) ?_;refine dr yk (k3 _) (fun e w1 ⟨he,hb⟩=>⟨_,he,aa hS hb,ar hG (std2_16.out w1 g13 (aa hS hb) (r13.still hb) G13) (hF.out _ _ _ _ _ _)⟩) ?_;refine bT gm hS (fun w1 g12 G12 lg hb rr hS1=>ar hG (std2_18.out w1 g12 g13 hS1 rr (r13.still hb) G12 G13 (dG r13 lg)) (hF.out _ _ _ _ _ _)) ?_
   exact J6)
  have std2_21:Hid (∀ (cur:World),Below Vd2_.heap.size Vd2_ cur→G 8 #[true,true,true,true,false,true,true,true,true,false,false,false,false,false,false,false] (F undef undef u24 u29 u30 u31) cur):=Hid.mk' (by
   intro cur  hS ;rw [hF.out,hG.out];clear std2_0 std2_1 std2_2 std2_3 std2_4 std2_5 std2_6 std2_7 std2_8 std2_9 std2_10 std2_11 std2_12 std2_13 std2_14 std2_15 std2_16 std2_18;refine J1 (rs:=[4,12,13]) (by kernel_rfl) (by simp) ?_;refine dr yk (k3 _) (fun e w1 ⟨he,hb⟩=>⟨_,he,aa hS hb,ar hG (std2_17.out w1  (aa hS hb) ) (hF.out _ _ _ _ _ _)⟩) ?_;refine bT gm hS (fun w1 g12 G12 lg hb rr hS1=>ar hG (std2_19.out w1 g12 hS1 rr G12) (hF.out _ _ _ _ _ _)) ?_;refine bT gC hS (fun w1 g13 G13 lg hb rr hS1=>ar hG (std2_20.out w1 g13 hS1 rr G13) (hF.out _ _ _ _ _ _)) ?_
   exact J6)
  rw [hG.out];exact ar hG (std2_21.out Vd2_ hS) (hF.out _ _ _ _ _ _)
 case rest =>
 obtain ⟨b7,b8,rfl,rfl,hb1,B7,B8,h7,h8⟩:=hcut;have lt4:=hres.lt
 have n74:b7≠g4:=by omega
 have n84:b8≠g4:=by omega
 clear lt4 B7 B8 k3 k4 k5 k6 pZ pT qZ qT;replace pX:=pX.still hb1;replace pY:=pY.still hb1;replace qX:=qX.still hb1;replace qY:=qY.still hb1;replace hres:=hres.still hb1;replace h5:=h5.still hb1;replace h6:=h6.still hb1
 obtain ⟨U2,hU⟩:∃ W,W=wc:=⟨_,rfl⟩
 rw [←hU];rw [←hU] at pX pY qX qY hres h5 h6 h7 h8 hb1;replace hbW:=aa hbW hb1;clear hU hb1
 go_upto_region 3 with (fail)
 go_cut [9] from 10 (fun s9 wc=>∃ h9:Nat,s9 = .pointer (some ⟨h9,0,none⟩)∧Below U2.heap.size U2 wc∧U2.heap.size≤h9∧RW wc h9 0 (c4 cr))
 case first =>
  clear k12 k13 k14 k15 hres h7 h8 hbW;have hdrew:Below U2.heap.size U2 U2.drew:=(Below.refl _ _).drew;replace pX:=pX.still hdrew;replace pY:=pY.still hdrew;replace qX:=qX.still hdrew;replace qY:=qY.still hdrew;replace h5:=h5.still hdrew;replace h6:=h6.still hdrew;refine wp_region_noPanic ?_;refine wp_region_held_drew (S:=fun w'=>Below U2.drew.heap.size U2.drew w') (by kernel_rfl) (Below.refl _ _) (fun hS => ?_);generalize U2.drew=Vd3_ at *;refine tk 0 (pA g2 0) hS (hy:=yR) (h := ?_);(try simp only [pS]);refine tk 1 (ag px) hS (hy:=(iu pX 32)) (h := ?_);(try simp only [pS]);refine tk 2 (pA g2 4) hS (hy:=yR) (h := ?_);(try simp only [pS]);refine tk 3 (ag py) hS (hy:=(iu pY 34)) (h := ?_);(try simp only [pS]);refine tk 5 (pA g3 0) hS (hy:=yR) (h := ?_);(try simp only [pS]);refine tk 6 (ag qx) hS (hy:=(iu qX 37)) (h := ?_);(try simp only [pS]);refine tk 7 (pA g3 4) hS (hy:=yR) (h := ?_);(try simp only [pS]);refine tk 8 (ag qy) hS (hy:=(iu qY 39)) (h := ?_);(try simp only [pS]);refine tk 11 (ag xx) hS (hy:=(iu h5 5)) (h := ?_);(try simp only [pS]);refine tk 13 (ag yy) hS (hy:=(iu h6 6)) (h := ?_);(try simp only [pS]);refine iQ (fun G hG0 => ?_);have hG:=Hid.mk' hG0;clear hG0
  obtain ⟨F,hF0⟩:∃ F:Value→Value→Value→Value→Value→Value→Act,∀ v9 v36 v41 v42 v44 v46,F v9 v36 v41 v42 v44 v46={ tmps:=#[.agg (aw px py pz pt).toArray,.agg (aw qx qy qz qt).toArray,pA g2 0,pA g3 0,pA g4 0,pA b5 0,pA b6 0,pA b7 0,pA b8 0,v9,u10,u11,u12,u13,u14,u15,u16,u17,u18,u19,u20,u21,u22,u23,u24,u25,u26,u27,u28,u29,u30,u31,pA g2 0,ag px,pA g2 4,ag py,v36,pA g3 0,ag qx,pA g3 4,ag qy,v41,v42,ag xx,v44,ag yy,v46,u47,u48,u49,u50,u51,u52,u53,u54,u55,u56,u57],defers:=[] }:=⟨_,fun _ _ _ _ _ _=>rfl⟩
  have hF:=Hid.mk' hF0;clear hF0
  have std3_0:Hid (∀ (cur:World) (g15:Nat),Below Vd3_.heap.size Vd3_ cur→RW cur g15 0 (c4 (cr))→Vd3_.heap.size≤g15→G 0 #[true,true,true,true,true,true,true,true,true,true,true,true,true,true,true,true,true] (F (pA g15 0) (ag f1) (ag f2) (ag f3) (ag f4) (ag cr)) cur):=Hid.mk' (by
   intro cur g15 hS r15 G15;rw [hF.out,hG.out];refine wpAnyH_done (by kernel_rfl) ?_ _;refine J8 ?_;go_wp2;go_meet
   case rel=>exact ⟨g15,rfl,aa hdrew hS,JY hdrew.size G15,r15⟩)
  have std3_1:Hid (∀ (cur:World) (g15:Nat),Below Vd3_.heap.size Vd3_ cur→RW cur g15 0 (c4 (0))→Vd3_.heap.size≤g15→G 1 #[true,true,true,true,true,true,true,true,true,true,true,true,true,true,true,true,false] (F (pA g15 0) (ag f1) (ag f2) (ag f3) (ag f4) (ag cr)) cur):=Hid.mk' (by
   intro cur g15 hS r15 G15;rw [hF.out,hG.out];refine J1 (rs:=[16]) (by kernel_rfl) (by simp) ?_;refine DJ GZ 9 46 (cr) r15 hS G15 (fun w1 rr hS1 far=>ar hG (std3_0.out w1 g15 hS1 rr G15) (hF.out _ _ _ _ _ _)) ?_
   exact J6)
  have std3_2:Hid (∀ (cur:World),Below Vd3_.heap.size Vd3_ cur→G 2 #[true,true,true,true,true,true,true,true,true,true,true,true,true,true,true,false,false] (F undef (ag f1) (ag f2) (ag f3) (ag f4) (ag cr)) cur):=Hid.mk' (by
   intro cur  hS ;rw [hF.out,hG.out];clear std3_0;refine J1 (rs:=[15]) (by kernel_rfl) (by simp) ?_;refine bT lK hS (fun w1 g15 G15 lg hb rr hS1=>ar hG (std3_1.out w1 g15 hS1 rr G15) (hF.out _ _ _ _ _ _)) ?_
   exact J6)
  have std3_3:Hid (∀ (cur:World) (g15:Nat),Below Vd3_.heap.size Vd3_ cur→RW cur g15 0 (c4 (0))→Vd3_.heap.size≤g15→G 2 #[true,true,true,true,true,true,true,true,true,true,true,true,true,true,false,true,false] (F (pA g15 0) (ag f1) (ag f2) (ag f3) (ag f4) u46) cur):=Hid.mk' (by
   intro cur g15 hS r15 G15;rw [hF.out,hG.out];clear std3_0 std3_2;refine J1 (rs:=[14]) (by kernel_rfl) (by simp) ?_;refine dr C8 (k11 _) (fun e w1 ⟨he,hb⟩=>⟨_,he,aa hS hb,ar hG (std3_1.out w1 g15 (aa hS hb) (r15.still hb) G15) (hF.out _ _ _ _ _ _)⟩) ?_
   exact J6)
  have std3_4:Hid (∀ (cur:World),Below Vd3_.heap.size Vd3_ cur→G 3 #[true,true,true,true,true,true,true,true,true,true,true,true,true,true,false,false,false] (F undef (ag f1) (ag f2) (ag f3) (ag f4) u46) cur):=Hid.mk' (by
   intro cur  hS ;rw [hF.out,hG.out];clear std3_0 std3_1;refine J1 (rs:=[14,15]) (by kernel_rfl) (by simp) ?_;refine dr C8 (k11 _) (fun e w1 ⟨he,hb⟩=>⟨_,he,aa hS hb,ar hG (std3_2.out w1  (aa hS hb) ) (hF.out _ _ _ _ _ _)⟩) ?_;refine bT lK hS (fun w1 g15 G15 lg hb rr hS1=>ar hG (std3_3.out w1 g15 hS1 rr G15) (hF.out _ _ _ _ _ _)) ?_
   exact J6)
  have std3_5:Hid (∀ (cur:World) (g15:Nat),Below Vd3_.heap.size Vd3_ cur→RW cur g15 0 (c4 (0))→Vd3_.heap.size≤g15→G 3 #[true,true,true,true,true,true,true,true,true,true,true,true,false,true,false,true,false] (F (pA g15 0) (ag f1) (ag f2) (ag f3) u44 u46) cur):=Hid.mk' (by
   intro cur g15 hS r15 G15;rw [hF.out,hG.out];clear std3_0 std3_1 std3_2 std3_4;refine J1 (rs:=[12]) (by kernel_rfl) (by simp) ?_;refine dr Bk (k10 _) (fun e w1 ⟨he,hb⟩=>⟨_,he,aa hS hb,ar hG (std3_3.out w1 g15 (aa hS hb) (r15.still hb) G15) (hF.out _ _ _ _ _ _)⟩) ?_
   exact J6)
  have std3_6:Hid (∀ (cur:World),Below Vd3_.heap.size Vd3_ cur→G 4 #[true,true,true,true,true,true,true,true,true,true,true,true,false,true,false,false,false] (F undef (ag f1) (ag f2) (ag f3) u44 u46) cur):=Hid.mk' (by
   intro cur  hS ;rw [hF.out,hG.out];clear std3_0 std3_1 std3_2 std3_3;refine J1 (rs:=[12,15]) (by kernel_rfl) (by simp) ?_;refine dr Bk (k10 _) (fun e w1 ⟨he,hb⟩=>⟨_,he,aa hS hb,ar hG (std3_4.out w1  (aa hS hb) ) (hF.out _ _ _ _ _ _)⟩) ?_;refine bT lK hS (fun w1 g15 G15 lg hb rr hS1=>ar hG (std3_5.out w1 g15 hS1 rr G15) (hF.out _ _ _ _ _ _)) ?_
   exact J6)
  have std3_7:Hid (∀ (cur:World) (g15:Nat),Below Vd3_.heap.size Vd3_ cur→RW cur g15 0 (c4 (0))→Vd3_.heap.size≤g15→G 4 #[true,true,true,true,true,true,true,true,true,true,false,true,false,true,false,true,false] (F (pA g15 0) (ag f1) (ag f2) u42 u44 u46) cur):=Hid.mk' (by
   intro cur g15 hS r15 G15;rw [hF.out,hG.out];clear std3_0 std3_1 std3_2 std3_3 std3_4 std3_6;refine J1 (rs:=[10]) (by kernel_rfl) (by simp) ?_;refine dr CT (k9 _) (fun e w1 ⟨he,hb⟩=>⟨_,he,aa hS hb,ar hG (std3_5.out w1 g15 (aa hS hb) (r15.still hb) G15) (hF.out _ _ _ _ _ _)⟩) ?_
   exact J6)
  have std3_8:Hid (∀ (cur:World),Below Vd3_.heap.size Vd3_ cur→G 5 #[true,true,true,true,true,true,true,true,true,true,false,true,false,true,false,false,false] (F undef (ag f1) (ag f2) u42 u44 u46) cur):=Hid.mk' (by
   intro cur  hS ;rw [hF.out,hG.out];clear std3_0 std3_1 std3_2 std3_3 std3_4 std3_5;refine J1 (rs:=[10,15]) (by kernel_rfl) (by simp) ?_;refine dr CT (k9 _) (fun e w1 ⟨he,hb⟩=>⟨_,he,aa hS hb,ar hG (std3_6.out w1  (aa hS hb) ) (hF.out _ _ _ _ _ _)⟩) ?_;refine bT lK hS (fun w1 g15 G15 lg hb rr hS1=>ar hG (std3_7.out w1 g15 hS1 rr G15) (hF.out _ _ _ _ _ _)) ?_
   exact J6)
  have std3_9:Hid (∀ (cur:World) (g15:Nat),Below Vd3_.heap.size Vd3_ cur→RW cur g15 0 (c4 (0))→Vd3_.heap.size≤g15→G 5 #[true,true,true,true,true,true,true,true,true,false,false,true,false,true,false,true,false] (F (pA g15 0) (ag f1) u41 u42 u44 u46) cur):=Hid.mk' (by
   intro cur g15 hS r15 G15;rw [hF.out,hG.out];clear std3_0 std3_1 std3_2 std3_3 std3_4 std3_5 std3_6 std3_8;refine J1 (rs:=[9]) (by kernel_rfl) (by simp) ?_;refine dr Fs (k8 _) (fun e w1 ⟨he,hb⟩=>⟨_,he,aa hS hb,ar hG (std3_7.out w1 g15 (aa hS hb) (r15.still hb) G15) (hF.out _ _ _ _ _ _)⟩) ?_
   exact J6)
  have std3_10:Hid (∀ (cur:World),Below Vd3_.heap.size Vd3_ cur→G 6 #[true,true,true,true,true,true,true,true,true,false,false,true,false,true,false,false,false] (F undef (ag f1) u41 u42 u44 u46) cur):=Hid.mk' (by
   intro cur  hS ;rw [hF.out,hG.out];clear std3_0 std3_1 std3_2 std3_3 std3_4 std3_5 std3_6 std3_7;refine J1 (rs:=[9,15]) (by kernel_rfl) (by simp) ?_;refine dr Fs (k8 _) (fun e w1 ⟨he,hb⟩=>⟨_,he,aa hS hb,ar hG (std3_8.out w1  (aa hS hb) ) (hF.out _ _ _ _ _ _)⟩) ?_;refine bT lK hS (fun w1 g15 G15 lg hb rr hS1=>ar hG (std3_9.out w1 g15 hS1 rr G15) (hF.out _ _ _ _ _ _)) ?_
   exact J6)
  have std3_11:Hid (∀ (cur:World) (g15:Nat),Below Vd3_.heap.size Vd3_ cur→RW cur g15 0 (c4 (0))→Vd3_.heap.size≤g15→G 6 #[true,true,true,true,false,true,true,true,true,false,false,true,false,true,false,true,false] (F (pA g15 0) u36 u41 u42 u44 u46) cur):=Hid.mk' (by
   intro cur g15 hS r15 G15;rw [hF.out,hG.out];clear std3_0 std3_1 std3_2 std3_3 std3_4 std3_5 std3_6 std3_7 std3_8 std3_10;refine J1 (rs:=[4]) (by kernel_rfl) (by simp) ?_;refine dr Fk (k7 _) (fun e w1 ⟨he,hb⟩=>⟨_,he,aa hS hb,ar hG (std3_9.out w1 g15 (aa hS hb) (r15.still hb) G15) (hF.out _ _ _ _ _ _)⟩) ?_
   exact J6)
  have std3_12:Hid (∀ (cur:World),Below Vd3_.heap.size Vd3_ cur→G 7 #[true,true,true,true,false,true,true,true,true,false,false,true,false,true,false,false,false] (F undef u36 u41 u42 u44 u46) cur):=Hid.mk' (by
   intro cur  hS ;rw [hF.out,hG.out];clear std3_0 std3_1 std3_2 std3_3 std3_4 std3_5 std3_6 std3_7 std3_8 std3_9;refine J1 (rs:=[4,15]) (by kernel_rfl) (by simp) ?_;refine dr Fk (k7 _) (fun e w1 ⟨he,hb⟩=>⟨_,he,aa hS hb,ar hG (std3_10.out w1  (aa hS hb) ) (hF.out _ _ _ _ _ _)⟩) ?_;refine bT lK hS (fun w1 g15 G15 lg hb rr hS1=>ar hG (std3_11.out w1 g15 hS1 rr G15) (hF.out _ _ _ _ _ _)) ?_
   exact J6)
  rw [hG.out];exact ar hG (std3_12.out Vd3_ hS) (hF.out _ _ _ _ _ _)
 case rest =>
 obtain ⟨b9,rfl,hb1,B9,h9⟩:=hcut;have lt4:=hres.lt
 have n94:b9≠g4:=by omega
 clear lt4 B9 k7 k8 k9 k10 k11 pX pY qX qY;replace hres:=hres.still hb1;replace h5:=h5.still hb1;replace h6:=h6.still hb1;replace h7:=h7.still hb1;replace h8:=h8.still hb1
 obtain ⟨U3,hU⟩:∃ W,W=wc:=⟨_,rfl⟩
 rw [←hU];rw [←hU] at hres h5 h6 h7 h8 h9 hb1;replace hbW:=aa hbW hb1;clear hU hb1
 go_upto_region 4 with (fail)
 have l4:=hres.lt;have hdrew:Below U3.heap.size U3 U3.drew:=(Below.refl _ _).drew;replace hres:=hres.still hdrew;replace h5:=h5.still hdrew;replace h6:=h6.still hdrew;replace h7:=h7.still hdrew;replace h8:=h8.still hdrew;replace h9:=h9.still hdrew;refine wp_region_noPanic ?_;replace l4:=JX l4 hdrew.size;refine wp_region_held_drew (S:=fun w'=>aT g4 0 16 U3.drew w') (by kernel_rfl) (aT.refl _ _ _ _) (fun hS => ?_);generalize U3.drew=Vd4_ at *;refine tk 0 (ag cr) hS (hy:=(gQ h9 n94 75 9 Tryz.underlying75 aE)) (h := ?_);(try simp only [pS]);refine tk 1 (ag zz) hS (hy:=(gQ h7 n74 75 7 Tryz.underlying75 aE)) (h := ?_);(try simp only [pS]);refine tk 2 (ag tt) hS (hy:=(gQ h8 n84 75 8 Tryz.underlying75 aE)) (h := ?_);(try simp only [pS]);refine tk 4 (ag yy) hS (hy:=(gQ h6 n64 75 6 Tryz.underlying75 aE)) (h := ?_);(try simp only [pS]);refine tk 5 (ag xx) hS (hy:=(gQ h5 n54 75 5 Tryz.underlying75 aE)) (h := ?_);(try simp only [pS]);refine tk 7 (ag zz) hS (hy:=(gQ h7 n74 75 7 Tryz.underlying75 aE)) (h := ?_);(try simp only [pS]);refine tk 8 (ag tt) hS (hy:=(gQ h8 n84 75 8 Tryz.underlying75 aE)) (h := ?_);(try simp only [pS]);refine cl 3 (k12 _) ?_
 (rintro e wd4_1 ⟨rfl,hbd4_1⟩)
 have hSd4_1:=hS.trans (aT.of_below hbd4_1 l4);replace l4:=JX l4 hbd4_1.size;replace hres:=hres.still hbd4_1;refine ⟨_,rfl,hSd4_1,?_⟩;clear hbd4_1;(try simp only [pS]);refine cl 6 (k13 _) ?_
 (rintro e wd4_2 ⟨rfl,hbd4_2⟩)
 have hSd4_2:=hSd4_1.trans (aT.of_below hbd4_2 l4);replace l4:=JX l4 hbd4_2.size;replace hres:=hres.still hbd4_2;refine ⟨_,rfl,hSd4_2,?_⟩;clear hbd4_2;(try simp only [pS]);refine cl 9 (k14 _) ?_
 (rintro e wd4_3 ⟨rfl,hbd4_3⟩)
 have hSd4_3:=hSd4_2.trans (aT.of_below hbd4_3 l4);replace l4:=JX l4 hbd4_3.size;replace hres:=hres.still hbd4_3;refine ⟨_,rfl,hSd4_3,?_⟩;clear hbd4_3;(try simp only [pS]);refine cl 10 (k15 _) ?_
 (rintro e wd4_4 ⟨rfl,hbd4_4⟩)
 have hSd4_4:=hSd4_3.trans (aT.of_below hbd4_4 l4);replace l4:=JX l4 hbd4_4.size;replace hres:=hres.still hbd4_4;refine ⟨_,rfl,hSd4_4,?_⟩;clear hbd4_4;(try simp only [pS]);refine J1 (rs:=[11]) (by kernel_rfl) (by simp) ?_;refine AllReadyH.cons (o:=BS) rfl (fun K hK => ?_) (J6);unfold BS;rw [if_pos (by rfl)];refine wp_store_mid 77 _ _ rfl g4 0 (aw o1 o2 o3 o4).toArray rfl rfl (ej hres _ _ _ _) (a7 _ _ _ _) (bJ _ _ _ _) ?_;have hSd4_5:=hSd4_4.trans (aT.setCells (b:=g4) (o:=0) (n:=16) wd4_4 (aw o1 o2 o3 o4) (JW _) (by rw [kG];exact JW _));replace hres:=hres.stored (aw o1 o2 o3 o4) (et _ _ _ _ _ _ _ _)
 obtain ⟨wd4_5,hwd4_5⟩:∃ W,wd4_4.setCells g4 0 (aw o1 o2 o3 o4)=W:=⟨_,rfl⟩
 rw [hwd4_5] at hres;rw [hwd4_5] at hSd4_5;rw [show wd4_4.setCells g4 0 (aw o1 o2 o3 o4).toArray.toList=wd4_5 from hwd4_5];refine hK.out _ _ hSd4_5 (fun h => ?_);clear h hK K hwd4_5;(try dsimp only [Act.put]);refine wpAnyH_done (by kernel_rfl) ?_ _;refine J8 ?_;clear k12 k13 k14 k15;have fin:=(hbW.trans (hdrew.mono hbW.size)).trans (hSd4_5.below w4 (JY hbW.size hdrew.size));go_wp2;exact bodyPost_ret (ai Tryz.results115 _ _ g4 0 (aw o1 o2 o3 o4) _ rfl hres.range Tryz.underlying77 rfl (bi _ _ _ _)) rfl ⟨rfl,fin⟩
end Go.Proofs.YtibdhadbflfdpaaGreatDoor
