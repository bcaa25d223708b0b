/- What the proof stands on: PEvn, PDcd. -/
import Derived.Test.YtibdhadbflfdpaaGreatDoorPWinM
import Derived.Test.YtibdhadbflfdpaaGreatDoorQAppM
namespace Go.Proofs.YtibdhadbflfdpaaGreatDoor
open Nat renaming le_refl → JW
open Go renaming wpAnyH_ready → J1
open Go.AllReadyH renaming nil → J6
open Go.RowKit
abbrev Gy:Oper:=oS (Op.store 75 (oT 5) (oT 12)) "curve.go:85" #[jD 5,jD 3,jC 6,jP 0,jP 1,jP 2,jP 3,jP 4,jP 5,jP 6]
abbrev GN:Oper:=oS (Op.store 75 (oT 4) (oT 9)) "curve.go:85" #[jD 4,jD 0,jC 3,jP 0,jT 1,jT 2,jU 3,jP 4,jP 5]
abbrev mo:Oper:=oN 5 (Op.alloc 75) 0 "curve.go:85" #[]
abbrev lW:Oper:=oN 4 (Op.alloc 75) 0 "curve.go:85" #[]
abbrev sr:Oper:=oN 12 (dA 98 #[oT 10,oT 11] #[75,75]) 75 "curve.go:85" #[jD 1,jD 2,jC 0]
abbrev sN:Oper:=oN 9 (dA 157 #[Operand.const (Value.int IntKind.i64 1)] #[3]) 75 "curve.go:85" #[]
set_option maxRecDepth 20000 in
set_option maxHeartbeats 16000000 in
theorem AG (y yy u dd dy v n:Nat) (ok:Bool)
 (k1:∀ W,Calls Tryz.prog 157 #[.int .i64 1] W fun e w'=>e = .returned (ag 1)∧Below W.heap.size W w')
 (k2:∀ W,Calls Tryz.prog 98 #[ag y,ag y] W fun e w'=>e = .returned (ag yy)∧Below W.heap.size W w')
 (k3:∀ W,Calls Tryz.prog 112 #[ag yy,ag 1] W fun e w'=>e = .returned (ag u)∧Below W.heap.size W w')
 (k4:∀ W,Calls Tryz.prog 160 #[ag u] W fun e w'=>∃ s,e = .returned s∧ae w' s 32 (bf u)∧Below W.heap.size W w')
 (k5:∀ W,Calls Tryz.prog 174 #[] W fun e w'=>e = .returned (ag dd)∧Below W.heap.size W w')
 (k6:∀ W,Calls Tryz.prog 98 #[ag dd,ag yy] W fun e w'=>e = .returned (ag dy)∧Below W.heap.size W w')
 (k7:∀ W,Calls Tryz.prog 175 #[ag dy,ag 1] W fun e w'=>e = .returned (ag v)∧Below W.heap.size W w')
 (k8:∀ W,Calls Tryz.prog 160 #[ag v] W fun e w'=>∃ s,e = .returned s∧ae w' s 32 (bf v)∧Below W.heap.size W w')
 (k9:∀ a b W,IM W→ae W a 32 (bf u)→ae W b 32 (bf v)→Calls Tryz.prog 173 #[a,b] W fun e w'=>∃ s,e = .returned (.tuple #[s,.bool ok,.int .i64 0])∧jS W w' s 32 (bf n)∧Below W.heap.size W w')
 (kn:∀ a W,ae W a 32 (bf n)→Calls Tryz.prog 110 #[a] W fun e w'=>e = .returned (ag n)∧Below W.heap.size W w')
 (h0:ok=false→n=0) (w:World) (im:IM w):Calls Tryz.prog 111 #[ag y] w fun e w'=>e = .returned (.tuple #[ag n,.bool ok])∧Below w.heap.size w w':=by
 obtain ⟨V1,g1,eg1,hg1,bg1,hy⟩:∃ V g,w.alloc (.cells (c4 y).toArray 75)=V∧w.heap.size=g∧Below w.heap.size w V∧RW V g 0 (c4 y):=⟨_,_,rfl,rfl,(Below.refl _ _).alloc (JW _) _,RW.fresh w _ _⟩
 obtain ⟨W,g2,eg2,hg2,bg2,hres⟩:=cL V1
 have t1:V1.heap.size=w.heap.size+1:=by rw [←eg1];simp
 have HW:Hid (W=(w.alloc (.cells (c4 y).toArray 75)).alloc (.cells #[.int .u64 0,.int .u64 0,.int .u64 0,.int .u64 0] 75)):=Hid.mk' (by rw [←eg2,←eg1]);have q1:Hid (w.heap.size=g1):=Hid.mk' hg1;have q2:Hid (w.heap.size+1=g2):=Hid.mk' (by omega);replace hy:=hy.still bg2;have hbW:Below w.heap.size w W:=bg1.trans (bg2.mono (by omega))
 have w2l:w.heap.size≤g2:=by omega
 replace im:=im.still hbW;clear eg1 eg2 hg1 hg2 bg1 bg2 t1 V1;rw [show ag y = .agg (c4 y).toArray from rfl,show ag n = .agg (c4 n).toArray from rfl];go_enter Tryz.func111,Tryz.ntmps111
 go_upto_region 1 with (fail)
 rw [←HW.out,q2.out,q1.out];clear HW q2 q1
 go_cut [4,5] from 9 (fun s4 s5 wc=>∃ h4 h5:Nat,s4 = .pointer (some ⟨h4,0,none⟩)∧s5 = .pointer (some ⟨h5,0,none⟩)∧Below W.heap.size W wc∧W.heap.size≤h4∧W.heap.size≤h5∧RW wc h4 0 (c4 1)∧RW wc h5 0 (c4 yy))
 case first =>
  clear k3 k4 k5 k6 k7 k8 k9 kn hres im hbW h0;have hdrew:Below W.heap.size W W.drew:=(Below.refl _ _).drew;replace hy:=hy.still hdrew;refine wp_region_noPanic ?_;refine wp_region_held_drew (S:=fun w'=>Below W.drew.heap.size W.drew w') (by kernel_rfl) (Below.refl _ _) (fun hS => ?_);generalize W.drew=Vev1_ at *;refine tk 1 (ag y) hS (hy:=(iu hy 1)) (h := ?_);(try simp only [pS]);refine tk 2 (ag y) hS (hy:=(iu hy 1)) (h := ?_);(try simp only [pS]);refine iQ (fun G hG0 => ?_);have hG:=Hid.mk' hG0;clear hG0
  obtain ⟨F,hF0⟩:∃ F:Value→Value→Value→Value→Act,∀ v4 v5 v9 v12,F v4 v5 v9 v12={ tmps:=#[.agg (c4 y).toArray,pA g1 0,pA g2 0,.bool false,v4,v5,undef,undef,undef,v9,ag y,ag y,v12,undef,undef,undef,undef,undef,undef,undef,undef,undef,undef,undef,undef,undef,undef,undef,undef,undef,undef,undef,undef],defers:=[] }:=⟨_,fun _ _ _ _=>rfl⟩
  have hF:=Hid.mk' hF0;clear hF0
  have stev1_0:Hid (∀ (cur:World) (g4 g5:Nat),Below Vev1_.heap.size Vev1_ cur→RW cur g4 0 (c4 (1))→RW cur g5 0 (c4 (yy))→Vev1_.heap.size≤g4→Vev1_.heap.size≤g5→g4≠g5→G 0 #[true,true,true,true,true,true,true,true] (F (pA g4 0) (pA g5 0) (ag 1) (ag yy)) cur):=Hid.mk' (by
   intro cur g4 g5 hS r4 r5 G4 G5 d4_5;rw [hF.out,hG.out];refine wpAnyH_done (by kernel_rfl) ?_ _;refine NoPanic.normal ?_;go_wp2;go_meet
   case rel=>exact ⟨g4,g5,rfl,rfl,aa hdrew hS,Nat.le_trans hdrew.size G4,Nat.le_trans hdrew.size G5,r4,r5⟩)
  have stev1_1:Hid (∀ (cur:World) (g4 g5:Nat),Below Vev1_.heap.size Vev1_ cur→RW cur g4 0 (c4 (1))→RW cur g5 0 (c4 (0))→Vev1_.heap.size≤g4→Vev1_.heap.size≤g5→g4≠g5→G 1 #[true,true,true,true,true,true,true,false] (F (pA g4 0) (pA g5 0) (ag 1) (ag yy)) cur):=Hid.mk' (by
   intro cur g4 g5 hS r4 r5 G4 G5 d4_5;rw [hF.out,hG.out];refine J1 (rs:=[7]) (by kernel_rfl) (by simp) ?_;refine DJ Gy 5 12 (yy) r5 hS G5 (fun w1 rr hS1 far=>ar hG (stev1_0.out w1 g4 g5 hS1 (far _ _ _ d4_5 r4) rr G4 G5 d4_5) (hF.out _ _ _ _)) ?_
   exact J6)
  have stev1_2:Hid (∀ (cur:World) (g4 g5:Nat),Below Vev1_.heap.size Vev1_ cur→RW cur g4 0 (c4 (0))→RW cur g5 0 (c4 (0))→Vev1_.heap.size≤g4→Vev1_.heap.size≤g5→g4≠g5→G 2 #[true,true,true,true,true,true,false,false] (F (pA g4 0) (pA g5 0) (ag 1) (ag yy)) cur):=Hid.mk' (by
   intro cur g4 g5 hS r4 r5 G4 G5 d4_5;rw [hF.out,hG.out];clear stev1_0;refine J1 (rs:=[6]) (by kernel_rfl) (by simp) ?_;refine DJ GN 4 9 (1) r4 hS G4 (fun w1 rr hS1 far=>ar hG (stev1_1.out w1 g4 g5 hS1 rr (far _ _ _ d4_5.symm r5) G4 G5 d4_5) (hF.out _ _ _ _)) ?_
   exact J6)
  have stev1_3:Hid (∀ (cur:World) (g4:Nat),Below Vev1_.heap.size Vev1_ cur→RW cur g4 0 (c4 (0))→Vev1_.heap.size≤g4→G 3 #[true,true,true,true,true,false,false,false] (F (pA g4 0) undef (ag 1) (ag yy)) cur):=Hid.mk' (by
   intro cur g4 hS r4 G4;rw [hF.out,hG.out];clear stev1_0 stev1_1;refine J1 (rs:=[5]) (by kernel_rfl) (by simp) ?_;refine bT mo hS (fun w1 g5 G5 lg hb rr hS1=>ar hG (stev1_2.out w1 g4 g5 hS1 (r4.still hb) rr G4 G5 (dz r4 lg)) (hF.out _ _ _ _)) ?_
   exact J6)
  have stev1_4:Hid (∀ (cur:World) (g5:Nat),Below Vev1_.heap.size Vev1_ cur→RW cur g5 0 (c4 (0))→Vev1_.heap.size≤g5→G 3 #[true,true,true,true,false,true,false,false] (F undef (pA g5 0) (ag 1) (ag yy)) cur):=Hid.mk' (by
   intro cur g5 hS r5 G5;rw [hF.out,hG.out];clear stev1_0 stev1_1 stev1_3;refine J1 (rs:=[4]) (by kernel_rfl) (by simp) ?_;refine bT lW hS (fun w1 g4 G4 lg hb rr hS1=>ar hG (stev1_2.out w1 g4 g5 hS1 rr (r5.still hb) G4 G5 (dG r5 lg)) (hF.out _ _ _ _)) ?_
   exact J6)
  have stev1_5:Hid (∀ (cur:World),Below Vev1_.heap.size Vev1_ cur→G 4 #[true,true,true,true,false,false,false,false] (F undef undef (ag 1) (ag yy)) cur):=Hid.mk' (by
   intro cur  hS ;rw [hF.out,hG.out];clear stev1_0 stev1_1 stev1_2;refine J1 (rs:=[4,5]) (by kernel_rfl) (by simp) ?_;refine bT lW hS (fun w1 g4 G4 lg hb rr hS1=>ar hG (stev1_3.out w1 g4 hS1 rr G4) (hF.out _ _ _ _)) ?_;refine bT mo hS (fun w1 g5 G5 lg hb rr hS1=>ar hG (stev1_4.out w1 g5 hS1 rr G5) (hF.out _ _ _ _)) ?_
   exact J6)
  have stev1_6:Hid (∀ (cur:World) (g4 g5:Nat),Below Vev1_.heap.size Vev1_ cur→RW cur g4 0 (c4 (0))→RW cur g5 0 (c4 (0))→Vev1_.heap.size≤g4→Vev1_.heap.size≤g5→g4≠g5→G 3 #[true,true,true,false,true,true,false,false] (F (pA g4 0) (pA g5 0) (ag 1) undef) cur):=Hid.mk' (by
   intro cur g4 g5 hS r4 r5 G4 G5 d4_5;rw [hF.out,hG.out];clear stev1_0 stev1_1 stev1_3 stev1_4 stev1_5;refine J1 (rs:=[3]) (by kernel_rfl) (by simp) ?_;refine dr sr (k2 _) (fun e w1 ⟨he,hb⟩=>⟨_,he,aa hS hb,ar hG (stev1_2.out w1 g4 g5 (aa hS hb) (r4.still hb) (r5.still hb) G4 G5 d4_5) (hF.out _ _ _ _)⟩) ?_
   exact J6)
  have stev1_7:Hid (∀ (cur:World) (g4:Nat),Below Vev1_.heap.size Vev1_ cur→RW cur g4 0 (c4 (0))→Vev1_.heap.size≤g4→G 4 #[true,true,true,false,true,false,false,false] (F (pA g4 0) undef (ag 1) undef) cur):=Hid.mk' (by
   intro cur g4 hS r4 G4;rw [hF.out,hG.out];clear stev1_0 stev1_1 stev1_2 stev1_4 stev1_5;refine J1 (rs:=[3,5]) (by kernel_rfl) (by simp) ?_;refine dr sr (k2 _) (fun e w1 ⟨he,hb⟩=>⟨_,he,aa hS hb,ar hG (stev1_3.out w1 g4 (aa hS hb) (r4.still hb) G4) (hF.out _ _ _ _)⟩) ?_;refine bT mo hS (fun w1 g5 G5 lg hb rr hS1=>ar hG (stev1_6.out w1 g4 g5 hS1 (r4.still hb) rr G4 G5 (dz r4 lg)) (hF.out _ _ _ _)) ?_
   exact J6)
  have stev1_8:Hid (∀ (cur:World) (g5:Nat),Below Vev1_.heap.size Vev1_ cur→RW cur g5 0 (c4 (0))→Vev1_.heap.size≤g5→G 4 #[true,true,true,false,false,true,false,false] (F undef (pA g5 0) (ag 1) undef) cur):=Hid.mk' (by
   intro cur g5 hS r5 G5;rw [hF.out,hG.out];clear stev1_0 stev1_1 stev1_2 stev1_3 stev1_5 stev1_7;refine J1 (rs:=[3,4]) (by kernel_rfl) (by simp) ?_;refine dr sr (k2 _) (fun e w1 ⟨he,hb⟩=>⟨_,he,aa hS hb,ar hG (stev1_4.out w1 g5 (aa hS hb) (r5.still hb) G5) (hF.out _ _ _ _)⟩) ?_;refine bT lW hS (fun w1 g4 G4 lg hb rr hS1=>ar hG (stev1_6.out w1 g4 g5 hS1 rr (r5.still hb) G4 G5 (dG r5 lg)) (hF.out _ _ _ _)) ?_
   exact J6)
  have stev1_9:Hid (∀ (cur:World),Below Vev1_.heap.size Vev1_ cur→G 5 #[true,true,true,false,false,false,false,false] (F undef undef (ag 1) undef) cur):=Hid.mk' (by
   intro cur  hS ;rw [hF.out,hG.out];clear stev1_0 stev1_1 stev1_2 stev1_3 stev1_4 stev1_6;refine J1 (rs:=[3,4,5]) (by kernel_rfl) (by simp) ?_;refine dr sr (k2 _) (fun e w1 ⟨he,hb⟩=>⟨_,he,aa hS hb,ar hG (stev1_5.out w1  (aa hS hb) ) (hF.out _ _ _ _)⟩) ?_;refine bT lW hS (fun w1 g4 G4 lg hb rr hS1=>ar hG (stev1_7.out w1 g4 hS1 rr G4) (hF.out _ _ _ _)) ?_;refine bT mo hS (fun w1 g5 G5 lg hb rr hS1=>ar hG (stev1_8.out w1 g5 hS1 rr G5) (hF.out _ _ _ _)) ?_
   exact J6)
  have stev1_10:Hid (∀ (cur:World) (g4 g5:Nat),Below Vev1_.heap.size Vev1_ cur→RW cur g4 0 (c4 (0))→RW cur g5 0 (c4 (0))→Vev1_.heap.size≤g4→Vev1_.heap.size≤g5→g4≠g5→G 4 #[false,true,true,false,true,true,false,false] (F (pA g4 0) (pA g5 0) undef undef) cur):=Hid.mk' (by
   intro cur g4 g5 hS r4 r5 G4 G5 d4_5;rw [hF.out,hG.out];clear stev1_0 stev1_1 stev1_2 stev1_3 stev1_4 stev1_5 stev1_7 stev1_8 stev1_9;refine J1 (rs:=[0]) (by kernel_rfl) (by simp) ?_;refine dr sN (k1 _) (fun e w1 ⟨he,hb⟩=>⟨_,he,aa hS hb,ar hG (stev1_6.out w1 g4 g5 (aa hS hb) (r4.still hb) (r5.still hb) G4 G5 d4_5) (hF.out _ _ _ _)⟩) ?_
   exact J6)
  have stev1_11:Hid (∀ (cur:World) (g4:Nat),Below Vev1_.heap.size Vev1_ cur→RW cur g4 0 (c4 (0))→Vev1_.heap.size≤g4→G 5 #[false,true,true,false,true,false,false,false] (F (pA g4 0) undef undef undef) cur):=Hid.mk' (by
   intro cur g4 hS r4 G4;rw [hF.out,hG.out];clear stev1_0 stev1_1 stev1_2 stev1_3 stev1_4 stev1_5 stev1_6 stev1_8 stev1_9;refine J1 (rs:=[0,5]) (by kernel_rfl) (by simp) ?_;refine dr sN (k1 _) (fun e w1 ⟨he,hb⟩=>⟨_,he,aa hS hb,ar hG (stev1_7.out w1 g4 (aa hS hb) (r4.still hb) G4) (hF.out _ _ _ _)⟩) ?_;refine bT mo hS (fun w1 g5 G5 lg hb rr hS1=>ar hG (stev1_10.out w1 g4 g5 hS1 (r4.still hb) rr G4 G5 (dz r4 lg)) (hF.out _ _ _ _)) ?_
   exact J6)
  have stev1_12:Hid (∀ (cur:World) (g5:Nat),Below Vev1_.heap.size Vev1_ cur→RW cur g5 0 (c4 (0))→Vev1_.heap.size≤g5→G 5 #[false,true,true,false,false,true,false,false] (F undef (pA g5 0) undef undef) cur):=Hid.mk' (by
   intro cur g5 hS r5 G5;rw [hF.out,hG.out];clear stev1_0 stev1_1 stev1_2 stev1_3 stev1_4 stev1_5 stev1_6 stev1_7 stev1_9 stev1_11;refine J1 (rs:=[0,4]) (by kernel_rfl) (by simp) ?_;refine dr sN (k1 _) (fun e w1 ⟨he,hb⟩=>⟨_,he,aa hS hb,ar hG (stev1_8.out w1 g5 (aa hS hb) (r5.still hb) G5) (hF.out _ _ _ _)⟩) ?_;refine bT lW hS (fun w1 g4 G4 lg hb rr hS1=>ar hG (stev1_10.out w1 g4 g5 hS1 rr (r5.still hb) G4 G5 (dG r5 lg)) (hF.out _ _ _ _)) ?_
   exact J6)
  have stev1_13:Hid (∀ (cur:World),Below Vev1_.heap.size Vev1_ cur→G 6 #[false,true,true,false,false,false,false,false] (F undef undef undef undef) cur):=Hid.mk' (by
   intro cur  hS ;rw [hF.out,hG.out];clear stev1_0 stev1_1 stev1_2 stev1_3 stev1_4 stev1_5 stev1_6 stev1_7 stev1_8 stev1_10;refine J1 (rs:=[0,4,5]) (by kernel_rfl) (by simp) ?_;refine dr sN (k1 _) (fun e w1 ⟨he,hb⟩=>⟨_,he,aa hS hb,ar hG (stev1_9.out w1  (aa hS hb) ) (hF.out _ _ _ _)⟩) ?_;refine bT lW hS (fun w1 g4 G4 lg hb rr hS1=>ar hG (stev1_11.out w1 g4 hS1 rr G4) (hF.out _ _ _ _)) ?_;refine bT mo hS (fun w1 g5 G5 lg hb rr hS1=>ar hG (stev1_12.out w1 g5 hS1 rr G5) (hF.out _ _ _ _)) ?_
   exact J6)
  rw [hG.out];exact ar hG (stev1_13.out Vev1_ hS) (hF.out _ _ _ _)
 case rest =>
 obtain ⟨b4,b5,rfl,rfl,hb1,B4,B5,h4,h5⟩:=hcut;replace hres:=hres.still hb1;replace im:=im.still hb1;replace hbW:=aa hbW hb1
 obtain ⟨U,hU⟩:∃ W,W=wc:=⟨_,rfl⟩
 rw [←hU];rw [←hU] at hres im hbW h4 h5;clear hU hb1 B4 B5 hy k1 k2
 go_upto_region 2 with (fail)
 have hdrew:Below U.heap.size U U.drew:=(Below.refl _ _).drew;replace hres:=hres.still hdrew;replace h4:=h4.still hdrew;replace h5:=h5.still hdrew;replace im:=im.still hdrew;replace hbW:=aa hbW hdrew;clear hdrew;refine wp_region_noPanic ?_;refine wp_region_held_drew (S:=fun w'=>Below U.drew.heap.size U.drew w') (by kernel_rfl) (Below.refl _ _) (fun hHeld => ?_);clear hHeld;refine tk 0 (ag yy) bR (hy:=(d9 h5 75 5 Tryz.underlying75 aE)) (h := ?_);(try simp only [pS]);refine tk 1 (ag 1) bR (hy:=(d9 h4 75 4 Tryz.underlying75 aE)) (h := ?_);(try simp only [pS]);refine tk 5 (ag yy) bR (hy:=(d9 h5 75 5 Tryz.underlying75 aE)) (h := ?_);(try simp only [pS]);refine tk 7 (ag 1) bR (hy:=(d9 h4 75 4 Tryz.underlying75 aE)) (h := ?_);(try simp only [pS]);refine cn 2 (k3 _) ?_;(clear k3;rintro e w1 ⟨rfl,hb1⟩);refine ⟨_,rfl,hb1,?_⟩;replace hres:=hres.still hb1;replace h4:=h4.still hb1;replace h5:=h5.still hb1;replace im:=im.still hb1;replace hbW:=aa hbW hb1;clear hb1;(try simp only [pS]);refine cn 3 (k4 _) ?_;(clear k4;rintro e w2 ⟨s2,rfl,tu,hb2⟩);refine ⟨_,rfl,hb2,?_⟩;replace hres:=hres.still hb2;replace h4:=h4.still hb2;replace h5:=h5.still hb2;replace im:=im.still hb2;replace hbW:=aa hbW hb2;clear hb2;(try simp only [pS]);refine cn 4 (k5 _) ?_;(clear k5;rintro e w3 ⟨rfl,hb3⟩);refine ⟨_,rfl,hb3,?_⟩;replace hres:=hres.still hb3;replace h4:=h4.still hb3;replace h5:=h5.still hb3;replace im:=im.still hb3;replace tu:=tu.still hb3;replace hbW:=aa hbW hb3;clear hb3;(try simp only [pS]);refine cn 6 (k6 _) ?_;(clear k6;rintro e w4 ⟨rfl,hb4⟩);refine ⟨_,rfl,hb4,?_⟩;replace hres:=hres.still hb4;replace h4:=h4.still hb4;replace h5:=h5.still hb4;replace im:=im.still hb4;replace tu:=tu.still hb4;replace hbW:=aa hbW hb4;clear hb4;(try simp only [pS]);refine cn 8 (k7 _) ?_;(clear k7;rintro e w5 ⟨rfl,hb5⟩);refine ⟨_,rfl,hb5,?_⟩;replace hres:=hres.still hb5;replace h4:=h4.still hb5;replace h5:=h5.still hb5;replace im:=im.still hb5;replace tu:=tu.still hb5;replace hbW:=aa hbW hb5;clear hb5;(try simp only [pS]);refine cn 9 (k8 _) ?_;(clear k8;rintro e w6 ⟨s6,rfl,tv,hb6⟩);refine ⟨_,rfl,hb6,?_⟩;replace hres:=hres.still hb6;replace h4:=h4.still hb6;replace h5:=h5.still hb6;replace im:=im.still hb6;replace tu:=tu.still hb6;replace hbW:=aa hbW hb6;clear hb6;(try simp only [pS]);refine cn 10 (k9 _ _ _ im tu tv) ?_;(clear k9;rintro e w7 ⟨s7,rfl,tr,hb7⟩;(obtain ⟨gr,hsr,-,hrr⟩:=tr);(have lgr:=block_lt_of_cell (hrr 0 (by decide)).1);subst hsr);refine ⟨_,rfl,hb7,?_⟩;clear tu;clear tv;clear im;clear h4;clear h5;replace hres:=hres.still hb7;replace hbW:=aa hbW hb7;clear hb7;(try simp only [pS]);refine tg 11 bR ?_;(try simp only [pS]);refine tg 12 bR ?_;(try simp only [pS]);refine tg 13 bR ?_;(try simp only [pS]);refine tg 14 bR ?_;(try simp only [pS]);refine tg 15 bR ?_;(try simp only [pS]);refine tg 16 bR ?_;(try simp only [pS]);refine tg 17 bR ?_;(try simp only [pS]);refine wpAnyH_done (by kernel_rfl) ?_ _;refine NoPanic.normal ?_;have hB:ae w7 (.slice (some ⟨gr,0,none⟩) 32 32) 32 (bf n) := .inr ⟨gr,0,32,rfl,lgr,JW _,fun j hj=>(hrr j hj).1⟩
 cases hok:ok with
 | false =>
  have HOk:=Hid.mk' hok;have hn:=h0 hok;have Hn:=Hid.mk' hn;clear h0 hok hrr hB kn hn;have t2:w7.there g2 0 (c4 0).toArray.size:=hres.there
  go_wp2_with (first
   | (refine be rfl 75 rfl _ jZ ?_)
   | (with_reducible (refine id (?_:wpList _ _ _ _ _ _));refine wpList_store_mid rfl 75 _ _ rfl g2 0 (c4 0).toArray rfl rfl t2 (cN 0) (fS 0) ?_))
  (try simp only [Exit.inBlock,Exit.then]);rw [Hn.out];exact bodyPost_ret (am Tryz.results111 _ _ g2 0 (c4 0) _ rfl (hres.stored (c4 0) rfl).range Tryz.underlying75 rfl aE) rfl ⟨by rw [HOk.out];rfl,ac w2l _ _ _ hbW⟩
 | true =>
  have HOk:=Hid.mk' hok
  have kn2:Calls Tryz.prog 110 #[.slice (some ⟨gr,0,none⟩) 32 32] w7 fun e w'=>e = .returned (.agg (c4 n).toArray)∧Below w7.heap.size w7 w':=kn _ _ hB
  clear h0 hok hrr hB kn
  go_wp2_with (first
   | (go_at_call 110;refine kn2.mono ?_;clear kn2;rintro e w8 ⟨rfl,hb8⟩;(replace hres:=hres.still hb8);(replace hbW:=aa hbW hb8);clear hb8;(have t2:w8.there g2 0 (c4 n).toArray.size:=hres.there))
   | (with_reducible (refine id (?_:wpList _ _ _ _ _ _));refine wpList_store_mid rfl 75 _ _ rfl g2 0 (c4 n).toArray rfl rfl t2 (cN n) (fS n) ?_))
  (try simp only [Exit.inBlock,Exit.then]);exact bodyPost_ret (am Tryz.results111 _ _ g2 0 (c4 n) _ rfl (hres.stored (c4 n) rfl).range Tryz.underlying75 rfl aE) rfl ⟨by rw [HOk.out];rfl,ac w2l _ _ _ hbW⟩
theorem lI {n:Nat} (h:n<pF):aK (bf n) 32%pF=n:=by
 have hp:pF<256 ^ 32:=by decide
 rw [ed,Nat.mod_eq_of_lt (Nat.lt_trans h hp),Nat.mod_eq_of_lt h]
theorem Hi {n:Nat} (h:n<pF):fV 32 (bf n)=n:=by
 unfold fV;rw [if_pos rfl,lI h]
theorem tW (n:Nat) (w:World):Calls Tryz.prog 160 #[ag n] w fun e w'=>∃ s,e = .returned s∧ae w' s 32 (bf n)∧Below w.heap.size w w' :=
 (gI n w).mono fun _ _ ⟨g,he,hg,hr,hb⟩=>⟨_,he,jS.bytes ⟨g,rfl,hg,hr⟩ (by decide),hb⟩
theorem uq {k u v:Nat} (hk:8*k+5=pF) (hu:u<pF) (hv:v<pF):(df k u v).getD 0<pF:=by
 rw [mf hk hu hv];exact mw k u v
theorem Ap (o:Option Nat) (h:o.isSome=false):o.getD 0=0:=by cases o with | none=>rfl | some x=>cases h
theorem zv (y:Nat) (hy:y<pF) (w:World) (im:IM w) :
 Calls Tryz.prog 111 #[ag y] w fun e w'=>e = .returned (.tuple #[ag ((df kP (dV y) (d8 y)).getD 0),.bool (df kP (dV y) (d8 y)).isSome])∧Below w.heap.size w w':=by
 have hu:dV y<pF:=dn _ _;have hv:d8 y<pF:=eb _ _;have hl:=uq yp hu hv
 have k9:∀ a b W,IM W→ae W a 32 (bf (dV y))→ae W b 32 (bf (d8 y))→Calls Tryz.prog 173 #[a,b] W fun e w'=>∃ s,e = .returned (.tuple #[s,.bool (df kP (dV y) (d8 y)).isSome,.int .i64 0])∧jS W w' s 32 (bf ((df kP (dV y) (d8 y)).getD 0))∧Below W.heap.size W w':=fun a b W im ha hb=>by
  have k:=ww a b _ _ (bS _) (bS _) W im ha hb;rw [lI hu,lI hv] at k;exact k
 have kn:∀ a W,ae W a 32 (bf ((df kP (dV y) (d8 y)).getD 0))→Calls Tryz.prog 110 #[a] W fun e w'=>e = .returned (ag ((df kP (dV y) (d8 y)).getD 0))∧Below W.heap.size W w':=fun a W ha=>by
  have k:=fd a 32 _ (bS _) W ha;rw [Hi hl] at k;exact k
 have hz:=Ap (df kP (dV y) (d8 y));generalize df kP (dV y) (d8 y)=R at *;exact AG y (av y y) (dV y) dN (av dN (av y y)) (d8 y) (R.getD 0) R.isSome (fun W=>jJ 1 (by decide) W) (fun W=>aI y y hy hy W) (fun W=>dJ _ _ (aJ _ _) (by decide) W) (fun W=>tW _ W) (fun W=>nO W) (fun W=>aI _ _ Ce (aJ _ _) W) (fun W=>eY _ _ (aJ _ _) (by decide) W) (fun W=>tW _ W) k9 kn hz w im
set_option maxRecDepth 20000 in
set_option maxHeartbeats 4000000 in
theorem zG (v:Value) (bs:Nat→Nat) (w:World) (hv:ae w v 32 bs) :
 Calls Tryz.prog 109 #[v] w fun e w'=>∃ g cap,e = .returned (.slice (some ⟨g,0,none⟩) 32 cap)∧w.heap.size≤g∧g<w'.heap.size∧32≤cap∧ah .u8 w' g 0 32 bs∧Below w.heap.size w w':=by
 obtain ⟨bb,ob,cap,hsl,hlb,hcap,hc⟩:∃ bb ob cap,v = .slice (some ⟨bb,ob,none⟩) 32 cap∧bb<w.heap.size∧32≤cap∧∀ j,j<32→w.cell? ⟨bb,ob+j,none⟩=some (.int .u8 (bs j)):=hv.resolve_left (fun ⟨_,_,h⟩=>by omega)
 have src0:=(ae.src hv)
 subst hsl;obtain ⟨xo,kv,hxo,hun,-,hsrc⟩:=src0;have src1:=hsrc (w.alloc (.cells #[] 5)) ((Below.refl _ _).alloc (JW _) _)
 obtain ⟨rfl,rfl⟩:some (⟨bb,ob,none⟩:Addr)=xo∧cap=kv:=by injection hxo with a b c;exact ⟨a,c⟩
 clear hsrc hxo hv hc;go_enter Tryz.func109,Tryz.ntmps109
 go_wp2_with (first
  | (refine tC rfl _ _ _ rfl ⟨bb,ob,none⟩ 32 cap rfl rfl ?_)
  | (at_builtin;refine bn rfl (.tmp 5) (.tmp 6) rfl w.heap.size bs _ rfl rfl (some ⟨bb,ob,none⟩) 32 cap rfl src1 hun (by omega) (JW _) ?_;intro v4 w4 own4 hb4;clear src1;(obtain ⟨g4,cap4,hv4,hg4,hgl4,hcap4,row4⟩:∃ g cap,v4 = .slice (some ⟨g,0,none⟩) 32 cap∧w.heap.size≤g∧g<w4.heap.size∧32≤cap∧ah .u8 w4 g 0 32 bs:=own4.form.resolve_left (fun h=>by omega));subst hv4;clear own4))
 go_ret;exact ⟨g4,cap4,rfl,hg4,hgl4,hcap4,row4,hb4⟩
theorem Eo:∀ b:Nat,b<256→bits .and .u8 (b:Int) 128=((128*(b / 128):Nat):Int):=by decide +kernel
theorem Iw:∀ b:Nat,b<256→bits .andNot .u8 (b:Int) 128=((b%128:Nat):Int):=by decide +kernel
theorem gN (x:Nat) {y:Nat} (hy:y<pF) (j:Nat):dt x y j<256:=by
 have h:=eu hy;have h2:=dD y j;unfold dt
 split <;> omega
theorem qS {x y:Nat} (hy:y<pF) {bs:Nat→Nat} (hbs:∀ j,bs j<256) (h:∀ j,j<32→dt x y j=bs j):((bF 32 (dt x y)).toList == (bF 32 bs).toList)=true:=by
 rw [(fY (gN x hy) hbs).2 ⟨rfl,h⟩];exact beq_self_eq_true _
theorem qm {x y:Nat} (hy:y<pF) {bs:Nat→Nat} (hbs:∀ j,bs j<256) (h:¬∀ j,j<32→dt x y j=bs j):((bF 32 (dt x y)).toList == (bF 32 bs).toList)=false:=by
 rw [ByteArray.toList_eq,ByteArray.toList_eq];exact beq_false_of_ne (fun e=>h ((fY (gN x hy) hbs).1 (WideShapes.bytes_inj e)).2)
def mj (bs:Nat→Nat) (x:Nat):Nat:=if bs 31 / 128=1 then cj 0 x else x
theorem EO (bs:Nat→Nat) {x:Nat} (hx:x<pF):mj bs x<pF:=by unfold mj;split;exact dn _ _;exact hx
theorem BD (y:Nat):df kP (dV y) (d8 y)=eE kP (dV y) (d8 y):=mf yp (dn _ _) (eb _ _)
theorem Ez {bs:Nat→Nat} (h:aK (fR bs) 32<pF) (ho:eE kP (dV (aK (fR bs) 32)) (d8 (aK (fR bs) 32))=none):bv bs=none:=by
 unfold bv;rw [if_pos h,ho]
theorem tO {bs:Nat→Nat} (h:aK (fR bs) 32<pF) {x:Nat} (ho:eE kP (dV (aK (fR bs) 32)) (d8 (aK (fR bs) 32))=some x):bv bs=if bs 31 / 128=1∧x=0 then none else some (eO (mj bs x) (aK (fR bs) 32)):=by
 unfold bv mj;rw [if_pos h,ho]
theorem uw {bs:Nat→Nat} (h:¬aK (fR bs) 32<pF):bv bs=none:=by unfold bv;rw [if_neg h]
theorem De {bs:Nat→Nat} {y:Nat} (hy:aK (fR bs) 32%pF=y) (hR:df kP (dV y) (d8 y)=none):bv bs=none:=by
 by_cases h:aK (fR bs) 32<pF
 · rw [Nat.mod_eq_of_lt h] at hy
   rw [BD,←hy] at hR;exact Ez h hR
 · exact uw h
theorem vX {bs:Nat→Nat} (hbs:∀ j,bs j<256) {x y:Nat} (hy:y<pF) (h:∀ j,j<32→dt x y j=bs j):(∀ j,j<32→bf y j=fR bs j)∧x%2=bs 31 / 128:=by
 have h31:=h 31 (by decide);have hl:=eu hy;have hb:=hbs 31;unfold dt at h31;rw [if_pos rfl] at h31;refine ⟨fun j hj => ?_,by omega⟩;unfold fR
 by_cases e:j=31
 · rw [if_pos e,e];omega
 · rw [if_neg e]
   have:=h j hj;unfold dt at this
   rwa [if_neg e] at this
theorem Cm {bs:Nat→Nat} (hbs:∀ j,bs j<256) {x y:Nat} (hy:aK (fR bs) 32%pF=y) (hR:df kP (dV y) (d8 y)=some x) (h:∀ j,j<32→dt (mj bs x) y j=bs j):bv bs=some (eO (mj bs x) y):=by
 have hyl:y<pF:=by rw [←hy];exact Nat.mod_lt _ (by decide)
 obtain ⟨h1,h2⟩:=vX hbs hyl h
 have hp:pF<256 ^ 32:=by decide
 have e:y=aK (fR bs) 32:=by
  have:=dP 32 h1
  rwa [ed,Nat.mod_eq_of_lt (Nat.lt_trans hyl hp)] at this
 rw [BD,e] at hR;rw [tO (by rw [←e];exact hyl) hR,←e,if_neg];intro ⟨ho,h0⟩;unfold mj at h2;rw [if_pos ho,ho,h0] at h2;exact absurd h2 (by decide)
theorem zw {bs:Nat→Nat} (hbs:∀ j,bs j<256) {x y:Nat} (hy:aK (fR bs) 32%pF=y) (hR:df kP (dV y) (d8 y)=some x) (hx:x<pF) (h:¬∀ j,j<32→dt (mj bs x) y j=bs j):bv bs=none:=by
 by_cases hl:aK (fR bs) 32<pF
 · rw [Nat.mod_eq_of_lt hl] at hy
   obtain ⟨-,h2⟩:=yS (dn _ _) hR;have hR':=hR;rw [BD,←hy] at hR';rw [tO hl hR']
   by_cases hz:bs 31 / 128=1∧x=0
   · rw [if_pos hz]
   · exfalso
     refine h fun j hj => ?_
     have hb:=hbs 31
     have hodd:mj bs x%2=bs 31 / 128:=by
      unfold mj
      by_cases ho:bs 31 / 128=1
      · rw [if_pos ho,ho];exact uY (fun h0=>hz ⟨ho,h0⟩) hx h2
      · rw [if_neg ho];omega
     have hbyt:bf y j=fR bs j:=by rw [←hy];exact fD _ (jK hbs) 32 j hj
     unfold fR at hbyt;unfold dt
     by_cases e:j=31
     · rw [if_pos e] at hbyt ⊢
       rw [e] at hbyt ⊢;rw [hbyt,hodd];omega
     · rw [if_neg e] at hbyt ⊢
       exact hbyt
 · exact uw hl
end Go.Proofs.YtibdhadbflfdpaaGreatDoor
