/- What the proof stands on: PEvn, PDcd, PDcw, PInst7, S7Laid. -/
import Derived.Test.YtdgkmloabificaaGreatDoorCards
import Derived.Test.YtdgkmloabificaaGreatDoorPEncM
import Derived.Test.YtdgkmloabificaaGreatDoorRDec6M
import Derived.Test.YtdgkmloabificaaGreatDoorRMulM
import Derived.Test.YtdgkmloabificaaGreatDoorTie
import Derived.Laws.Cover3
import Derived.Lib.LaidTab
namespace Go.Proofs.YtdgkmloabificaaGreatDoor
open Go.RowKit
abbrev qev1x7:Oper:=oS (Op.store 51 (oT 5) (oT 12)) "curve.go:85" #[jD 5,jD 3,jC 6,jP 0,jP 1,jP 2,jP 3,jP 4,jP 5,jP 6]
abbrev qev1x6:Oper:=oS (Op.store 51 (oT 4) (oT 9)) "curve.go:85" #[jD 4,jD 0,jC 3,jP 0,jT 1,jT 2,jU 3,jP 4,jP 5]
abbrev qev1x5:Oper:=oN 5 (Op.alloc 51) 0 "curve.go:85" #[]
abbrev qev1x4:Oper:=oN 4 (Op.alloc 51) 0 "curve.go:85" #[]
abbrev qev1x3:Oper:=oN 12 (cF1 53 #[oT 10,oT 11] #[51,51]) 51 "curve.go:85" #[jD 1,jD 2,jC 0]
abbrev qev1x0:Oper:=oN 9 (cF1 89 #[Operand.const (Value.int IntKind.i64 1)] #[3]) 51 "curve.go:85" #[]
set_option maxRecDepth 20000 in
set_option maxHeartbeats 16000000 in
theorem evenX_raw (y yy u dd dy v n:Nat) (ok:Bool)
 (k1:∀ W,Calls Tryz.prog 89 #[.int .i64 1] W fun e w'=>e = .returned (numV 1)∧Below W.heap.size W w')
 (k2:∀ W,Calls Tryz.prog 53 #[numV y,numV y] W fun e w'=>e = .returned (numV yy)∧Below W.heap.size W w')
 (k3:∀ W,Calls Tryz.prog 63 #[numV yy,numV 1] W fun e w'=>e = .returned (numV u)∧Below W.heap.size W w')
 (k4:∀ W,Calls Tryz.prog 92 #[numV u] W fun e w'=>∃ s,e = .returned s∧BytesIn w' s 32 (byt u)∧Below W.heap.size W w')
 (k5:∀ W,Calls Tryz.prog 103 #[] W fun e w'=>e = .returned (numV dd)∧Below W.heap.size W w')
 (k6:∀ W,Calls Tryz.prog 53 #[numV dd,numV yy] W fun e w'=>e = .returned (numV dy)∧Below W.heap.size W w')
 (k7:∀ W,Calls Tryz.prog 104 #[numV dy,numV 1] W fun e w'=>e = .returned (numV v)∧Below W.heap.size W w')
 (k8:∀ W,Calls Tryz.prog 92 #[numV v] W fun e w'=>∃ s,e = .returned s∧BytesIn w' s 32 (byt v)∧Below W.heap.size W w')
 (k9:∀ a b W,IM W→BytesIn W a 32 (byt u)→BytesIn W b 32 (byt v)→Calls Tryz.prog 102 #[a,b] W fun e w'=>∃ s,e = .returned (.tuple #[s,.bool ok,.int .i64 0])∧NewB W w' s 32 (byt n)∧Below W.heap.size W w')
 (kn:∀ a W,BytesIn W a 32 (byt n)→Calls Tryz.prog 61 #[a] W fun e w'=>e = .returned (numV n)∧Below W.heap.size W w')
 (h0:ok=false→n=0) (w:World) (im:IM w):Calls Tryz.prog 62 #[numV y] w fun e w'=>e = .returned (.tuple #[numV n,.bool ok])∧Below w.heap.size w w':=by
 obtain ⟨V1,g1,eg1,hg1,bg1,hy⟩:∃ V g,w.alloc (.cells (c4 y).toArray 51)=V∧w.heap.size=g∧Below w.heap.size w V∧RW V g 0 (c4 y):=⟨_,_,rfl,rfl,(Below.refl _ _).alloc (Nat.le_refl _) _,RW.fresh w _ _⟩
 obtain ⟨W,g2,eg2,hg2,bg2,hres⟩:=fresh4 V1
 have t1:V1.heap.size=w.heap.size+1:=by rw [←eg1];simp
 have HW:Hid (W=(w.alloc (.cells (c4 y).toArray 51)).alloc (.cells #[.int .u64 0,.int .u64 0,.int .u64 0,.int .u64 0] 51)):=Hid.mk' (by rw [←eg2,←eg1])
 have q1:Hid (w.heap.size=g1):=Hid.mk' hg1
 have q2:Hid (w.heap.size+1=g2):=Hid.mk' (by omega)
 replace hy:=hy.still bg2
 have hbW:Below w.heap.size w W:=bg1.trans (bg2.mono (by omega))
 have w2l:w.heap.size≤g2:=by omega
 replace im:=im.still hbW
 clear eg1 eg2 hg1 hg2 bg1 bg2 t1 V1
 rw [show numV y = .agg (c4 y).toArray from rfl,show numV n = .agg (c4 n).toArray from rfl]
 go_enter Tryz.func62,Tryz.ntmps62
 go_upto_region 1 with (fail)
 rw [←HW.out,q2.out,q1.out]
 clear HW q2 q1
 go_cut [4,5] from 9 (fun s4 s5 wc=>∃ h4 h5:Nat,s4 = .pointer (some ⟨h4,0,none⟩)∧s5 = .pointer (some ⟨h5,0,none⟩)∧Below W.heap.size W wc∧W.heap.size≤h4∧W.heap.size≤h5∧RW wc h4 0 (c4 1)∧RW wc h5 0 (c4 yy))
 case first =>
  clear k3 k4 k5 k6 k7 k8 k9 kn hres im hbW h0
  have hdrew:Below W.heap.size W W.drew:=(Below.refl _ _).drew
  replace hy:=hy.still hdrew
  refine wp_region_noPanic ?_
  refine wp_region_held_drew (S:=fun w'=>Below W.drew.heap.size W.drew w') (by kernel_rfl) (Below.refl _ _) (fun hS => ?_)
  generalize W.drew=Vev1_ at *
  refine tkH 1 (oN 10 (Op.load 51 (oT 1)) 51 "curve.go:85" #[]) (numV y) hS (ldN hy 1) ?_
  (try simp only [pS])
  refine tkH 2 (oN 11 (Op.load 51 (oT 1)) 51 "curve.go:85" #[]) (numV y) hS (ldN hy 1) ?_
  (try simp only [pS])
  refine dag_root (fun G hG0 => ?_)
  have hG:=Hid.mk' hG0
  clear hG0
  obtain ⟨F,hF0⟩:∃ F:Value→Value→Value→Value→Act,∀ v4 v5 v9 v12,F v4 v5 v9 v12={ tmps:=#[.agg (c4 y).toArray,pA g1 0,pA g2 0,.bool false,v4,v5,undef,undef,undef,v9,numV y,numV y,v12,undef,undef,undef,undef,undef,undef,undef,undef,undef,undef,undef,undef,undef,undef,undef,undef,undef,undef,undef,undef],defers:=[] }:=⟨_,fun _ _ _ _=>rfl⟩
  have hF:=Hid.mk' hF0
  clear hF0
  have stev1_0:Hid (∀ (cur:World) (g4 g5:Nat),Below Vev1_.heap.size Vev1_ cur→RW cur g4 0 (c4 (1))→RW cur g5 0 (c4 (yy))→Vev1_.heap.size≤g4→Vev1_.heap.size≤g5→g4≠g5→G 0 #[true,true,true,true,true,true,true,true] (F (pA g4 0) (pA g5 0) (numV 1) (numV yy)) cur):=Hid.mk' (by
   intro cur g4 g5 hS r4 r5 G4 G5 d4_5
   rw [hF.out,hG.out]
   refine wpAnyH_done (by kernel_rfl) ?_ _
   refine NoPanic.normal ?_
   go_wp2
   go_meet
   case rel=>exact ⟨g4,g5,rfl,rfl,below_next hdrew hS,Nat.le_trans hdrew.size G4,Nat.le_trans hdrew.size G5,r4,r5⟩)
  have stev1_1:Hid (∀ (cur:World) (g4 g5:Nat),Below Vev1_.heap.size Vev1_ cur→RW cur g4 0 (c4 (1))→RW cur g5 0 (c4 (0))→Vev1_.heap.size≤g4→Vev1_.heap.size≤g5→g4≠g5→G 1 #[true,true,true,true,true,true,true,false] (F (pA g4 0) (pA g5 0) (numV 1) (numV yy)) cur):=Hid.mk' (by
   intro cur g4 g5 hS r4 r5 G4 G5 d4_5
   rw [hF.out,hG.out]
   refine wpAnyH_ready (rs:=[7]) (by kernel_rfl) (by simp) ?_
   refine arS qev1x7 5 12 (yy) r5 hS G5 (fun w1 rr hS1 far=>dagW hG (stev1_0.out w1 g4 g5 hS1 (far _ _ _ d4_5 r4) rr G4 G5 d4_5) (hF.out _ _ _ _)) ?_
   exact AllReadyH.nil)
  have stev1_2:Hid (∀ (cur:World) (g4 g5:Nat),Below Vev1_.heap.size Vev1_ cur→RW cur g4 0 (c4 (0))→RW cur g5 0 (c4 (0))→Vev1_.heap.size≤g4→Vev1_.heap.size≤g5→g4≠g5→G 2 #[true,true,true,true,true,true,false,false] (F (pA g4 0) (pA g5 0) (numV 1) (numV yy)) cur):=Hid.mk' (by
   intro cur g4 g5 hS r4 r5 G4 G5 d4_5
   rw [hF.out,hG.out]
   clear stev1_0
   refine wpAnyH_ready (rs:=[6]) (by kernel_rfl) (by simp) ?_
   refine arS qev1x6 4 9 (1) r4 hS G4 (fun w1 rr hS1 far=>dagW hG (stev1_1.out w1 g4 g5 hS1 rr (far _ _ _ d4_5.symm r5) G4 G5 d4_5) (hF.out _ _ _ _)) ?_
   exact AllReadyH.nil)
  have stev1_3:Hid (∀ (cur:World) (g4:Nat),Below Vev1_.heap.size Vev1_ cur→RW cur g4 0 (c4 (0))→Vev1_.heap.size≤g4→G 3 #[true,true,true,true,true,false,false,false] (F (pA g4 0) undef (numV 1) (numV yy)) cur):=Hid.mk' (by
   intro cur g4 hS r4 G4
   rw [hF.out,hG.out]
   clear stev1_0 stev1_1
   refine wpAnyH_ready (rs:=[5]) (by kernel_rfl) (by simp) ?_
   refine arN qev1x5 hS (fun w1 g5 G5 lg hb rr hS1=>dagW hG (stev1_2.out w1 g4 g5 hS1 (r4.still hb) rr G4 G5 (ne_l r4 lg)) (hF.out _ _ _ _)) ?_
   exact AllReadyH.nil)
  have stev1_4:Hid (∀ (cur:World) (g5:Nat),Below Vev1_.heap.size Vev1_ cur→RW cur g5 0 (c4 (0))→Vev1_.heap.size≤g5→G 3 #[true,true,true,true,false,true,false,false] (F undef (pA g5 0) (numV 1) (numV yy)) cur):=Hid.mk' (by
   intro cur g5 hS r5 G5
   rw [hF.out,hG.out]
   clear stev1_0 stev1_1 stev1_3
   refine wpAnyH_ready (rs:=[4]) (by kernel_rfl) (by simp) ?_
   refine arN qev1x4 hS (fun w1 g4 G4 lg hb rr hS1=>dagW hG (stev1_2.out w1 g4 g5 hS1 rr (r5.still hb) G4 G5 (ne_r r5 lg)) (hF.out _ _ _ _)) ?_
   exact AllReadyH.nil)
  have stev1_5:Hid (∀ (cur:World),Below Vev1_.heap.size Vev1_ cur→G 4 #[true,true,true,true,false,false,false,false] (F undef undef (numV 1) (numV yy)) cur):=Hid.mk' (by
   intro cur  hS 
   rw [hF.out,hG.out]
   clear stev1_0 stev1_1 stev1_2
   refine wpAnyH_ready (rs:=[4,5]) (by kernel_rfl) (by simp) ?_
   refine arN qev1x4 hS (fun w1 g4 G4 lg hb rr hS1=>dagW hG (stev1_3.out w1 g4 hS1 rr G4) (hF.out _ _ _ _)) ?_
   refine arN qev1x5 hS (fun w1 g5 G5 lg hb rr hS1=>dagW hG (stev1_4.out w1 g5 hS1 rr G5) (hF.out _ _ _ _)) ?_
   exact AllReadyH.nil)
  have stev1_6:Hid (∀ (cur:World) (g4 g5:Nat),Below Vev1_.heap.size Vev1_ cur→RW cur g4 0 (c4 (0))→RW cur g5 0 (c4 (0))→Vev1_.heap.size≤g4→Vev1_.heap.size≤g5→g4≠g5→G 3 #[true,true,true,false,true,true,false,false] (F (pA g4 0) (pA g5 0) (numV 1) undef) cur):=Hid.mk' (by
   intro cur g4 g5 hS r4 r5 G4 G5 d4_5
   rw [hF.out,hG.out]
   clear stev1_0 stev1_1 stev1_3 stev1_4 stev1_5
   refine wpAnyH_ready (rs:=[3]) (by kernel_rfl) (by simp) ?_
   refine arC qev1x3 (k2 _) (fun e w1 ⟨he,hb⟩=>⟨_,he,below_next hS hb,dagW hG (stev1_2.out w1 g4 g5 (below_next hS hb) (r4.still hb) (r5.still hb) G4 G5 d4_5) (hF.out _ _ _ _)⟩) ?_
   exact AllReadyH.nil)
  have stev1_7:Hid (∀ (cur:World) (g4:Nat),Below Vev1_.heap.size Vev1_ cur→RW cur g4 0 (c4 (0))→Vev1_.heap.size≤g4→G 4 #[true,true,true,false,true,false,false,false] (F (pA g4 0) undef (numV 1) undef) cur):=Hid.mk' (by
   intro cur g4 hS r4 G4
   rw [hF.out,hG.out]
   clear stev1_0 stev1_1 stev1_2 stev1_4 stev1_5
   refine wpAnyH_ready (rs:=[3,5]) (by kernel_rfl) (by simp) ?_
   refine arC qev1x3 (k2 _) (fun e w1 ⟨he,hb⟩=>⟨_,he,below_next hS hb,dagW hG (stev1_3.out w1 g4 (below_next hS hb) (r4.still hb) G4) (hF.out _ _ _ _)⟩) ?_
   refine arN qev1x5 hS (fun w1 g5 G5 lg hb rr hS1=>dagW hG (stev1_6.out w1 g4 g5 hS1 (r4.still hb) rr G4 G5 (ne_l r4 lg)) (hF.out _ _ _ _)) ?_
   exact AllReadyH.nil)
  have stev1_8:Hid (∀ (cur:World) (g5:Nat),Below Vev1_.heap.size Vev1_ cur→RW cur g5 0 (c4 (0))→Vev1_.heap.size≤g5→G 4 #[true,true,true,false,false,true,false,false] (F undef (pA g5 0) (numV 1) undef) cur):=Hid.mk' (by
   intro cur g5 hS r5 G5
   rw [hF.out,hG.out]
   clear stev1_0 stev1_1 stev1_2 stev1_3 stev1_5 stev1_7
   refine wpAnyH_ready (rs:=[3,4]) (by kernel_rfl) (by simp) ?_
   refine arC qev1x3 (k2 _) (fun e w1 ⟨he,hb⟩=>⟨_,he,below_next hS hb,dagW hG (stev1_4.out w1 g5 (below_next hS hb) (r5.still hb) G5) (hF.out _ _ _ _)⟩) ?_
   refine arN qev1x4 hS (fun w1 g4 G4 lg hb rr hS1=>dagW hG (stev1_6.out w1 g4 g5 hS1 rr (r5.still hb) G4 G5 (ne_r r5 lg)) (hF.out _ _ _ _)) ?_
   exact AllReadyH.nil)
  have stev1_9:Hid (∀ (cur:World),Below Vev1_.heap.size Vev1_ cur→G 5 #[true,true,true,false,false,false,false,false] (F undef undef (numV 1) undef) cur):=Hid.mk' (by
   intro cur  hS 
   rw [hF.out,hG.out]
   clear stev1_0 stev1_1 stev1_2 stev1_3 stev1_4 stev1_6
   refine wpAnyH_ready (rs:=[3,4,5]) (by kernel_rfl) (by simp) ?_
   refine arC qev1x3 (k2 _) (fun e w1 ⟨he,hb⟩=>⟨_,he,below_next hS hb,dagW hG (stev1_5.out w1  (below_next hS hb) ) (hF.out _ _ _ _)⟩) ?_
   refine arN qev1x4 hS (fun w1 g4 G4 lg hb rr hS1=>dagW hG (stev1_7.out w1 g4 hS1 rr G4) (hF.out _ _ _ _)) ?_
   refine arN qev1x5 hS (fun w1 g5 G5 lg hb rr hS1=>dagW hG (stev1_8.out w1 g5 hS1 rr G5) (hF.out _ _ _ _)) ?_
   exact AllReadyH.nil)
  have stev1_10:Hid (∀ (cur:World) (g4 g5:Nat),Below Vev1_.heap.size Vev1_ cur→RW cur g4 0 (c4 (0))→RW cur g5 0 (c4 (0))→Vev1_.heap.size≤g4→Vev1_.heap.size≤g5→g4≠g5→G 4 #[false,true,true,false,true,true,false,false] (F (pA g4 0) (pA g5 0) undef undef) cur):=Hid.mk' (by
   intro cur g4 g5 hS r4 r5 G4 G5 d4_5
   rw [hF.out,hG.out]
   clear stev1_0 stev1_1 stev1_2 stev1_3 stev1_4 stev1_5 stev1_7 stev1_8 stev1_9
   refine wpAnyH_ready (rs:=[0]) (by kernel_rfl) (by simp) ?_
   refine arC qev1x0 (k1 _) (fun e w1 ⟨he,hb⟩=>⟨_,he,below_next hS hb,dagW hG (stev1_6.out w1 g4 g5 (below_next hS hb) (r4.still hb) (r5.still hb) G4 G5 d4_5) (hF.out _ _ _ _)⟩) ?_
   exact AllReadyH.nil)
  have stev1_11:Hid (∀ (cur:World) (g4:Nat),Below Vev1_.heap.size Vev1_ cur→RW cur g4 0 (c4 (0))→Vev1_.heap.size≤g4→G 5 #[false,true,true,false,true,false,false,false] (F (pA g4 0) undef undef undef) cur):=Hid.mk' (by
   intro cur g4 hS r4 G4
   rw [hF.out,hG.out]
   clear stev1_0 stev1_1 stev1_2 stev1_3 stev1_4 stev1_5 stev1_6 stev1_8 stev1_9
   refine wpAnyH_ready (rs:=[0,5]) (by kernel_rfl) (by simp) ?_
   refine arC qev1x0 (k1 _) (fun e w1 ⟨he,hb⟩=>⟨_,he,below_next hS hb,dagW hG (stev1_7.out w1 g4 (below_next hS hb) (r4.still hb) G4) (hF.out _ _ _ _)⟩) ?_
   refine arN qev1x5 hS (fun w1 g5 G5 lg hb rr hS1=>dagW hG (stev1_10.out w1 g4 g5 hS1 (r4.still hb) rr G4 G5 (ne_l r4 lg)) (hF.out _ _ _ _)) ?_
   exact AllReadyH.nil)
  have stev1_12:Hid (∀ (cur:World) (g5:Nat),Below Vev1_.heap.size Vev1_ cur→RW cur g5 0 (c4 (0))→Vev1_.heap.size≤g5→G 5 #[false,true,true,false,false,true,false,false] (F undef (pA g5 0) undef undef) cur):=Hid.mk' (by
   intro cur g5 hS r5 G5
   rw [hF.out,hG.out]
   clear stev1_0 stev1_1 stev1_2 stev1_3 stev1_4 stev1_5 stev1_6 stev1_7 stev1_9 stev1_11
   refine wpAnyH_ready (rs:=[0,4]) (by kernel_rfl) (by simp) ?_
   refine arC qev1x0 (k1 _) (fun e w1 ⟨he,hb⟩=>⟨_,he,below_next hS hb,dagW hG (stev1_8.out w1 g5 (below_next hS hb) (r5.still hb) G5) (hF.out _ _ _ _)⟩) ?_
   refine arN qev1x4 hS (fun w1 g4 G4 lg hb rr hS1=>dagW hG (stev1_10.out w1 g4 g5 hS1 rr (r5.still hb) G4 G5 (ne_r r5 lg)) (hF.out _ _ _ _)) ?_
   exact AllReadyH.nil)
  have stev1_13:Hid (∀ (cur:World),Below Vev1_.heap.size Vev1_ cur→G 6 #[false,true,true,false,false,false,false,false] (F undef undef undef undef) cur):=Hid.mk' (by
   intro cur  hS 
   rw [hF.out,hG.out]
   clear stev1_0 stev1_1 stev1_2 stev1_3 stev1_4 stev1_5 stev1_6 stev1_7 stev1_8 stev1_10
   refine wpAnyH_ready (rs:=[0,4,5]) (by kernel_rfl) (by simp) ?_
   refine arC qev1x0 (k1 _) (fun e w1 ⟨he,hb⟩=>⟨_,he,below_next hS hb,dagW hG (stev1_9.out w1  (below_next hS hb) ) (hF.out _ _ _ _)⟩) ?_
   refine arN qev1x4 hS (fun w1 g4 G4 lg hb rr hS1=>dagW hG (stev1_11.out w1 g4 hS1 rr G4) (hF.out _ _ _ _)) ?_
   refine arN qev1x5 hS (fun w1 g5 G5 lg hb rr hS1=>dagW hG (stev1_12.out w1 g5 hS1 rr G5) (hF.out _ _ _ _)) ?_
   exact AllReadyH.nil)
  rw [hG.out]
  exact dagW hG (stev1_13.out Vev1_ hS) (hF.out _ _ _ _)
 case rest =>
 obtain ⟨b4,b5,rfl,rfl,hb1,B4,B5,h4,h5⟩:=hcut
 replace hres:=hres.still hb1
 replace im:=im.still hb1
 replace hbW:=below_next hbW hb1
 obtain ⟨U,hU⟩:∃ W,W=wc:=⟨_,rfl⟩
 rw [←hU]
 rw [←hU] at hres im hbW h4 h5
 clear hU hb1 B4 B5 hy k1 k2
 go_upto_region 2 with (fail)
 have hdrew:Below U.heap.size U U.drew:=(Below.refl _ _).drew
 replace hres:=hres.still hdrew
 replace h4:=h4.still hdrew
 replace h5:=h5.still hdrew
 replace im:=im.still hdrew
 replace hbW:=below_next hbW hdrew
 clear hdrew
 refine wp_region_noPanic ?_
 refine wp_region_held_drew (S:=fun w'=>Below U.drew.heap.size U.drew w') (by kernel_rfl) (Below.refl _ _) (fun hHeld => ?_)
 clear hHeld
 refine tkH 0 (oN 14 (Op.load 51 (oT 5)) 51 "curve.go:86" #[]) (numV yy) bR (ldH h5 51 5 Tryz.underlying51 info4) ?_
 (try simp only [pS])
 refine tkH 1 (oN 15 (Op.load 51 (oT 4)) 51 "curve.go:86" #[]) (numV 1) bR (ldH h4 51 4 Tryz.underlying51 info4) ?_
 (try simp only [pS])
 refine tkH 5 (oN 19 (Op.load 51 (oT 5)) 51 "curve.go:86" #[]) (numV yy) bR (ldH h5 51 5 Tryz.underlying51 info4) ?_
 (try simp only [pS])
 refine tkH 7 (oN 21 (Op.load 51 (oT 4)) 51 "curve.go:86" #[]) (numV 1) bR (ldH h4 51 4 Tryz.underlying51 info4) ?_
 (try simp only [pS])
 refine callN 2 (oN 16 (cF1 63 #[oT 14,oT 15] #[51,51]) 51 "curve.go:86" #[jD 0,jD 1]) (k3 _) ?_
 (clear k3;rintro e w1 ⟨rfl,hb1⟩)
 refine ⟨_,rfl,hb1,?_⟩
 replace hres:=hres.still hb1
 replace h4:=h4.still hb1
 replace h5:=h5.still hb1
 replace im:=im.still hb1
 replace hbW:=below_next hbW hb1
 clear hb1
 (try simp only [pS])
 refine callN 3 (oN 17 (cF1 92 #[oT 16] #[51]) 22 "curve.go:86" #[jD 2,jC 2]) (k4 _) ?_
 (clear k4;rintro e w2 ⟨s2,rfl,tu,hb2⟩)
 refine ⟨_,rfl,hb2,?_⟩
 replace hres:=hres.still hb2
 replace h4:=h4.still hb2
 replace h5:=h5.still hb2
 replace im:=im.still hb2
 replace hbW:=below_next hbW hb2
 clear hb2
 (try simp only [pS])
 refine callN 4 (oN 18 (cF1 103 #[] #[]) 51 "curve.go:86" #[jC 3]) (k5 _) ?_
 (clear k5;rintro e w3 ⟨rfl,hb3⟩)
 refine ⟨_,rfl,hb3,?_⟩
 replace hres:=hres.still hb3
 replace h4:=h4.still hb3
 replace h5:=h5.still hb3
 replace im:=im.still hb3
 replace tu:=tu.still hb3
 replace hbW:=below_next hbW hb3
 clear hb3
 (try simp only [pS])
 refine callN 6 (oN 20 (cF1 53 #[oT 18,oT 19] #[51,51]) 51 "curve.go:86" #[jD 4,jD 5,jC 4]) (k6 _) ?_
 (clear k6;rintro e w4 ⟨rfl,hb4⟩)
 refine ⟨_,rfl,hb4,?_⟩
 replace hres:=hres.still hb4
 replace h4:=h4.still hb4
 replace h5:=h5.still hb4
 replace im:=im.still hb4
 replace tu:=tu.still hb4
 replace hbW:=below_next hbW hb4
 clear hb4
 (try simp only [pS])
 refine callN 8 (oN 22 (cF1 104 #[oT 20,oT 21] #[51,51]) 51 "curve.go:86" #[jD 6,jD 7,jC 6]) (k7 _) ?_
 (clear k7;rintro e w5 ⟨rfl,hb5⟩)
 refine ⟨_,rfl,hb5,?_⟩
 replace hres:=hres.still hb5
 replace h4:=h4.still hb5
 replace h5:=h5.still hb5
 replace im:=im.still hb5
 replace tu:=tu.still hb5
 replace hbW:=below_next hbW hb5
 clear hb5
 (try simp only [pS])
 refine callN 9 (oN 23 (cF1 92 #[oT 22] #[51]) 22 "curve.go:86" #[jD 8,jC 8]) (k8 _) ?_
 (clear k8;rintro e w6 ⟨s6,rfl,tv,hb6⟩)
 refine ⟨_,rfl,hb6,?_⟩
 replace hres:=hres.still hb6
 replace h4:=h4.still hb6
 replace h5:=h5.still hb6
 replace im:=im.still hb6
 replace tu:=tu.still hb6
 replace hbW:=below_next hbW hb6
 clear hb6
 (try simp only [pS])
 refine callN 10 (oN 24 (cF1 102 #[oT 17,oT 23] #[22,22]) 143 "curve.go:86" #[jD 3,jD 9,jC 9]) (k9 _ _ _ im tu tv) ?_
 (clear k9;rintro e w7 ⟨s7,rfl,tr,hb7⟩;(obtain ⟨gr,hsr,-,hrr⟩:=tr);(have lgr:=block_lt_of_cell (hrr 0 (by decide)).1);subst hsr)
 refine ⟨_,rfl,hb7,?_⟩
 clear tu
 clear tv
 clear im
 clear h4
 clear h5
 replace hres:=hres.still hb7
 replace hbW:=below_next hbW hb7
 clear hb7
 (try simp only [pS])
 refine tkH 11 (oN 13 (Op.move (oT 24)) 143 "curve.go:86" #[jD 10]) ?ve11 bR (Or.inl ⟨by rfl,?he11⟩) ?re11
 case he11 =>
  intro w hSw
  go_simp
  try with_reducible rfl
 (try simp only [pS])
 refine tkH 12 (oN 25 (Op.extract (oT 13) 0) 22 "curve.go:86" #[jD 11]) ?ve12 bR (Or.inl ⟨by rfl,?he12⟩) ?re12
 case he12 =>
  intro w hSw
  go_simp
  try with_reducible rfl
 (try simp only [pS])
 refine tkH 13 (oN 26 (Op.extract (oT 13) 1) 4 "curve.go:86" #[jD 11,jO 15]) ?ve13 bR (Or.inl ⟨by rfl,?he13⟩) ?re13
 case he13 =>
  intro w hSw
  go_simp
  try with_reducible rfl
 (try simp only [pS])
 refine tkH 14 (oN 27 (Op.extract (oT 13) 2) 24 "curve.go:86" #[jD 11,jO 16]) ?ve14 bR (Or.inl ⟨by rfl,?he14⟩) ?re14
 case he14 =>
  intro w hSw
  go_simp
  try with_reducible rfl
 (try simp only [pS])
 refine tkH 15 (oN 6 (Op.assign (oT 25)) 22 "curve.go:86" #[jD 12,jC 10,jP 0,jP 1,jP 2,jP 3,jP 4,jP 5,jP 6,jP 7,jP 8,jP 9,jP 10,jP 11,jP 12,jT 13,jT 14]) ?ve15 bR (Or.inl ⟨by rfl,?he15⟩) ?re15
 case he15 =>
  intro w hSw
  go_simp
  try with_reducible rfl
 (try simp only [pS])
 refine tkH 16 (oN 7 (Op.assign (oT 26)) 4 "curve.go:86" #[jD 13,jC 15,jP 0,jP 1,jP 2,jP 3,jP 4,jP 5,jP 6,jP 7,jP 8,jP 9,jP 10,jP 11,jP 12,jP 13,jT 14,jP 15]) ?ve16 bR (Or.inl ⟨by rfl,?he16⟩) ?re16
 case he16 =>
  intro w hSw
  go_simp
  try with_reducible rfl
 (try simp only [pS])
 refine tkH 17 (oN 8 (Op.assign (oT 27)) 24 "curve.go:86" #[jD 14,jC 16,jP 0,jP 1,jP 2,jP 3,jP 4,jP 5,jP 6,jP 7,jP 8,jP 9,jP 10,jP 11,jP 12,jP 13,jP 14,jP 15,jP 16]) ?ve17 bR (Or.inl ⟨by rfl,?he17⟩) ?re17
 case he17 =>
  intro w hSw
  go_simp
  try with_reducible rfl
 (try simp only [pS])
 refine wpAnyH_done (by kernel_rfl) ?_ _
 refine NoPanic.normal ?_
 have hB:BytesIn w7 (.slice (some ⟨gr,0,none⟩) 32 32) 32 (byt n) := .inr ⟨gr,0,32,rfl,lgr,Nat.le_refl _,fun j hj=>(hrr j hj).1⟩
 cases hok:ok with
 | false =>
  have HOk:=Hid.mk' hok
  have hn:=h0 hok
  have Hn:=Hid.mk' hn
  clear h0 hok hrr hB kn hn
  have t2:w7.there g2 0 (c4 0).toArray.size:=hres.there
  go_wp2_with (first
   | (refine wpList_build0 rfl 51 rfl _ built0 ?_)
   | (with_reducible (refine id (?_:wpList _ _ _ _ _ _));refine wpList_store_mid rfl 51 _ _ rfl g2 0 (c4 0).toArray rfl rfl t2 (info4a 0) (one4 0) ?_))
  (try simp only [Exit.inBlock,Exit.then])
  rw [Hn.out]
  exact bodyPost_ret (results_cell_tmp Tryz.results62 _ _ g2 0 (c4 0) _ rfl (hres.stored (c4 0) rfl).range Tryz.underlying51 rfl info4) rfl ⟨by rw [HOk.out];rfl,below_setCells w2l _ _ _ hbW⟩
 | true =>
  have HOk:=Hid.mk' hok
  have kn2:Calls Tryz.prog 61 #[.slice (some ⟨gr,0,none⟩) 32 32] w7 fun e w'=>e = .returned (.agg (c4 n).toArray)∧Below w7.heap.size w7 w':=kn _ _ hB
  clear h0 hok hrr hB kn
  go_wp2_with (first
   | (go_at_call 61;refine kn2.mono ?_;clear kn2;rintro e w8 ⟨rfl,hb8⟩;(replace hres:=hres.still hb8);(replace hbW:=below_next hbW hb8);clear hb8;(have t2:w8.there g2 0 (c4 n).toArray.size:=hres.there))
   | (with_reducible (refine id (?_:wpList _ _ _ _ _ _));refine wpList_store_mid rfl 51 _ _ rfl g2 0 (c4 n).toArray rfl rfl t2 (info4a n) (one4 n) ?_))
  (try simp only [Exit.inBlock,Exit.then])
  exact bodyPost_ret (results_cell_tmp Tryz.results62 _ _ g2 0 (c4 n) _ rfl (hres.stored (c4 n) rfl).range Tryz.underlying51 rfl info4) rfl ⟨by rw [HOk.out];rfl,below_setCells w2l _ _ _ hbW⟩
theorem ofB_small {n:Nat} (h:n<pF):ofB (byt n) 32%pF=n:=by
 have hp:pF<256 ^ 32:=by decide
 rw [ofB_byt,Nat.mod_eq_of_lt (Nat.lt_trans h hp),Nat.mod_eq_of_lt h]
theorem num_of {n:Nat} (h:n<pF):fromN 32 (byt n)=n:=by
 unfold fromN
 rw [if_pos rfl,ofB_small h]
theorem bytes_in (n:Nat) (w:World):Calls Tryz.prog 92 #[numV n] w fun e w'=>∃ s,e = .returned s∧BytesIn w' s 32 (byt n)∧Below w.heap.size w w' :=
 (bytes_any n w).mono fun _ _ ⟨g,he,hg,hr,hb⟩=>⟨_,he,NewB.bytes ⟨g,rfl,hg,hr⟩ (by decide),hb⟩
theorem rootP_lt {k u v:Nat} (hk:8*k+5=pF) (hu:u<pF) (hv:v<pF):(rootP k u v).getD 0<pF:=by
 rw [root_same hk hu hv];exact rootR_lt6 k u v
theorem none_zero (o:Option Nat) (h:o.isSome=false):o.getD 0=0:=by cases o with | none=>rfl | some x=>cases h
theorem evenX_any (y:Nat) (hy:y<pF) (w:World) (im:IM w) :
 Calls Tryz.prog 62 #[numV y] w fun e w'=>e = .returned (.tuple #[numV ((rootP kP (decU y) (decV y)).getD 0),.bool (rootP kP (decU y) (decV y)).isSome])∧Below w.heap.size w w':=by
 have hu:decU y<pF:=fsub_lt _ _
 have hv:decV y<pF:=fadd_lt _ _
 have hl:=rootP_lt kP_eq hu hv
 have k9:∀ a b W,IM W→BytesIn W a 32 (byt (decU y))→BytesIn W b 32 (byt (decV y))→Calls Tryz.prog 102 #[a,b] W fun e w'=>∃ s,e = .returned (.tuple #[s,.bool (rootP kP (decU y) (decV y)).isSome,.int .i64 0])∧NewB W w' s 32 (byt ((rootP kP (decU y) (decV y)).getD 0))∧Below W.heap.size W w':=fun a b W im ha hb=>by
  have k:=froot_good a b _ _ (byt_all _) (byt_all _) W im ha hb
  rw [ofB_small hu,ofB_small hv] at k
  exact k
 have kn:∀ a W,BytesIn W a 32 (byt ((rootP kP (decU y) (decV y)).getD 0))→Calls Tryz.prog 61 #[a] W fun e w'=>e = .returned (numV ((rootP kP (decU y) (decV y)).getD 0))∧Below W.heap.size W w':=fun a W ha=>by
  have k:=pnumber_any a 32 _ (byt_all _) W ha
  rw [num_of hl] at k
  exact k
 have hz:=none_zero (rootP kP (decU y) (decV y))
 generalize rootP kP (decU y) (decV y)=R at *
 exact evenX_raw y (fmul y y) (decU y) dN (fmul dN (fmul y y)) (decV y) (R.getD 0) R.isSome (fun W=>fsmall_pos 1 (by decide) W) (fun W=>times_any y y hy hy W) (fun W=>minus_any _ _ (fmul_lt _ _) (by decide) W) (fun W=>bytes_in _ W) (fun W=>curveD_any W) (fun W=>times_any _ _ dN_lt (fmul_lt _ _) W) (fun W=>plus_any _ _ (fmul_lt _ _) (by decide) W) (fun W=>bytes_in _ W) k9 kn hz w im
end Go.Proofs.YtdgkmloabificaaGreatDoor
namespace Go.Proofs.YtdgkmloabificaaGreatDoor
open Go.RowKit
theorem run_eql_slice_nil {P:Program} (w:World) (t e:TypeId) (a:Option Addr) (l c:Nat) (h:P.underlying t=some (.slice e)):(binOp .eql t (.slice a l c) (.slice none 0 0)).run P w = .ok (.bool a.isNone) w:=by
 simp only [binOp]
 simp [run_equal_slice_nil w t e a l c h]
theorem wpList_eqnil {ops:Array Oper} {rest:List Oper} {op:Oper} {a:Act} {w:World} {Q:Exit→Act→World→Prop} (hgd:op.guard=none) (x y:Operand) (t2:TypeId) (ho:op.op = .binOp .eql 22 x y t2) (ad:Addr) (l c:Nat)
 (hx:a.eval x = .slice (some ad) l c) (hy:a.eval y = .slice none 0 0) (h:wpList Tryz.prog ops Q rest (a.put op.dst (.bool false)) w):wpList Tryz.prog ops Q (op :: rest) a w :=
 wpList_plain hgd fun K hK=>by
  unfold Oper.wp execOp
  simp only [ho,hx,hy]
  have e:(eqGuard .eql 22 x y (.slice (some ad) l c) (.slice none 0 0)).run Tryz.prog w = .ok () w:=by
   simp [eqGuard]
  rw [Sem.run_bind,Sem.run_bind,e]
  simp only [Result.andThen_ok]
  rw [run_eql_slice_nil w 22 5 (some ad) l c Tryz.underlying22]
  exact hK _ _ h
set_option maxRecDepth 20000 in
set_option maxHeartbeats 4000000 in
theorem clone_any (v:Value) (bs:Nat→Nat) (w:World) (hv:BytesIn w v 32 bs) :
 Calls Tryz.prog 60 #[v] w fun e w'=>∃ g cap,e = .returned (.slice (some ⟨g,0,none⟩) 32 cap)∧w.heap.size≤g∧g<w'.heap.size∧32≤cap∧RowAt .u8 w' g 0 32 bs∧Below w.heap.size w w':=by
 obtain ⟨bb,ob,cap,hsl,hlb,hcap,hc⟩:∃ bb ob cap,v = .slice (some ⟨bb,ob,none⟩) 32 cap∧bb<w.heap.size∧32≤cap∧∀ j,j<32→w.cell? ⟨bb,ob+j,none⟩=some (.int .u8 (bs j)):=hv.resolve_left (fun ⟨_,_,h⟩=>by omega)
 have src0:=(BytesIn.src hv)
 subst hsl
 obtain ⟨xo,kv,hxo,hun,-,hsrc⟩:=src0
 have src1:=hsrc (w.alloc (.cells #[] 5)) ((Below.refl _ _).alloc (Nat.le_refl _) _)
 obtain ⟨rfl,rfl⟩:some (⟨bb,ob,none⟩:Addr)=xo∧cap=kv:=by injection hxo with a b c;exact ⟨a,c⟩
 clear hsrc hxo hv hc
 go_enter Tryz.func60,Tryz.ntmps60
 go_wp2_with (first
  | (refine wpList_eqnil rfl _ _ _ rfl ⟨bb,ob,none⟩ 32 cap rfl rfl ?_)
  | (at_builtin;refine wpList_append_empty rfl (.tmp 5) (.tmp 6) rfl w.heap.size bs _ rfl rfl (some ⟨bb,ob,none⟩) 32 cap rfl src1 hun (by omega) (Nat.le_refl _) ?_;intro v4 w4 own4 hb4;clear src1;(obtain ⟨g4,cap4,hv4,hg4,hgl4,hcap4,row4⟩:∃ g cap,v4 = .slice (some ⟨g,0,none⟩) 32 cap∧w.heap.size≤g∧g<w4.heap.size∧32≤cap∧RowAt .u8 w4 g 0 32 bs:=own4.form.resolve_left (fun h=>by omega));subst hv4;clear own4))
 go_ret
 exact ⟨g4,cap4,rfl,hg4,hgl4,hcap4,row4,hb4⟩
theorem high_u8:∀ b:Nat,b<256→bits .and .u8 (b:Int) 128=((128*(b / 128):Nat):Int):=by decide +kernel
theorem low_u8:∀ b:Nat,b<256→bits .andNot .u8 (b:Int) 128=((b%128:Nat):Int):=by decide +kernel
theorem encXY_lt (x:Nat) {y:Nat} (hy:y<pF) (j:Nat):encXY x y j<256:=by
 have h:=byt31_lt hy
 have h2:=byt_lt y j
 unfold encXY
 split <;> omega
theorem enc_str_t {x y:Nat} (hy:y<pF) {bs:Nat→Nat} (hbs:∀ j,bs j<256) (h:∀ j,j<32→encXY x y j=bs j):((strB 32 (encXY x y)).toList == (strB 32 bs).toList)=true:=by
 rw [(strB_eq (encXY_lt x hy) hbs).2 ⟨rfl,h⟩];exact beq_self_eq_true _
theorem enc_str_f {x y:Nat} (hy:y<pF) {bs:Nat→Nat} (hbs:∀ j,bs j<256) (h:¬∀ j,j<32→encXY x y j=bs j):((strB 32 (encXY x y)).toList == (strB 32 bs).toList)=false:=by
 rw [ByteArray.toList_eq,ByteArray.toList_eq]
 exact beq_false_of_ne (fun e=>h ((strB_eq (encXY_lt x hy) hbs).1 (WideShapes.bytes_inj e)).2)
def sgnX (bs:Nat→Nat) (x:Nat):Nat:=if bs 31 / 128=1 then fsub 0 x else x
theorem sgnX_lt (bs:Nat→Nat) {x:Nat} (hx:x<pF):sgnX bs x<pF:=by unfold sgnX;split;exact fsub_lt _ _;exact hx
theorem rootS (y:Nat):rootP kP (decU y) (decV y)=rootR kP (decU y) (decV y):=root_same kP_eq (fsub_lt _ _) (fadd_lt _ _)
theorem decN_no {bs:Nat→Nat} (h:ofB (lo6 bs) 32<pF) (ho:rootR kP (decU (ofB (lo6 bs) 32)) (decV (ofB (lo6 bs) 32))=none):decN bs=none:=by
 unfold decN
 rw [if_pos h,ho]
theorem decN_yes {bs:Nat→Nat} (h:ofB (lo6 bs) 32<pF) {x:Nat} (ho:rootR kP (decU (ofB (lo6 bs) 32)) (decV (ofB (lo6 bs) 32))=some x):decN bs=if bs 31 / 128=1∧x=0 then none else some (ofXY (sgnX bs x) (ofB (lo6 bs) 32)):=by
 unfold decN sgnX
 rw [if_pos h,ho]
theorem decN_big {bs:Nat→Nat} (h:¬ofB (lo6 bs) 32<pF):decN bs=none:=by unfold decN;rw [if_neg h]
theorem dec_none {bs:Nat→Nat} {y:Nat} (hy:ofB (lo6 bs) 32%pF=y) (hR:rootP kP (decU y) (decV y)=none):decN bs=none:=by
 by_cases h:ofB (lo6 bs) 32<pF
 · rw [Nat.mod_eq_of_lt h] at hy
   rw [rootS,←hy] at hR
   exact decN_no h hR
 · exact decN_big h
theorem enc_parity {bs:Nat→Nat} (hbs:∀ j,bs j<256) {x y:Nat} (hy:y<pF) (h:∀ j,j<32→encXY x y j=bs j):(∀ j,j<32→byt y j=lo6 bs j)∧x%2=bs 31 / 128:=by
 have h31:=h 31 (by decide)
 have hl:=byt31_lt hy
 have hb:=hbs 31
 unfold encXY at h31
 rw [if_pos rfl] at h31
 refine ⟨fun j hj => ?_,by omega⟩
 unfold lo6
 by_cases e:j=31
 · rw [if_pos e,e];omega
 · rw [if_neg e]
   have:=h j hj
   unfold encXY at this
   rwa [if_neg e] at this
theorem dec_some {bs:Nat→Nat} (hbs:∀ j,bs j<256) {x y:Nat} (hy:ofB (lo6 bs) 32%pF=y) (hR:rootP kP (decU y) (decV y)=some x) (h:∀ j,j<32→encXY (sgnX bs x) y j=bs j):decN bs=some (ofXY (sgnX bs x) y):=by
 have hyl:y<pF:=by rw [←hy];exact Nat.mod_lt _ (by decide)
 obtain ⟨h1,h2⟩:=enc_parity hbs hyl h
 have hp:pF<256 ^ 32:=by decide
 have e:y=ofB (lo6 bs) 32:=by
  have:=ofB_congr 32 h1
  rwa [ofB_byt,Nat.mod_eq_of_lt (Nat.lt_trans hyl hp)] at this
 rw [rootS,e] at hR
 rw [decN_yes (by rw [←e];exact hyl) hR,←e,if_neg]
 intro ⟨ho,h0⟩
 unfold sgnX at h2
 rw [if_pos ho,ho,h0] at h2
 exact absurd h2 (by decide)
theorem dec_other {bs:Nat→Nat} (hbs:∀ j,bs j<256) {x y:Nat} (hy:ofB (lo6 bs) 32%pF=y) (hR:rootP kP (decU y) (decV y)=some x) (hx:x<pF) (h:¬∀ j,j<32→encXY (sgnX bs x) y j=bs j):decN bs=none:=by
 by_cases hl:ofB (lo6 bs) 32<pF
 · rw [Nat.mod_eq_of_lt hl] at hy
   obtain ⟨-,h2⟩:=root_is (fsub_lt _ _) hR
   have hR':=hR
   rw [rootS,←hy] at hR'
   rw [decN_yes hl hR']
   by_cases hz:bs 31 / 128=1∧x=0
   · rw [if_pos hz]
   · exfalso
     refine h fun j hj => ?_
     have hb:=hbs 31
     have hodd:sgnX bs x%2=bs 31 / 128:=by
      unfold sgnX
      by_cases ho:bs 31 / 128=1
      · rw [if_pos ho,ho];exact fsub_odd (fun h0=>hz ⟨ho,h0⟩) hx h2
      · rw [if_neg ho];omega
     have hbyt:byt y j=lo6 bs j:=by rw [←hy];exact byt_ofB _ (lo6_lt hbs) 32 j hj
     unfold lo6 at hbyt
     unfold encXY
     by_cases e:j=31
     · rw [if_pos e] at hbyt ⊢
       rw [e] at hbyt ⊢
       rw [hbyt,hodd];omega
     · rw [if_neg e] at hbyt ⊢
       exact hbyt
 · exact decN_big hl
end Go.Proofs.YtdgkmloabificaaGreatDoor
namespace Go.Proofs.YtdgkmloabificaaGreatDoor
open Go.RowKit
set_option maxRecDepth 20000 in
set_option maxHeartbeats 16000000 in
theorem pdec_good (v:Value) (bs:Nat→Nat) (hbs:∀ j,bs j<256) (w:World) (im:IM w) (hv:BytesIn w v 32 bs) :
 Calls Tryz.prog 27 #[v] w fun e w'=>∃ (c:List Value) (er:Int),e = .returned (.tuple #[.agg c.toArray,.int .i64 er])∧Below w.heap.size w w' ∧
  ((er=30∧R6 c ezero∧decN bs=none)∨(er=0∧(decN bs).isSome=true∧∃ P,R6 c P∧∀ j,j<32→encB P j=bs j)):=by
 have hzp:=zeroP
 have hv0:=hv
 obtain ⟨bb,ob,cap,hsl,hlb,hcap,hcl⟩:∃ bb ob cap,v = .slice (some ⟨bb,ob,none⟩) 32 cap∧bb<w.heap.size∧32≤cap∧∀ j,j<32→w.cell? ⟨bb,ob+j,none⟩=some (.int .u8 (bs j)):=hv.resolve_left (fun ⟨_,_,h⟩=>by omega)
 obtain ⟨y,hy⟩:∃ y,ofB (lo6 bs) 32%pF=y:=⟨_,rfl⟩
 have hyl:y<pF:=by rw [←hy];exact Nat.mod_lt _ (by decide)
 have kc:=fun W h=>clone_any v bs W h
 have kn:∀ W s,BytesIn W s 32 (lo6 bs)→Calls Tryz.prog 61 #[s] W fun e w'=>e = .returned (.agg (c4 y).toArray)∧Below W.heap.size W w':=fun W s h=>by
  have k:=pnumber_any s 32 _ (lo6_lt hbs) W h
  rw [show fromN 32 (lo6 bs)=y from by unfold fromN;rw [if_pos rfl];exact hy] at k
  exact k
 have kx:=fun W im=>evenX_any y hyl W im
 have hxl0:=rootP_lt (u:=decU y) (v:=decV y) kP_eq (fsub_lt _ _) (fadd_lt _ _)
 have hno:=fun h=>dec_none (bs:=bs) hy h
 have hds:=fun x h hh=>dec_some (bs:=bs) hbs (x:=x) hy h hh
 have hdo:=fun x h hl hh=>dec_other (bs:=bs) hbs (x:=x) hy h hl hh
 have e31:=low_u8 (bs 31) (hbs 31)
 obtain ⟨q1,hq1⟩:∃ q,q=bs 31%128:=⟨_,rfl⟩
 rw [←hq1] at e31
 have hq3:∀ j,j<32→upd bs 31 q1 j=lo6 bs j:=fun j _=>by unfold lo6 upd;rw [hq1]
 have z0:∀ (w w1:World) (g cap:Nat),RowAt .u8 w1 g 0 32 bs→32≤cap→g<w1.heap.size→Below w.heap.size w w1→w.heap.size≤g→∃ V,V=w1.setCell ⟨g,31,none⟩ (.int .u8 (q1:Int))∧BytesIn V (.slice (some ⟨g,0,none⟩) 32 cap) 32 (lo6 bs)∧Below w.heap.size w V∧∀ k cs,k≠g→RW w1 k 0 cs→RW V k 0 cs:=fun w w1 g cap hr hc hg hb hw=>by
  have r:=hr.set (i:=31) (by decide) (v:=(q1:Int)) rfl
  rw [Nat.zero_add] at r
  have r':=r.congr hq3
  exact ⟨_,rfl,.inr ⟨g,0,cap,rfl,block_lt_of_cell (r' 0 (by decide)).1,hc,fun j hj=>(r' j hj).1⟩,below_setCells hw [_] 31 _ hb,fun k cs hk h=>h.far g 31 [_] (.inl hk)⟩
 clear hq1 hq3
 have Hy:=Hid.mk' hy
 clear hy
 obtain ⟨W,g2,eW,hg2,b,h2⟩:=fresh16 w
 have HW:Hid (w.alloc (.cells zP 53)=W):=Hid.mk' eW
 have Hg:Hid (w.heap.size=g2):=Hid.mk' hg2
 have w2l:w.heap.size≤g2:=Nat.le_of_eq hg2
 replace kc:=kc W (hv.still b)
 clear eW hg2 hv
 subst hsl
 go_enter Tryz.func27,Tryz.ntmps27
 go_upto_region 7 with (first
  | (go_at_call 60;rw [HW.out,Hg.out];refine kc.mono ?_;clear kc HW Hg;rintro e w1 ⟨g4,cap4,rfl,hg4,hgl4,hcap4,row4,hb1⟩;(have n24:g2≠g4:=Nat.ne_of_lt (Nat.lt_of_lt_of_le h2.lt hg4));(replace h2:=h2.still hb1);(have sb:=b.size);(replace b:=below_next b hb1);clear hb1;(have wg4:w.heap.size≤g4:=Nat.le_trans sb hg4);(have c31:=(row4 31 (by decide)).1);(have f31:=(row4 31 (by decide)).2);rw [Nat.zero_add] at c31 f31;(obtain ⟨V1,hV1,hl1,bV1,far1⟩:=z0 w w1 g4 cap4 row4 hcap4 hgl4 b wg4);(replace h2:=far1 g2 _ n24 h2);(have HV1:=Hid.mk' hV1);clear hV1 far1 z0 b row4;(have b:=bV1);clear bV1;(have kn2:=kn V1 _ hl1);clear kn)
  | (go_at_call 61;rw [←HV1.out];refine kn2.mono ?_;clear kn2 HV1 hl1;rintro e w2 ⟨rfl,hb2⟩;(replace h2:=h2.still hb2);(replace b:=below_next b hb2);clear hb2;(have z2:=fresh4' w2);(have t5:=fresh4t w2 y);(obtain ⟨V2,hV2⟩:∃ V,V=(w2.alloc (.cells #[.int .u64 0,.int .u64 0,.int .u64 0,.int .u64 0] 51)).setCells w2.heap.size 0 (c4 y):=⟨_,rfl⟩);(have h5:RW V2 w2.heap.size 0 (c4 y):=by rw [hV2];exact z2.stored (c4 y) rfl);(have bV:Below w2.heap.size w2 V2:=by rw [hV2];exact below_setCells (Nat.le_refl _) _ _ _ ((Below.refl _ _).alloc (Nat.le_refl _) _));(have HV2:=Hid.mk' hV2);clear hV2 z2;(replace h2:=h2.still bV);(replace b:=below_next b bV);clear bV;(have kx2:=kx V2 (im.still b));clear kx)
  | (with_reducible (refine id (?_:wpList _ _ _ _ _ _));refine wpList_store_mid rfl 51 _ _ rfl w2.heap.size 0 (c4 y).toArray rfl rfl t5 (info4a y) (one4 y) ?_;rw [List.toList_toArray,←HV2.out];clear t5 HV2)
  | (refine wpList_load_mid rfl 51 _ rfl w2.heap.size 0 rfl (c4 y) _ h5.range Tryz.underlying51 rfl info4 ?_)
  | (go_at_call 62;refine kx2.mono ?_;clear kx2;(generalize rootP kP (decU y) (decV y)=R at *);rintro e w3 ⟨rfl,hb3⟩;(obtain ⟨x,hx⟩:∃ x,x=R.getD 0:=⟨_,rfl⟩);(rw [←hx];rw [←hx] at hxl0);rw [show numV x = .agg (c4 x).toArray from rfl];(obtain ⟨ok,hok⟩:∃ ok,ok=R.isSome:=⟨_,rfl⟩);rw [←hok];(have Hx:=Hid.mk' hx);(have Hok:=Hid.mk' hok);clear hx hok;(have l5:=h5.lt);(replace h5:=h5.still hb3);(replace h2:=h2.still hb3);(replace b:=below_next b hb3);(have n56:w2.heap.size≠w3.heap.size:=Nat.ne_of_lt (Nat.lt_of_lt_of_le l5 hb3.size));clear hb3 l5;(have z3:=fresh4' w3);(have t6:=fresh4t w3 x);(obtain ⟨V3,hV3⟩:∃ V,V=(w3.alloc (.cells #[.int .u64 0,.int .u64 0,.int .u64 0,.int .u64 0] 51)).setCells w3.heap.size 0 (c4 x):=⟨_,rfl⟩);(have h6:RW V3 w3.heap.size 0 (c4 x):=by rw [hV3];exact z3.stored (c4 x) rfl);(have bV:Below w3.heap.size w3 V3:=by rw [hV3];exact below_setCells (Nat.le_refl _) _ _ _ ((Below.refl _ _).alloc (Nat.le_refl _) _));(have HV3:=Hid.mk' hV3);clear hV3 z3;(have w6l:w.heap.size≤w3.heap.size:=b.size);(have l2:=h2.lt);(have n26:g2≠w3.heap.size:=Nat.ne_of_lt l2);clear l2;(replace h5:=h5.still bV);(replace h2:=h2.still bV);(replace b:=below_next b bV);clear bV)
  | (with_reducible (refine id (?_:wpList _ _ _ _ _ _));refine wpList_store_mid rfl 51 _ _ rfl w3.heap.size 0 (c4 x).toArray rfl rfl t6 (info4a x) (one4 x) ?_;rw [List.toList_toArray,←HV3.out];clear t6 HV3))
 (try dsimp only [Act.put])
 generalize w2.heap.size=g5 at *
 generalize w3.heap.size=g6 at *
 cases hk:ok with
 | false =>
  have hnone:decN bs=none:=hno (by
   have h:=Hok.out
   rw [hk] at h
   cases R with
   | none=>rfl
   | some _=>cases h)
  have t2:V3.there g2 0 (p16 0 0 0 0).toArray.size:=thr16 h2 _ _ _ _
  clear hno hds hdo hk
  go_wp2_with (first
   | (refine wpList_build0 rfl 53 rfl _ builtP0 ?_)
   | (with_reducible (refine id (?_:wpList _ _ _ _ _ _));refine wpList_store_mid rfl 53 _ _ rfl g2 0 (p16 0 0 0 0).toArray rfl rfl t2 (info16A _ _ _ _) (one16 _ _ _ _) ?_))
  (try simp only [Exit.inBlock,Exit.then])
  exact bodyPost_ret (results_cell_tmp Tryz.results27 _ _ g2 0 (p16 0 0 0 0) _ rfl (h2.stored (p16 0 0 0 0) rfl).range Tryz.underlying53 rfl (info16 _ _ _ _)) rfl ⟨_,30,rfl,below_setCells w2l _ _ _ b,.inl ⟨rfl,r6_zero,hnone⟩⟩
 | true =>
  have hR:R=some x:=by
   have h:=Hok.out
   rw [hk] at h
   cases R with
   | none=>cases h
   | some _=>rw [Hx.out];rfl
  obtain ⟨xs,hxs⟩:∃ xs,xs=sgnX bs x:=⟨_,rfl⟩
  have hxsl:xs<pF:=by rw [hxs];exact sgnX_lt bs hxl0
  have hds2:=hds x hR
  have hdo2:=hdo x hR hxl0
  rw [←hxs] at hds2 hdo2
  have HX:=Hid.mk' hxs
  clear hno hds hdo hk hR hxs Hx Hok
  obtain ⟨tt,ht⟩:∃ tt,tt=fmul xs y:=⟨_,rfl⟩
  have kB:∀ W,Calls Tryz.prog 52 #[.agg (c4 xs).toArray,.agg (c4 y).toArray] W fun e w'=>∃ s,e = .returned s∧NewC W w' s 32 (encXY xs y)∧Below W.heap.size W w':=fun W=>bytesOf_any xs y hyl W
  have kA:∀ W,Calls Tryz.prog 47 #[.agg (c4 xs).toArray,.agg (c4 y).toArray] W fun e w'=>e = .returned (.agg (p16 xs y 1 tt).toArray)∧Below W.heap.size W w':=fun W=>by rw [ht];exact pat_any xs y hxsl hyl W
  have Ht:=Hid.mk' ht
  clear ht
  have c31:=(b.cell (p:=⟨bb,ob+31,none⟩) hlb).trans (hcl 31 (by decide))
  have e9:=high_u8 (bs 31) (hbs 31)
  have hb31:=hbs 31
  by_cases ho:bs 31 / 128=1
  · rw [ho] at e9
    have e9':bits .and .u8 (bs 31:Int) 128=128:=e9
    have hxv:xs=fsub 0 x:=by rw [HX.out];unfold sgnX;rw [if_pos ho]
    have km:∀ W,Calls Tryz.prog 63 #[.agg (c4 0).toArray,.agg (c4 x).toArray] W fun e w'=>e = .returned (.agg (c4 xs).toArray)∧Below W.heap.size W w':=fun W=>by rw [hxv];exact minus_any 0 x (by decide) hxl0 W
    clear e9 hxv
    go_upto_region 11 with (first
     | (refine wpList_build0 rfl 51 rfl _ built0 ?_)
     | (refine wpList_load_mid rfl 51 _ rfl g6 0 rfl (c4 x) _ h6.range Tryz.underlying51 rfl info4 ?_)
     | (go_at_call 63;refine (km _).mono ?_;clear km;rintro e w4 ⟨rfl,hb4⟩;(replace h2:=h2.still hb4);(replace h5:=h5.still hb4);(replace h6:=h6.still hb4);(replace b:=below_next b hb4);clear hb4;(have t6:w4.there g6 0 (c4 xs).toArray.size:=h6.there);(obtain ⟨VV,hVV⟩:∃ V,V=w4.setCells g6 0 (c4 xs):=⟨_,rfl⟩);(replace h6:=h6.stored (c4 xs) rfl);(replace h2:=h2.far g6 0 (c4 xs) (.inl n26));(replace h5:=h5.far g6 0 (c4 xs) (.inl n56));(replace b:=below_setCells w6l (c4 xs) 0 _ b);rw [←hVV] at h6 h2 h5 b;(have HV4:=Hid.mk' hVV);clear hVV)
     | (with_reducible (refine id (?_:wpList _ _ _ _ _ _));refine wpList_store_mid rfl 51 _ _ rfl g6 0 (c4 xs).toArray rfl rfl t6 (info4a xs) (one4 xs) ?_;rw [List.toList_toArray,←HV4.out];clear t6 HV4))
    (try dsimp only [Act.put])
    clear e9' c31
    have kb2:=fun W=>kB W
    clear kB
    by_cases heq:∀ j,j<32→encXY xs y j=bs j
    · have es:=enc_str_t hyl hbs heq
      have hdec:=hds2 heq
      obtain ⟨kok,P,hext,hon,hencP⟩:=dec_pt hbs hdec
      have hr6:R6 (p16 xs y 1 tt) P:=by rw [Ht.out];exact W6.r6 (p:=ofXY xs y) ⟨kok,hon,hext⟩
      have hsome:(decN bs).isSome=true:=by rw [hdec];rfl
      have ke:∀ W s,NewC VV W s 32 (encXY xs y)→Below VV.heap.size VV W→Calls Tryz.prog 64 #[s,.slice (some ⟨bb,ob,none⟩) 32 cap] W fun e w'=>e = .returned (.bool true)∧Below W.heap.size W w':=fun W s hs hb=>by
       have:=peqb_any (Str.of (hs.bytes (by decide)) (encXY_lt xs hyl)) (Str.of ((hv0.still b).still hb) hbs)
       rw [es] at this;exact this
      clear heq es hdec kok hext hon
      go_wp2_with (first
       | (refine wpList_load_mid rfl 51 _ rfl g6 0 rfl (c4 xs) _ h6.range Tryz.underlying51 rfl info4 ?_)
       | (refine wpList_load_mid rfl 51 _ rfl g5 0 rfl (c4 y) _ h5.range Tryz.underlying51 rfl info4 ?_)
       | (go_at_call 52;refine (kb2 _).mono ?_;clear kb2;rintro e w7 ⟨s7,rfl,hn7,hb7⟩;(have ke2:=ke w7 s7 hn7 hb7);clear ke;(replace h6:=h6.still hb7);(replace h5:=h5.still hb7);(replace h2:=h2.still hb7);(replace b:=below_next b hb7);clear hb7 hn7)
       | (go_at_call 64;refine ke2.mono ?_;clear ke2;rintro e w8 ⟨rfl,hb8⟩;(replace h6:=h6.still hb8);(replace h5:=h5.still hb8);(replace h2:=h2.still hb8);(replace b:=below_next b hb8);clear hb8)
       | (go_at_call 47;refine (kA _).mono ?_;clear kA;rintro e w9 ⟨rfl,hb9⟩;(replace h2:=h2.still hb9);(replace b:=below_next b hb9);clear hb9;(have t2:w9.there g2 0 (p16 xs y 1 tt).toArray.size:=thr16 h2 _ _ _ _))
       | (with_reducible (refine id (?_:wpList _ _ _ _ _ _));refine wpList_store_mid rfl 53 _ _ rfl g2 0 (p16 xs y 1 tt).toArray rfl rfl t2 (info16A _ _ _ _) (one16 _ _ _ _) ?_))
      (try simp only [Exit.inBlock,Exit.then])
      exact bodyPost_ret (results_cell_tmp Tryz.results27 _ _ g2 0 (p16 xs y 1 tt) _ rfl (h2.stored (p16 xs y 1 tt) rfl).range Tryz.underlying53 rfl (info16 _ _ _ _)) rfl ⟨_,0,rfl,below_setCells w2l _ _ _ b,.inr ⟨rfl,hsome,P,hr6,hencP⟩⟩
    · have es:=enc_str_f hyl hbs heq
      have hnone:=hdo2 heq
      have ke:∀ W s,NewC VV W s 32 (encXY xs y)→Below VV.heap.size VV W→Calls Tryz.prog 64 #[s,.slice (some ⟨bb,ob,none⟩) 32 cap] W fun e w'=>e = .returned (.bool false)∧Below W.heap.size W w':=fun W s hs hb=>by
       have:=peqb_any (Str.of (hs.bytes (by decide)) (encXY_lt xs hyl)) (Str.of ((hv0.still b).still hb) hbs)
       rw [es] at this;exact this
      clear heq es kA
      go_wp2_with (first
       | (refine wpList_load_mid rfl 51 _ rfl g6 0 rfl (c4 xs) _ h6.range Tryz.underlying51 rfl info4 ?_)
       | (refine wpList_load_mid rfl 51 _ rfl g5 0 rfl (c4 y) _ h5.range Tryz.underlying51 rfl info4 ?_)
       | (go_at_call 52;refine (kb2 _).mono ?_;clear kb2;rintro e w7 ⟨s7,rfl,hn7,hb7⟩;(have ke2:=ke w7 s7 hn7 hb7);clear ke;(replace h2:=h2.still hb7);(replace b:=below_next b hb7);clear hb7 hn7)
       | (go_at_call 64;refine ke2.mono ?_;clear ke2;rintro e w8 ⟨rfl,hb8⟩;(replace h2:=h2.still hb8);(replace b:=below_next b hb8);clear hb8;(have t2:w8.there g2 0 (p16 0 0 0 0).toArray.size:=thr16 h2 _ _ _ _))
       | (refine wpList_build0 rfl 53 rfl _ builtP0 ?_)
       | (with_reducible (refine id (?_:wpList _ _ _ _ _ _));refine wpList_store_mid rfl 53 _ _ rfl g2 0 (p16 0 0 0 0).toArray rfl rfl t2 (info16A _ _ _ _) (one16 _ _ _ _) ?_))
      (try simp only [Exit.inBlock,Exit.then])
      exact bodyPost_ret (results_cell_tmp Tryz.results27 _ _ g2 0 (p16 0 0 0 0) _ rfl (h2.stored (p16 0 0 0 0) rfl).range Tryz.underlying53 rfl (info16 _ _ _ _)) rfl ⟨_,30,rfl,below_setCells w2l _ _ _ b,.inl ⟨rfl,r6_zero,hnone⟩⟩
  · have e9':bits .and .u8 (bs 31:Int) 128=0:=by rw [e9,show bs 31 / 128=0 by omega];rfl
    obtain rfl:xs=x:=by rw [HX.out];unfold sgnX;rw [if_neg ho]
    clear e9
    go_upto_region 11 with (fail)
    obtain ⟨VV,hVV⟩:∃ V,V=V3:=⟨_,rfl⟩
    rw [←hVV]
    rw [←hVV] at h6 h2 h5 b
    clear hVV c31 e9'
    have kb2:=fun W=>kB W
    clear kB
    by_cases heq:∀ j,j<32→encXY xs y j=bs j
    · have es:=enc_str_t hyl hbs heq
      have hdec:=hds2 heq
      obtain ⟨kok,P,hext,hon,hencP⟩:=dec_pt hbs hdec
      have hr6:R6 (p16 xs y 1 tt) P:=by rw [Ht.out];exact W6.r6 (p:=ofXY xs y) ⟨kok,hon,hext⟩
      have hsome:(decN bs).isSome=true:=by rw [hdec];rfl
      have ke:∀ W s,NewC VV W s 32 (encXY xs y)→Below VV.heap.size VV W→Calls Tryz.prog 64 #[s,.slice (some ⟨bb,ob,none⟩) 32 cap] W fun e w'=>e = .returned (.bool true)∧Below W.heap.size W w':=fun W s hs hb=>by
       have:=peqb_any (Str.of (hs.bytes (by decide)) (encXY_lt xs hyl)) (Str.of ((hv0.still b).still hb) hbs)
       rw [es] at this;exact this
      clear heq es hdec kok hext hon
      go_wp2_with (first
       | (refine wpList_load_mid rfl 51 _ rfl g6 0 rfl (c4 xs) _ h6.range Tryz.underlying51 rfl info4 ?_)
       | (refine wpList_load_mid rfl 51 _ rfl g5 0 rfl (c4 y) _ h5.range Tryz.underlying51 rfl info4 ?_)
       | (go_at_call 52;refine (kb2 _).mono ?_;clear kb2;rintro e w7 ⟨s7,rfl,hn7,hb7⟩;(have ke2:=ke w7 s7 hn7 hb7);clear ke;(replace h6:=h6.still hb7);(replace h5:=h5.still hb7);(replace h2:=h2.still hb7);(replace b:=below_next b hb7);clear hb7 hn7)
       | (go_at_call 64;refine ke2.mono ?_;clear ke2;rintro e w8 ⟨rfl,hb8⟩;(replace h6:=h6.still hb8);(replace h5:=h5.still hb8);(replace h2:=h2.still hb8);(replace b:=below_next b hb8);clear hb8)
       | (go_at_call 47;refine (kA _).mono ?_;clear kA;rintro e w9 ⟨rfl,hb9⟩;(replace h2:=h2.still hb9);(replace b:=below_next b hb9);clear hb9;(have t2:w9.there g2 0 (p16 xs y 1 tt).toArray.size:=thr16 h2 _ _ _ _))
       | (with_reducible (refine id (?_:wpList _ _ _ _ _ _));refine wpList_store_mid rfl 53 _ _ rfl g2 0 (p16 xs y 1 tt).toArray rfl rfl t2 (info16A _ _ _ _) (one16 _ _ _ _) ?_))
      (try simp only [Exit.inBlock,Exit.then])
      exact bodyPost_ret (results_cell_tmp Tryz.results27 _ _ g2 0 (p16 xs y 1 tt) _ rfl (h2.stored (p16 xs y 1 tt) rfl).range Tryz.underlying53 rfl (info16 _ _ _ _)) rfl ⟨_,0,rfl,below_setCells w2l _ _ _ b,.inr ⟨rfl,hsome,P,hr6,hencP⟩⟩
    · have es:=enc_str_f hyl hbs heq
      have hnone:=hdo2 heq
      have ke:∀ W s,NewC VV W s 32 (encXY xs y)→Below VV.heap.size VV W→Calls Tryz.prog 64 #[s,.slice (some ⟨bb,ob,none⟩) 32 cap] W fun e w'=>e = .returned (.bool false)∧Below W.heap.size W w':=fun W s hs hb=>by
       have:=peqb_any (Str.of (hs.bytes (by decide)) (encXY_lt xs hyl)) (Str.of ((hv0.still b).still hb) hbs)
       rw [es] at this;exact this
      clear heq es kA
      go_wp2_with (first
       | (refine wpList_load_mid rfl 51 _ rfl g6 0 rfl (c4 xs) _ h6.range Tryz.underlying51 rfl info4 ?_)
       | (refine wpList_load_mid rfl 51 _ rfl g5 0 rfl (c4 y) _ h5.range Tryz.underlying51 rfl info4 ?_)
       | (go_at_call 52;refine (kb2 _).mono ?_;clear kb2;rintro e w7 ⟨s7,rfl,hn7,hb7⟩;(have ke2:=ke w7 s7 hn7 hb7);clear ke;(replace h2:=h2.still hb7);(replace b:=below_next b hb7);clear hb7 hn7)
       | (go_at_call 64;refine ke2.mono ?_;clear ke2;rintro e w8 ⟨rfl,hb8⟩;(replace h2:=h2.still hb8);(replace b:=below_next b hb8);clear hb8;(have t2:w8.there g2 0 (p16 0 0 0 0).toArray.size:=thr16 h2 _ _ _ _))
       | (refine wpList_build0 rfl 53 rfl _ builtP0 ?_)
       | (with_reducible (refine id (?_:wpList _ _ _ _ _ _));refine wpList_store_mid rfl 53 _ _ rfl g2 0 (p16 0 0 0 0).toArray rfl rfl t2 (info16A _ _ _ _) (one16 _ _ _ _) ?_))
      (try simp only [Exit.inBlock,Exit.then])
      exact bodyPost_ret (results_cell_tmp Tryz.results27 _ _ g2 0 (p16 0 0 0 0) _ rfl (h2.stored (p16 0 0 0 0) rfl).range Tryz.underlying53 rfl (info16 _ _ _ _)) rfl ⟨_,30,rfl,below_setCells w2l _ _ _ b,.inl ⟨rfl,r6_zero,hnone⟩⟩
set_option maxRecDepth 20000 in
set_option maxHeartbeats 4000000 in
theorem pdec_bad (v:Value) (n:Nat) (bs:Nat→Nat) (w:World) (hv:BytesIn w v n bs) (hn:n≠32) :
 Calls Tryz.prog 27 #[v] w fun e w'=>∃ c,e = .returned (.tuple #[.agg c.toArray,.int .i64 1])∧R6 c ezero∧Below w.heap.size w w':=by
 have hzp:=zeroP
 obtain ⟨xv,kv,rfl,-⟩:=hv.src
 have h1:¬((n:Int)=32):=by omega
 obtain ⟨W,g2,eW,hg2,b,h2⟩:=fresh16 w
 have HW:Hid (w.alloc (.cells zP 53)=W):=Hid.mk' eW
 have Hg:Hid (w.heap.size=g2):=Hid.mk' hg2
 have w2l:w.heap.size≤g2:=Nat.le_of_eq hg2
 have t2:W.there g2 0 (p16 0 0 0 0).toArray.size:=thr16 h2 _ _ _ _
 clear eW hg2 hv hn
 go_enter Tryz.func27,Tryz.ntmps27
 go_wp2_with (first
  | (refine wpList_build0 rfl 53 rfl _ builtP0 ?_)
  | (with_reducible (refine id (?_:wpList _ _ _ _ _ _));rw [HW.out,Hg.out];refine wpList_store_mid rfl 53 _ _ rfl g2 0 (p16 0 0 0 0).toArray rfl rfl t2 (info16A _ _ _ _) (one16 _ _ _ _) ?_;clear HW Hg))
 (try simp only [Exit.inBlock,Exit.then])
 exact bodyPost_ret (results_cell_tmp Tryz.results27 _ _ g2 0 (p16 0 0 0 0) _ rfl (h2.stored (p16 0 0 0 0) rfl).range Tryz.underlying53 rfl (info16 _ _ _ _)) rfl ⟨_,rfl,r6_zero,below_setCells w2l _ _ _ b⟩
set_option maxRecDepth 20000 in
set_option maxHeartbeats 4000000 in
theorem ptm_bad (c:List Value) (v:Value) (n:Nat) (ks:Nat→Nat) (w:World) (hv:BytesIn w v n ks) (hn:n≠32) :
 Calls Tryz.prog 46 #[.agg c.toArray,v] w fun e w'=>∃ c',e = .returned (.tuple #[.agg c'.toArray,.int .i64 1])∧R6 c' ezero∧Below w.heap.size w w':=by
 have hzp:=zeroP
 obtain ⟨xv,kv,rfl,-⟩:=hv.src
 have h1:¬((n:Int)=32):=by omega
 obtain ⟨V1,e1,b1⟩:∃ V,w.alloc (.cells c.toArray 53)=V∧Below w.heap.size w V:=⟨_,rfl,(Below.refl _ _).alloc (Nat.le_refl _) _⟩
 obtain ⟨W,g4,e4,hg4,b4,h4⟩:=fresh16 V1
 have t1:V1.heap.size=w.heap.size+1:=by rw [←e1];simp
 have HW:Hid (W=(w.alloc (.cells c.toArray 53)).alloc (.cells zP 53)):=Hid.mk' (by rw [←e4,←e1])
 have q4:Hid (w.heap.size+1=g4):=Hid.mk' (by omega)
 have w4l:w.heap.size≤g4:=by omega
 have hbW:Below w.heap.size w W:=below_next b1 b4
 have t4:W.there g4 0 (p16 0 0 0 0).toArray.size:=thr16 h4 _ _ _ _
 clear e1 e4 hg4 b1 b4 t1 V1 hv hn
 go_enter Tryz.func46,Tryz.ntmps46
 go_wp2
 go_step3
 go_wp2_with (first
  | (refine wpList_build0 rfl 53 rfl _ builtP0 ?_)
  | (with_reducible (refine id (?_:wpList _ _ _ _ _ _));rw [←HW.out,q4.out];refine wpList_store_mid rfl 53 _ _ rfl g4 0 (p16 0 0 0 0).toArray rfl rfl t4 (info16A _ _ _ _) (one16 _ _ _ _) ?_;clear HW q4))
 rw [Exit.noGoto_ret]
 (try simp only [Exit.inBlock,Exit.then])
 exact bodyPost_ret (results_cell_tmp Tryz.results46 _ _ g4 0 (p16 0 0 0 0) _ rfl (h4.stored (p16 0 0 0 0) rfl).range Tryz.underlying53 rfl (info16 _ _ _ _)) rfl ⟨_,rfl,r6_zero,below_setCells w4l _ _ _ hbW⟩
end Go.Proofs.YtdgkmloabificaaGreatDoor
namespace Go.Proofs.YtdgkmloabificaaGreatDoor
open Go.RowKit
theorem point_api:PointApi IM R6 where
 keep:=fun _ _ h hb=>h.still hb
 len:=fun _ _ h=>h.len
 one:=fun _ _ h=>h.one
 on:=fun _ _ h=>h.on
 base:=fun w _=>pbase_pt w
 zero:=fun w _=>(pzero_pt w).mono fun _ _ ⟨he,hb⟩=>⟨_,he,r6_zero,hb⟩
 enc:=fun _ _ w h _=>penc_pt h w
 plus:=fun _ _ _ _ w h k _=>pplus_pt h k w
 same:=fun _ _ _ _ w h k _=>psame_pt h k w
 times:=fun _ _ v ks w h hks hv _=>ptm_good h v ks hks w hv
 timesBad:=fun c _ v n ks w _ hn hv _=>ptm_bad c v n ks w hv hn
 dec:=fun v bs w hbs hv im=>pdec_good v bs hbs w im hv
 decBad:=fun v n bs w hn hv _=>pdec_bad v n bs w hv hn
end Go.Proofs.YtdgkmloabificaaGreatDoor
namespace Go.Proofs.YtdgkmloabificaaGreatDoor
open Go Go.RowKit
def rootL:List Nat:=[14190309331451158704,3405592160176694392,3120150775007532967,3135389899092516619]
theorem cellsOfWord:Tryz.prog.cellsOf 47=1:=by kernel_rfl
theorem cellsOfLimbs:Tryz.prog.cellsOf 49=4:=by kernel_rfl
theorem rootL_eq:Rows.laid_synod_field_rootOfMinusOne=(Lib.tabData .u64 (rootL.map fun n:Nat=>(n:Int)):DataW Unit):=rfl
theorem gRoot:Tryz.prog.globalNamed "synod/field.rootOfMinusOne" = some 5:=by kernel_rfl
theorem tRoot:(Tryz.prog.globals[5]?).map (·.type)=some 49:=by kernel_rfl
theorem c4_iM:c4 iM=(rootL.map fun n:Nat=>Value.int .u64 (n:Int)):=by kernel_rfl
def lay (cs:Array Value):Obj→Obj
 | .cells _ t frozen => .cells cs t frozen
 | o=>o
def orderL:List Nat:=[6346243789798364141,1503914060200516822,0,1152921504606846976]
theorem cellsOfOrder:Tryz.prog.cellsOf 48=4:=by kernel_rfl
theorem orderL_eq:Rows.laid_synod_scalar_order=(Lib.tabData .u64 (orderL.map fun n:Nat=>(n:Int)):DataW Unit):=rfl
theorem gOrder:Tryz.prog.globalNamed "synod/scalar.order" = some 2:=by kernel_rfl
theorem tOrder:(Tryz.prog.globals[2]?).map (·.type)=some 48:=by kernel_rfl
theorem cellsOfI:Tryz.prog.cellsOf 3=1:=by kernel_rfl
theorem cellsOfU:Tryz.prog.cellsOf 91=1:=by kernel_rfl
theorem cellsOf3U:Tryz.prog.cellsOf 111=3:=by kernel_rfl
theorem cellsOfW:Tryz.prog.cellsOf 47=1:=by kernel_rfl
theorem cellsOf80W:Tryz.prog.cellsOf 165=80:=by kernel_rfl
theorem cellsOf8W:Tryz.prog.cellsOf 106=8:=by kernel_rfl
theorem rules_parts {H:Type} {enc:TypeId × Value→H} {w:World} {base:Nat} {sp:Nat→Bool} {held:Bool} {fuel:Nat} {cs:List Value} {a b:Int} {x y z u:List Int} {p:List MemPlace}
 (h:DataW.trod enc Tryz.prog w base sp held fuel 113 cs=some (.agg [.lit (.int .i64 a),.lit (.int .i64 b),Lib.tabData .u64 x,Lib.tabData .u64 y,Lib.tabData .u64 z,Lib.tabData .u64 u],p)) :
 (cs.drop 0).take 1=[.int .i64 a]∧(cs.drop 1).take 1=[.int .i64 b]∧(cs.drop 2).take 3=x.map (fun v=>Value.int .u64 v)∧(cs.drop 5).take 3=y.map (fun v=>Value.int .u64 v)∧(cs.drop 8).take 3=z.map (fun v=>Value.int .u64 v)∧(cs.drop 11).take 3=u.map (fun v=>Value.int .u64 v):=by
 cases fuel with
 | zero=>simp [DataW.trod] at h
 | succ fuel =>
  simp only [DataW.trod,Tryz.underlying113] at h
  split at h
  · obtain ⟨xs,hm,hx⟩:=Option.map_eq_some_iff.1 h
    have hxs:=congrArg Prod.fst hx
    simp only [DataW.agg.injEq] at hxs
    have hlen:xs.length=6:=by have:=congrArg List.length hxs;simpa using this
    have g:∀ i f,(i<6)→[(3,0),(3,1),(111,2),(111,5),(111,8),(111,11)][i]? = some f→∃ y,xs[i]? = some y∧DataW.trod enc Tryz.prog w base sp held fuel f.1 ((cs.drop f.2).take (Tryz.prog.cellsOf f.1))=some y:=fun i f hi hf=>by
     match i,hi,hf with
     | 0,_,hf=>cases hf;exact Lib.mapM_at hm 0 _ rfl
     | 1,_,hf=>cases hf;exact Lib.mapM_at hm 1 _ rfl
     | 2,_,hf=>cases hf;exact Lib.mapM_at hm 2 _ rfl
     | 3,_,hf=>cases hf;exact Lib.mapM_at hm 3 _ rfl
     | 4,_,hf=>cases hf;exact Lib.mapM_at hm 4 _ rfl
     | 5,_,hf=>cases hf;exact Lib.mapM_at hm 5 _ rfl
    match xs,hlen,hxs,g with
    | [x0,x1,x2,x3,x4,x5],_,hxs,g =>
     simp only [List.map_cons,List.map_nil,List.cons.injEq,and_true] at hxs
     obtain ⟨e0,e1,e2,e3,e4,e5⟩:=hxs
     obtain ⟨_,h0,t0⟩:=g 0 _ (by decide) rfl
     obtain ⟨_,h1,t1⟩:=g 1 _ (by decide) rfl
     obtain ⟨_,h2,t2⟩:=g 2 _ (by decide) rfl
     obtain ⟨_,h3,t3⟩:=g 3 _ (by decide) rfl
     obtain ⟨_,h4,t4⟩:=g 4 _ (by decide) rfl
     obtain ⟨_,h5,t5⟩:=g 5 _ (by decide) rfl
     cases h0;cases h1;cases h2;cases h3;cases h4;cases h5
     rw [cellsOfI] at t0 t1
     rw [cellsOf3U] at t2 t3 t4 t5
     obtain ⟨z0,c0,r0,_⟩:=DataW.trod_int Tryz.underlying3 t0
     obtain ⟨z1,c1,r1,_⟩:=DataW.trod_int Tryz.underlying3 t1
     subst r0 r1
     cases e0;cases e1
     have k:∀ {o:Nat} {v:DataW H × List MemPlace} {l:List Int},DataW.trod enc Tryz.prog w base sp held fuel 111 ((cs.drop o).take 3)=some v→v.1=Lib.tabData .u64 l→(cs.drop o).take 3=l.map (fun v=>Value.int .u64 v):=fun {o v l} ht he=>by
      obtain ⟨v1,v2⟩:=v
      cases he
      exact Lib.cells_of_tab Tryz.underlying111 Tryz.underlying91 cellsOfU cellsOf3U ht
     exact ⟨c0,c1,k t2 e2,k t3 e3,k t4 e4,k t5 e5⟩
  · cases h
theorem at_of_part {cs:List Value} {o n:Nat} {l:List Value} (h:(cs.drop o).take n=l) (i:Nat) (hi:i<n):cs[o+i]? = l[i]?:=by
 rw [←h,List.getElem?_take,if_pos hi,List.getElem?_drop]
theorem cubesL_eq:Rows.laid_synod_sha_cubes=(Lib.tabData .u64 (cubesL.map fun n:Nat=>(n:Int)):DataW Unit):=rfl
theorem squaresL_eq:Rows.laid_synod_sha_squares=(Lib.tabData .u64 (squaresL.map fun n:Nat=>(n:Int)):DataW Unit):=rfl
theorem gCubes:Tryz.prog.globalNamed "synod/sha.cubes" = some 4:=by kernel_rfl
theorem gSquares:Tryz.prog.globalNamed "synod/sha.squares" = some 3:=by kernel_rfl
theorem gNarrow:Tryz.prog.globalNamed "synod/sha.narrowRules" = some 1:=by kernel_rfl
theorem gWide:Tryz.prog.globalNamed "synod/sha.wideRules" = some 0:=by kernel_rfl
theorem tCubes:(Tryz.prog.globals[4]?).map (·.type)=some 165:=by kernel_rfl
theorem tSquares:(Tryz.prog.globals[3]?).map (·.type)=some 106:=by kernel_rfl
theorem tNarrow:(Tryz.prog.globals[1]?).map (·.type)=some 113:=by kernel_rfl
theorem tWide:(Tryz.prog.globals[0]?).map (·.type)=some 113:=by kernel_rfl
theorem tab_cell {W:World} {name:String} {g:Nat} {l:List Nat} {cs:Array Value} (hg:Tryz.prog.globalNamed name=some g) (hv:W.var? Tryz.prog name=some cs) (hc:cs.toList=(l.map fun n:Nat=>(n:Int)).map fun z=>Value.int .u64 z) (j:Nat) (hj:j<l.length):W.cell? ⟨g,j,none⟩=some (.int .u64 ((l.getD j 0:Nat):Int)):=by
 rw [World.var?_cell hg hv j,←Array.getElem?_toList,hc]
 simp [List.getD,hj]
def G7 (W:World):Prop:=IM W∧Ord W∧HTab W cubeK squareK
theorem G7.keep {w w':World} (h:G7 w) (hb:Below w.heap.size w w'):G7 w':=⟨h.1.still hb,h.2.1.still hb,h.2.2.below hb h.2.2.size⟩
theorem sg_ctx:SgCtx G7 R6:=⟨point_api.more (fun _ h=>h.1) (fun _ _ h hb=>h.keep hb),fun _ h=>h.2.2,fun _ h=>h.2.1⟩
theorem sg_of_laid {W:World} (h:laidMetH Tryz.prog [("synod/field.rootOfMinusOne", Rows.laid_synod_field_rootOfMinusOne),("synod/sha.cubes", Rows.laid_synod_sha_cubes),("synod/sha.squares", Rows.laid_synod_sha_squares),("synod/sha.narrowRules", Rows.laid_synod_sha_narrowRules),("synod/sha.wideRules", Rows.laid_synod_sha_wideRules),("synod/scalar.order", Rows.laid_synod_scalar_order)] W):G7 W:=by
 have h':laidMet Tryz.prog [("synod/field.rootOfMinusOne", Rows.laid_synod_field_rootOfMinusOne),("synod/sha.cubes", Rows.laid_synod_sha_cubes),("synod/sha.squares", Rows.laid_synod_sha_squares),("synod/sha.narrowRules", Rows.laid_synod_sha_narrowRules),("synod/sha.wideRules", Rows.laid_synod_sha_wideRules),("synod/scalar.order", Rows.laid_synod_scalar_order)] W:=h
 obtain ⟨ps,⟨g1,t1,cs1,f1,p1,q1,hg1,ht1,hv1,hd1,⟨g2,t2,cs2,f2,p2,q2,hg2,ht2,hv2,hd2,⟨g3,t3,cs3,f3,p3,q3,hg3,ht3,hv3,hd3,⟨g4,t4,cs4,f4,p4,q4,hg4,ht4,hv4,hd4,⟨g5,t5,cs5,f5,p5,q5,hg5,ht5,hv5,hd5,⟨g6,t6,cs6,f6,p6,q6,hg6,ht6,hv6,hd6,_,_⟩,_⟩,_⟩,_⟩,_⟩,_⟩,_⟩:=h'
 obtain rfl:=Option.some.inj (gRoot.symm.trans hg1)
 obtain rfl:=Option.some.inj (tRoot.symm.trans ht1)
 obtain rfl:=Option.some.inj (gCubes.symm.trans hg2)
 obtain rfl:=Option.some.inj (tCubes.symm.trans ht2)
 obtain rfl:=Option.some.inj (gSquares.symm.trans hg3)
 obtain rfl:=Option.some.inj (tSquares.symm.trans ht3)
 obtain rfl:=Option.some.inj (gNarrow.symm.trans hg4)
 obtain rfl:=Option.some.inj (tNarrow.symm.trans ht4)
 obtain rfl:=Option.some.inj (gWide.symm.trans hg5)
 obtain rfl:=Option.some.inj (tWide.symm.trans ht5)
 obtain rfl:=Option.some.inj (gOrder.symm.trans hg6)
 obtain rfl:=Option.some.inj (tOrder.symm.trans ht6)
 rw [rootL_eq] at hd1
 rw [orderL_eq] at hd6
 rw [cubesL_eq] at hd2
 rw [squaresL_eq] at hd3
 have c1:=Lib.cells_of_tab Tryz.underlying165 Tryz.underlying47 cellsOfW cellsOf80W hd2
 have c2:=Lib.cells_of_tab Tryz.underlying106 Tryz.underlying47 cellsOfW cellsOf8W hd3
 obtain ⟨a0,a1,a2,a3,a4,a5⟩:=rules_parts (a:=32) (b:=64) (x:=[7,18,3]) (y:=[17,19,10]) (z:=[2,13,22]) (u:=[6,11,25]) hd4
 obtain ⟨b0,b1,b2,b3,b4,b5⟩:=rules_parts (a:=64) (b:=80) (x:=[1,8,7]) (y:=[19,61,6]) (z:=[28,34,39]) (u:=[14,18,41]) hd5
 have n:∀ j,W.cell? ⟨1,j,none⟩=cs4.toList[j]?:=fun j=>by rw [World.var?_cell gNarrow hv4 j,Array.getElem?_toList]
 have v:∀ j,W.cell? ⟨0,j,none⟩=cs5.toList[j]?:=fun j=>by rw [World.var?_cell gWide hv5 j,Array.getElem?_toList]
 have c0:=Lib.cells_of_tab Tryz.underlying49 Tryz.underlying47 cellsOfWord cellsOfLimbs hd1
 have c6:=Lib.cells_of_tab Tryz.underlying48 Tryz.underlying47 cellsOfWord cellsOfOrder hd6
 have hr:W.rangeAt 5 0 (c4 iM):=fun j v hv=>by
  rw [Nat.zero_add,World.var?_cell gRoot hv1 j,←Array.getElem?_toList,c0,←hv,c4_iM]
  simp [rootL]
 refine ⟨⟨hr,block_lt_of_cell (hr 0 _ rfl)⟩,fun j hj => ?_,fun j hj=>tab_cell gCubes hv2 c1 j hj,fun j hj=>tab_cell gSquares hv3 c2 j hj,?_,?_,cubeK_lt,squareK_lt⟩
 · rw [World.var?_cell gOrder hv6 j,←Array.getElem?_toList,c6]
   have h:j=0∨j=1∨j=2∨j=3:=by omega
   rcases h with rfl | rfl | rfl | rfl <;> rfl
 · exact ⟨(n 0).trans (at_of_part a0 0 (by decide)),(n 1).trans (at_of_part a1 0 (by decide)),(n 2).trans (at_of_part a2 0 (by decide)),(n 3).trans (at_of_part a2 1 (by decide)),(n 4).trans (at_of_part a2 2 (by decide)),(n 5).trans (at_of_part a3 0 (by decide)),(n 6).trans (at_of_part a3 1 (by decide)),(n 7).trans (at_of_part a3 2 (by decide)),(n 8).trans (at_of_part a4 0 (by decide)),(n 9).trans (at_of_part a4 1 (by decide)),(n 10).trans (at_of_part a4 2 (by decide)),(n 11).trans (at_of_part a5 0 (by decide)),(n 12).trans (at_of_part a5 1 (by decide)),(n 13).trans (at_of_part a5 2 (by decide))⟩
 · exact ⟨(v 0).trans (at_of_part b0 0 (by decide)),(v 1).trans (at_of_part b1 0 (by decide)),(v 2).trans (at_of_part b2 0 (by decide)),(v 3).trans (at_of_part b2 1 (by decide)),(v 4).trans (at_of_part b2 2 (by decide)),(v 5).trans (at_of_part b3 0 (by decide)),(v 6).trans (at_of_part b3 1 (by decide)),(v 7).trans (at_of_part b3 2 (by decide)),(v 8).trans (at_of_part b4 0 (by decide)),(v 9).trans (at_of_part b4 1 (by decide)),(v 10).trans (at_of_part b4 2 (by decide)),(v 11).trans (at_of_part b5 0 (by decide)),(v 12).trans (at_of_part b5 1 (by decide)),(v 13).trans (at_of_part b5 2 (by decide))⟩
def tabA (l:List Nat):Array Value:=(l.map fun n:Nat=>Value.int .u64 (n:Int)).toArray
def rulA (m r:Nat) (l:List Nat):Array Value:=([Value.int .i64 m,.int .i64 r] ++ l.map fun n:Nat=>Value.int .u64 (n:Int)).toArray
noncomputable def laidWorld7 (os:Os):World :=
 { World.holding Tryz.prog os ⟨#[],#[],[]⟩ with heap:=(((((((World.holding Tryz.prog os ⟨#[],#[],[]⟩).heap.modify 5 (lay (tabA rootL))).modify 2 (lay (tabA orderL))).modify 4 (lay (tabA cubesL))).modify 3 (lay (tabA squaresL))).modify 1 (lay (rulA 32 64 [7,18,3,17,19,10,2,13,22,6,11,25]))).modify 0 (lay (rulA 64 80 [1,8,7,19,61,6,28,34,39,14,18,41]))) }
end Go.Proofs.YtdgkmloabificaaGreatDoor
