/- What a step of the ladder does in the model. -/
import Derived.Test.YtibdhadbflfdpaaGreatDoorLRat
namespace Go.Proofs.YtibdhadbflfdpaaGreatDoor
open Go.RowKit
def c16 (xl zl xh zh:Nat):List Value:=c8 xl zl ++ c8 xh zh
theorem built8 (p q:Nat):Tryz.prog.built 277 [(0,numV p),(1,numV q)]=some (c8 p q).toArray:=by kernel_rfl
theorem Out.wide {b o n p m:Nat} {w w':World} (h:Out b o n w w') (h1:p≤o) (h2:o+n≤p+m):Out b p m w w' :=
 ⟨h.os,h.tape,h.output,h.size,h.block,fun q hq=>h.cell q (by omega),h.frozen⟩
abbrev qr1x13:Oper:=oS (Op.store 75 (oT 5) (oT 24)) "climb.go:34" #[jD 11,jD 9,jC 12,jP 0,jP 1,jP 2,jP 3,jP 4,jP 5,jP 6,jP 7,jP 8,jP 9,jP 10,jP 11,jP 12]
abbrev qr1x12:Oper:=oS (Op.store 75 (oT 4) (oT 19)) "climb.go:34" #[jD 10,jD 4,jC 9,jP 0,jP 1,jP 2,jP 3,jP 4,jT 5,jT 6,jT 7,jT 8,jU 9,jP 10,jP 11]
abbrev qr1x11:Oper:=oN 5 (Op.alloc 75) 0 "climb.go:34" #[]
abbrev qr1x10:Oper:=oN 4 (Op.alloc 75) 0 "climb.go:34" #[]
abbrev qr1x9:Oper:=oN 24 (cF1 287 #[oT 23] #[277]) 75 "climb.go:34" #[jD 8,jC 4]
abbrev qr1x4:Oper:=oN 19 (cF1 286 #[oT 18] #[277]) 75 "climb.go:34" #[jD 3]
abbrev qr2x13:Oper:=oS (Op.store 75 (oT 7) (oT 34)) "climb.go:35" #[jD 11,jD 9,jC 12,jP 0,jP 1,jP 2,jP 3,jP 4,jP 5,jP 6,jP 7,jP 8,jP 9,jP 10,jP 11,jP 12]
abbrev qr2x12:Oper:=oS (Op.store 75 (oT 6) (oT 29)) "climb.go:35" #[jD 10,jD 4,jC 9,jP 0,jP 1,jP 2,jP 3,jP 4,jT 5,jT 6,jT 7,jT 8,jU 9,jP 10,jP 11]
abbrev qr2x11:Oper:=oN 7 (Op.alloc 75) 0 "climb.go:35" #[]
abbrev qr2x10:Oper:=oN 6 (Op.alloc 75) 0 "climb.go:35" #[]
abbrev qr2x9:Oper:=oN 34 (cF1 287 #[oT 33] #[277]) 75 "climb.go:35" #[jD 8,jC 4]
abbrev qr2x4:Oper:=oN 29 (cF1 286 #[oT 28] #[277]) 75 "climb.go:35" #[jD 3]
abbrev qr3x9:Oper:=oS (Op.store 75 (oT 9) (oT 40)) "climb.go:36" #[jD 7,jD 5,jC 8,jP 0,jP 1,jP 2,jP 3,jP 4,jP 5,jP 6,jP 7,jP 8]
abbrev qr3x8:Oper:=oS (Op.store 75 (oT 8) (oT 37)) "climb.go:36" #[jD 6,jD 2,jC 5,jP 0,jP 1,jP 2,jT 3,jT 4,jU 5,jP 6,jP 7]
abbrev qr3x7:Oper:=oN 9 (Op.alloc 75) 0 "climb.go:36" #[]
abbrev qr3x6:Oper:=oN 8 (Op.alloc 75) 0 "climb.go:36" #[]
abbrev qr3x5:Oper:=oN 40 (cF1 98 #[oT 38,oT 39] #[75,75]) 75 "climb.go:36" #[jD 3,jD 4,jC 2]
abbrev qr3x2:Oper:=oN 37 (cF1 98 #[oT 35,oT 36] #[75,75]) 75 "climb.go:36" #[jD 0,jD 1]
abbrev qr4x9:Oper:=oS (Op.store 75 (oT 11) (oT 46)) "climb.go:37" #[jD 7,jD 5,jC 8,jP 0,jP 1,jP 2,jP 3,jP 4,jP 5,jP 6,jP 7,jP 8]
abbrev qr4x8:Oper:=oS (Op.store 75 (oT 10) (oT 43)) "climb.go:37" #[jD 6,jD 2,jC 5,jP 0,jP 1,jP 2,jT 3,jT 4,jU 5,jP 6,jP 7]
abbrev qr4x7:Oper:=oN 11 (Op.alloc 75) 0 "climb.go:37" #[]
abbrev qr4x6:Oper:=oN 10 (Op.alloc 75) 0 "climb.go:37" #[]
abbrev qr4x5:Oper:=oN 46 (cF1 112 #[oT 44,oT 45] #[75,75]) 75 "climb.go:37" #[jD 3,jD 4,jC 2]
abbrev qr4x2:Oper:=oN 43 (cF1 175 #[oT 41,oT 42] #[75,75]) 75 "climb.go:37" #[jD 0,jD 1]
abbrev qr5x9:Oper:=oS (Op.store 75 (oT 13) (oT 52)) "climb.go:38" #[jD 7,jD 5,jC 8,jP 0,jP 1,jP 2,jP 3,jP 4,jP 5,jP 6,jP 7,jP 8]
abbrev qr5x8:Oper:=oS (Op.store 75 (oT 12) (oT 49)) "climb.go:38" #[jD 6,jD 2,jC 5,jP 0,jP 1,jP 2,jT 3,jT 4,jU 5,jP 6,jP 7]
abbrev qr5x7:Oper:=oN 13 (Op.alloc 75) 0 "climb.go:38" #[]
abbrev qr5x6:Oper:=oN 12 (Op.alloc 75) 0 "climb.go:38" #[]
abbrev qr5x5:Oper:=oN 52 (cF1 98 #[oT 50,oT 51] #[75,75]) 75 "climb.go:38" #[jD 3,jD 4,jC 2]
abbrev qr5x2:Oper:=oN 49 (cF1 98 #[oT 47,oT 48] #[75,75]) 75 "climb.go:38" #[jD 0,jD 1]
set_option maxRecDepth 20000 in
set_option maxHeartbeats 16000000 in
theorem step_raw (u xl zl xh zh a b c d da cb pl mi aa bb ee p2 m2 um ab k ke ak ea g:Nat)
 (c1:∀ W,Calls Tryz.prog 286 #[ratV xl zl] W fun e w'=>e = .returned (numV a)∧Below W.heap.size W w')
 (c2:∀ W,Calls Tryz.prog 287 #[ratV xl zl] W fun e w'=>e = .returned (numV b)∧Below W.heap.size W w')
 (c3:∀ W,Calls Tryz.prog 286 #[ratV xh zh] W fun e w'=>e = .returned (numV c)∧Below W.heap.size W w')
 (c4h:∀ W,Calls Tryz.prog 287 #[ratV xh zh] W fun e w'=>e = .returned (numV d)∧Below W.heap.size W w')
 (c5:∀ W,Calls Tryz.prog 98 #[numV d,numV a] W fun e w'=>e = .returned (numV da)∧Below W.heap.size W w')
 (c6:∀ W,Calls Tryz.prog 98 #[numV c,numV b] W fun e w'=>e = .returned (numV cb)∧Below W.heap.size W w')
 (c7:∀ W,Calls Tryz.prog 175 #[numV da,numV cb] W fun e w'=>e = .returned (numV pl)∧Below W.heap.size W w')
 (c8h:∀ W,Calls Tryz.prog 112 #[numV da,numV cb] W fun e w'=>e = .returned (numV mi)∧Below W.heap.size W w')
 (c9:∀ W,Calls Tryz.prog 98 #[numV a,numV a] W fun e w'=>e = .returned (numV aa)∧Below W.heap.size W w')
 (c10:∀ W,Calls Tryz.prog 98 #[numV b,numV b] W fun e w'=>e = .returned (numV bb)∧Below W.heap.size W w')
 (c11:∀ W,Calls Tryz.prog 112 #[numV aa,numV bb] W fun e w'=>e = .returned (numV ee)∧Below W.heap.size W w')
 (c12:∀ W,Calls Tryz.prog 98 #[numV pl,numV pl] W fun e w'=>e = .returned (numV p2)∧Below W.heap.size W w')
 (c13:∀ W,Calls Tryz.prog 98 #[numV mi,numV mi] W fun e w'=>e = .returned (numV m2)∧Below W.heap.size W w')
 (c14:∀ W,Calls Tryz.prog 98 #[numV u,numV m2] W fun e w'=>e = .returned (numV um)∧Below W.heap.size W w')
 (c15:∀ W,Calls Tryz.prog 98 #[numV aa,numV bb] W fun e w'=>e = .returned (numV ab)∧Below W.heap.size W w')
 (c16:∀ W,Calls Tryz.prog 157 #[.int .i64 121665] W fun e w'=>e = .returned (numV k)∧Below W.heap.size W w')
 (c17:∀ W,Calls Tryz.prog 98 #[numV k,numV ee] W fun e w'=>e = .returned (numV ke)∧Below W.heap.size W w')
 (c18:∀ W,Calls Tryz.prog 175 #[numV aa,numV ke] W fun e w'=>e = .returned (numV ak)∧Below W.heap.size W w')
 (c19:∀ W,Calls Tryz.prog 98 #[numV ee,numV ak] W fun e w'=>e = .returned (numV ea)∧Below W.heap.size W w')
 (w:World) (hp:RW w g 0 (c8 xl zl)) (hq:RW w g 8 (c8 xh zh)) :
 Calls Tryz.prog 275 #[.pointer (some ⟨g,0,none⟩),numV u] w fun e w'=>e = .returned (.tuple #[])∧Out g 0 16 w w'∧RW w' g 0 (c8 ab ea)∧RW w' g 8 (c8 p2 um):=by
 obtain ⟨W,hW⟩:∃ W,W=w.alloc (.cells #[.int .u64 (lw u 0),.int .u64 (lw u 1),.int .u64 (lw u 2),.int .u64 (lw u 3)] 75):=⟨_,rfl⟩
 obtain ⟨g3,hg3⟩:∃ g3,g3=w.heap.size:=⟨_,rfl⟩
 have hbW:Below w.heap.size w W:=by rw [hW];exact (Below.refl _ _).alloc (Nat.le_refl _) _
 have hu:RW W g3 0 (c4 u):=by rw [hW,hg3];exact RW.fresh w (c4 u) _
 have hgl:=hp.lt
 have hne3:g3≠g:=by omega
 replace hp:=hp.still hbW
 replace hq:=hq.still hbW
 have HW:=Hid.mk' hW
 have Hg:=Hid.mk' hg3
 clear hW hg3
 rw [show numV u = .agg #[.int .u64 (lw u 0),.int .u64 (lw u 1),.int .u64 (lw u 2),.int .u64 (lw u 3)] from rfl]
 go_enter Tryz.func275,Tryz.ntmps275
 go_wp2
 rw [←HW.out,←Hg.out]
 clear HW Hg
 go_cut [4,5] from 15 (fun s4 s5 wc=>∃ g4 g5,s4 = .pointer (some ⟨g4,0,none⟩)∧s5 = .pointer (some ⟨g5,0,none⟩)∧Below W.heap.size W wc∧W.heap.size≤g4∧W.heap.size≤g5∧RW wc g4 0 (c4 a)∧RW wc g5 0 (c4 b)∧g4≠g5)
 case first =>
  clear c3 c4h c5 c6 c7 c8h c9 c10 c11 c12 c13 c14 c15 c16 c17 c18 c19
  have hdrew:Below W.heap.size W W.drew:=(Below.refl _ _).drew
  replace hp:=hp.still hdrew
  replace hq:=hq.still hdrew
  replace hu:=hu.still hdrew
  refine wp_region_noPanic ?_
  refine wp_region_held_drew (S:=fun w'=>Below W.drew.heap.size W.drew w') (by kernel_rfl) (Below.refl _ _) (fun hS => ?_)
  generalize W.drew=Vr1_ at *
  refine tk 0 (pA g 0) hS (hy:=yR) (h := ?_)
  (try simp only [pS])
  refine tk 1 (pA g 0) hS (hy:=yR) (h := ?_)
  (try simp only [pS])
  refine tk 2 (pA g 0) hS (hy:=yR) (h := ?_)
  (try simp only [pS])
  refine tk 3 (ratV xl zl) hS (hy:=(ldH hp 277 17 Tryz.underlying277 info8)) (h := ?_)
  (try simp only [pS])
  refine tk 5 (pA g 0) hS (hy:=yR) (h := ?_)
  (try simp only [pS])
  refine tk 6 (pA g 0) hS (hy:=yR) (h := ?_)
  (try simp only [pS])
  refine tk 7 (pA g 0) hS (hy:=yR) (h := ?_)
  (try simp only [pS])
  refine tk 8 (ratV xl zl) hS (hy:=(ldH hp 277 22 Tryz.underlying277 info8)) (h := ?_)
  (try simp only [pS])
  refine dag_root (fun G hG0 => ?_)
  have hG:=Hid.mk' hG0
  clear hG0
  obtain ⟨F,hF0⟩:∃ F:Value→Value→Value→Value→Act,∀ v4 v5 v19 v24,F v4 v5 v19 v24={ tmps:=#[pA g 0,.agg #[.int .u64 (lw u 0),.int .u64 (lw u 1),.int .u64 (lw u 2),.int .u64 (lw u 3)],undef,pA g3 0,v4,v5,undef,undef,undef,undef,undef,undef,undef,undef,undef,pA g 0,pA g 0,pA g 0,ratV xl zl,v19,pA g 0,pA g 0,pA g 0,ratV xl zl,v24,undef,undef,undef,undef,undef,undef,undef,undef,undef,undef,undef,undef,undef,undef,undef,undef,undef,undef,undef,undef,undef,undef,undef,undef,undef,undef,undef,undef,undef,undef,undef,undef,undef,undef,undef,undef,undef,undef,undef,undef,undef,undef,undef,undef,undef,undef,undef,undef,undef,undef,undef,undef,undef,undef,undef,undef,undef],defers:=[] }:=⟨_,fun _ _ _ _=>rfl⟩
  have hF:=Hid.mk' hF0
  clear hF0
  have str1_0:Hid (∀ (cur:World) (g10 g11:Nat),Below Vr1_.heap.size Vr1_ cur→RW cur g10 0 (c4 (a))→RW cur g11 0 (c4 (b))→Vr1_.heap.size≤g10→Vr1_.heap.size≤g11→g10≠g11→G 0 #[true,true,true,true,true,true,true,true,true,true,true,true,true,true] (F (pA g10 0) (pA g11 0) (numV a) (numV b)) cur):=Hid.mk' (by
   intro cur g10 g11 hS r10 r11 G10 G11 d10_11
   rw [hF.out,hG.out]
   refine wpAnyH_done (by kernel_rfl) ?_ _
   refine NoPanic.normal ?_
   go_wp2
   go_meet
   case rel=>exact ⟨g10,g11,rfl,rfl,below_next hdrew hS,Nat.le_trans hdrew.size G10,Nat.le_trans hdrew.size G11,r10,r11,by omega⟩)
  have str1_1:Hid (∀ (cur:World) (g10 g11:Nat),Below Vr1_.heap.size Vr1_ cur→RW cur g10 0 (c4 (a))→RW cur g11 0 (c4 (0))→Vr1_.heap.size≤g10→Vr1_.heap.size≤g11→g10≠g11→G 1 #[true,true,true,true,true,true,true,true,true,true,true,true,true,false] (F (pA g10 0) (pA g11 0) (numV a) (numV b)) cur):=Hid.mk' (by
   intro cur g10 g11 hS r10 r11 G10 G11 d10_11
   rw [hF.out,hG.out]
   refine wpAnyH_ready (rs:=[13]) (by kernel_rfl) (by simp) ?_
   refine arS qr1x13 5 24 (b) r11 hS G11 (fun w1 rr hS1 far=>dagW hG (str1_0.out w1 g10 g11 hS1 (far _ _ _ d10_11 r10) rr G10 G11 d10_11) (hF.out _ _ _ _)) ?_
   exact AllReadyH.nil)
  have str1_2:Hid (∀ (cur:World) (g10 g11:Nat),Below Vr1_.heap.size Vr1_ cur→RW cur g10 0 (c4 (0))→RW cur g11 0 (c4 (0))→Vr1_.heap.size≤g10→Vr1_.heap.size≤g11→g10≠g11→G 2 #[true,true,true,true,true,true,true,true,true,true,true,true,false,false] (F (pA g10 0) (pA g11 0) (numV a) (numV b)) cur):=Hid.mk' (by
   intro cur g10 g11 hS r10 r11 G10 G11 d10_11
   rw [hF.out,hG.out]
   clear str1_0
   refine wpAnyH_ready (rs:=[12]) (by kernel_rfl) (by simp) ?_
   refine arS qr1x12 4 19 (a) r10 hS G10 (fun w1 rr hS1 far=>dagW hG (str1_1.out w1 g10 g11 hS1 rr (far _ _ _ d10_11.symm r11) G10 G11 d10_11) (hF.out _ _ _ _)) ?_
   exact AllReadyH.nil)
  have str1_3:Hid (∀ (cur:World) (g10:Nat),Below Vr1_.heap.size Vr1_ cur→RW cur g10 0 (c4 (0))→Vr1_.heap.size≤g10→G 3 #[true,true,true,true,true,true,true,true,true,true,true,false,false,false] (F (pA g10 0) undef (numV a) (numV b)) cur):=Hid.mk' (by
   intro cur g10 hS r10 G10
   rw [hF.out,hG.out]
   clear str1_0 str1_1
   refine wpAnyH_ready (rs:=[11]) (by kernel_rfl) (by simp) ?_
   refine arN qr1x11 hS (fun w1 g11 G11 lg hb rr hS1=>dagW hG (str1_2.out w1 g10 g11 hS1 (r10.still hb) rr G10 G11 (ne_l r10 lg)) (hF.out _ _ _ _)) ?_
   exact AllReadyH.nil)
  have str1_4:Hid (∀ (cur:World) (g11:Nat),Below Vr1_.heap.size Vr1_ cur→RW cur g11 0 (c4 (0))→Vr1_.heap.size≤g11→G 3 #[true,true,true,true,true,true,true,true,true,true,false,true,false,false] (F undef (pA g11 0) (numV a) (numV b)) cur):=Hid.mk' (by
   intro cur g11 hS r11 G11
   rw [hF.out,hG.out]
   clear str1_0 str1_1 str1_3
   refine wpAnyH_ready (rs:=[10]) (by kernel_rfl) (by simp) ?_
   refine arN qr1x10 hS (fun w1 g10 G10 lg hb rr hS1=>dagW hG (str1_2.out w1 g10 g11 hS1 rr (r11.still hb) G10 G11 (ne_r r11 lg)) (hF.out _ _ _ _)) ?_
   exact AllReadyH.nil)
  have str1_5:Hid (∀ (cur:World),Below Vr1_.heap.size Vr1_ cur→G 4 #[true,true,true,true,true,true,true,true,true,true,false,false,false,false] (F undef undef (numV a) (numV b)) cur):=Hid.mk' (by
   intro cur  hS 
   rw [hF.out,hG.out]
   clear str1_0 str1_1 str1_2
   refine wpAnyH_ready (rs:=[10,11]) (by kernel_rfl) (by simp) ?_
   refine arN qr1x10 hS (fun w1 g10 G10 lg hb rr hS1=>dagW hG (str1_3.out w1 g10 hS1 rr G10) (hF.out _ _ _ _)) ?_
   refine arN qr1x11 hS (fun w1 g11 G11 lg hb rr hS1=>dagW hG (str1_4.out w1 g11 hS1 rr G11) (hF.out _ _ _ _)) ?_
   exact AllReadyH.nil)
  have str1_6:Hid (∀ (cur:World) (g10 g11:Nat),Below Vr1_.heap.size Vr1_ cur→RW cur g10 0 (c4 (0))→RW cur g11 0 (c4 (0))→Vr1_.heap.size≤g10→Vr1_.heap.size≤g11→g10≠g11→G 3 #[true,true,true,true,true,true,true,true,true,false,true,true,false,false] (F (pA g10 0) (pA g11 0) (numV a) undef) cur):=Hid.mk' (by
   intro cur g10 g11 hS r10 r11 G10 G11 d10_11
   rw [hF.out,hG.out]
   clear str1_0 str1_1 str1_3 str1_4 str1_5
   refine wpAnyH_ready (rs:=[9]) (by kernel_rfl) (by simp) ?_
   refine arC qr1x9 (c2 _) (fun e w1 ⟨he,hb⟩=>⟨_,he,below_next hS hb,dagW hG (str1_2.out w1 g10 g11 (below_next hS hb) (r10.still hb) (r11.still hb) G10 G11 d10_11) (hF.out _ _ _ _)⟩) ?_
   exact AllReadyH.nil)
  have str1_7:Hid (∀ (cur:World) (g10:Nat),Below Vr1_.heap.size Vr1_ cur→RW cur g10 0 (c4 (0))→Vr1_.heap.size≤g10→G 4 #[true,true,true,true,true,true,true,true,true,false,true,false,false,false] (F (pA g10 0) undef (numV a) undef) cur):=Hid.mk' (by
   intro cur g10 hS r10 G10
   rw [hF.out,hG.out]
   clear str1_0 str1_1 str1_2 str1_4 str1_5
   refine wpAnyH_ready (rs:=[9,11]) (by kernel_rfl) (by simp) ?_
   refine arC qr1x9 (c2 _) (fun e w1 ⟨he,hb⟩=>⟨_,he,below_next hS hb,dagW hG (str1_3.out w1 g10 (below_next hS hb) (r10.still hb) G10) (hF.out _ _ _ _)⟩) ?_
   refine arN qr1x11 hS (fun w1 g11 G11 lg hb rr hS1=>dagW hG (str1_6.out w1 g10 g11 hS1 (r10.still hb) rr G10 G11 (ne_l r10 lg)) (hF.out _ _ _ _)) ?_
   exact AllReadyH.nil)
  have str1_8:Hid (∀ (cur:World) (g11:Nat),Below Vr1_.heap.size Vr1_ cur→RW cur g11 0 (c4 (0))→Vr1_.heap.size≤g11→G 4 #[true,true,true,true,true,true,true,true,true,false,false,true,false,false] (F undef (pA g11 0) (numV a) undef) cur):=Hid.mk' (by
   intro cur g11 hS r11 G11
   rw [hF.out,hG.out]
   clear str1_0 str1_1 str1_2 str1_3 str1_5 str1_7
   refine wpAnyH_ready (rs:=[9,10]) (by kernel_rfl) (by simp) ?_
   refine arC qr1x9 (c2 _) (fun e w1 ⟨he,hb⟩=>⟨_,he,below_next hS hb,dagW hG (str1_4.out w1 g11 (below_next hS hb) (r11.still hb) G11) (hF.out _ _ _ _)⟩) ?_
   refine arN qr1x10 hS (fun w1 g10 G10 lg hb rr hS1=>dagW hG (str1_6.out w1 g10 g11 hS1 rr (r11.still hb) G10 G11 (ne_r r11 lg)) (hF.out _ _ _ _)) ?_
   exact AllReadyH.nil)
  have str1_9:Hid (∀ (cur:World),Below Vr1_.heap.size Vr1_ cur→G 5 #[true,true,true,true,true,true,true,true,true,false,false,false,false,false] (F undef undef (numV a) undef) cur):=Hid.mk' (by
   intro cur  hS 
   rw [hF.out,hG.out]
   clear str1_0 str1_1 str1_2 str1_3 str1_4 str1_6
   refine wpAnyH_ready (rs:=[9,10,11]) (by kernel_rfl) (by simp) ?_
   refine arC qr1x9 (c2 _) (fun e w1 ⟨he,hb⟩=>⟨_,he,below_next hS hb,dagW hG (str1_5.out w1  (below_next hS hb) ) (hF.out _ _ _ _)⟩) ?_
   refine arN qr1x10 hS (fun w1 g10 G10 lg hb rr hS1=>dagW hG (str1_7.out w1 g10 hS1 rr G10) (hF.out _ _ _ _)) ?_
   refine arN qr1x11 hS (fun w1 g11 G11 lg hb rr hS1=>dagW hG (str1_8.out w1 g11 hS1 rr G11) (hF.out _ _ _ _)) ?_
   exact AllReadyH.nil)
  have str1_10:Hid (∀ (cur:World) (g10 g11:Nat),Below Vr1_.heap.size Vr1_ cur→RW cur g10 0 (c4 (0))→RW cur g11 0 (c4 (0))→Vr1_.heap.size≤g10→Vr1_.heap.size≤g11→g10≠g11→G 4 #[true,true,true,true,false,true,true,true,true,false,true,true,false,false] (F (pA g10 0) (pA g11 0) undef undef) cur):=Hid.mk' (by
   intro cur g10 g11 hS r10 r11 G10 G11 d10_11
   rw [hF.out,hG.out]
   clear str1_0 str1_1 str1_2 str1_3 str1_4 str1_5 str1_7 str1_8 str1_9
   refine wpAnyH_ready (rs:=[4]) (by kernel_rfl) (by simp) ?_
   refine arC qr1x4 (c1 _) (fun e w1 ⟨he,hb⟩=>⟨_,he,below_next hS hb,dagW hG (str1_6.out w1 g10 g11 (below_next hS hb) (r10.still hb) (r11.still hb) G10 G11 d10_11) (hF.out _ _ _ _)⟩) ?_
   exact AllReadyH.nil)
  have str1_11:Hid (∀ (cur:World) (g10:Nat),Below Vr1_.heap.size Vr1_ cur→RW cur g10 0 (c4 (0))→Vr1_.heap.size≤g10→G 5 #[true,true,true,true,false,true,true,true,true,false,true,false,false,false] (F (pA g10 0) undef undef undef) cur):=Hid.mk' (by
   intro cur g10 hS r10 G10
   rw [hF.out,hG.out]
   clear str1_0 str1_1 str1_2 str1_3 str1_4 str1_5 str1_6 str1_8 str1_9
   refine wpAnyH_ready (rs:=[4,11]) (by kernel_rfl) (by simp) ?_
   refine arC qr1x4 (c1 _) (fun e w1 ⟨he,hb⟩=>⟨_,he,below_next hS hb,dagW hG (str1_7.out w1 g10 (below_next hS hb) (r10.still hb) G10) (hF.out _ _ _ _)⟩) ?_
   refine arN qr1x11 hS (fun w1 g11 G11 lg hb rr hS1=>dagW hG (str1_10.out w1 g10 g11 hS1 (r10.still hb) rr G10 G11 (ne_l r10 lg)) (hF.out _ _ _ _)) ?_
   exact AllReadyH.nil)
  have str1_12:Hid (∀ (cur:World) (g11:Nat),Below Vr1_.heap.size Vr1_ cur→RW cur g11 0 (c4 (0))→Vr1_.heap.size≤g11→G 5 #[true,true,true,true,false,true,true,true,true,false,false,true,false,false] (F undef (pA g11 0) undef undef) cur):=Hid.mk' (by
   intro cur g11 hS r11 G11
   rw [hF.out,hG.out]
   clear str1_0 str1_1 str1_2 str1_3 str1_4 str1_5 str1_6 str1_7 str1_9 str1_11
   refine wpAnyH_ready (rs:=[4,10]) (by kernel_rfl) (by simp) ?_
   refine arC qr1x4 (c1 _) (fun e w1 ⟨he,hb⟩=>⟨_,he,below_next hS hb,dagW hG (str1_8.out w1 g11 (below_next hS hb) (r11.still hb) G11) (hF.out _ _ _ _)⟩) ?_
   refine arN qr1x10 hS (fun w1 g10 G10 lg hb rr hS1=>dagW hG (str1_10.out w1 g10 g11 hS1 rr (r11.still hb) G10 G11 (ne_r r11 lg)) (hF.out _ _ _ _)) ?_
   exact AllReadyH.nil)
  have str1_13:Hid (∀ (cur:World),Below Vr1_.heap.size Vr1_ cur→G 6 #[true,true,true,true,false,true,true,true,true,false,false,false,false,false] (F undef undef undef undef) cur):=Hid.mk' (by
   intro cur  hS 
   rw [hF.out,hG.out]
   clear str1_0 str1_1 str1_2 str1_3 str1_4 str1_5 str1_6 str1_7 str1_8 str1_10
   refine wpAnyH_ready (rs:=[4,10,11]) (by kernel_rfl) (by simp) ?_
   refine arC qr1x4 (c1 _) (fun e w1 ⟨he,hb⟩=>⟨_,he,below_next hS hb,dagW hG (str1_9.out w1  (below_next hS hb) ) (hF.out _ _ _ _)⟩) ?_
   refine arN qr1x10 hS (fun w1 g10 G10 lg hb rr hS1=>dagW hG (str1_11.out w1 g10 hS1 rr G10) (hF.out _ _ _ _)) ?_
   refine arN qr1x11 hS (fun w1 g11 G11 lg hb rr hS1=>dagW hG (str1_12.out w1 g11 hS1 rr G11) (hF.out _ _ _ _)) ?_
   exact AllReadyH.nil)
  rw [hG.out]
  exact dagW hG (str1_13.out Vr1_ hS) (hF.out _ _ _ _)
 case rest =>
 obtain ⟨g4,g5,rfl,rfl,hb4,G4,G5,h4,h5,ne4⟩:=hcut
 replace hp:=hp.still hb4
 replace hq:=hq.still hb4
 replace hu:=hu.still hb4
 obtain ⟨W1,hW1⟩:∃ W,W=wc:=⟨_,rfl⟩
 rw [←hW1]
 rw [←hW1] at hp
 rw [←hW1] at hq
 rw [←hW1] at hu
 rw [←hW1] at h4
 rw [←hW1] at h5
 rw [←hW1] at hb4
 have lt1:W1.heap.size≤W1.heap.size:=Nat.le_refl _
 clear hW1
 go_wp2
 go_cut [6,7] from 15 (fun s6 s7 wc=>∃ g6 g7,s6 = .pointer (some ⟨g6,0,none⟩)∧s7 = .pointer (some ⟨g7,0,none⟩)∧Below W1.heap.size W1 wc∧W1.heap.size≤g6∧W1.heap.size≤g7∧RW wc g6 0 (c4 c)∧RW wc g7 0 (c4 d)∧g6≠g7)
 case first =>
  clear c1 c2 c5 c6 c7 c8h c9 c10 c11 c12 c13 c14 c15 c16 c17 c18 c19
  have hdrew:Below W1.heap.size W1 W1.drew:=(Below.refl _ _).drew
  replace hp:=hp.still hdrew
  replace hq:=hq.still hdrew
  replace hu:=hu.still hdrew
  replace h4:=h4.still hdrew
  replace h5:=h5.still hdrew
  refine wp_region_noPanic ?_
  refine wp_region_held_drew (S:=fun w'=>Below W1.drew.heap.size W1.drew w') (by kernel_rfl) (Below.refl _ _) (fun hS => ?_)
  generalize W1.drew=Vr2_ at *
  refine tk 0 (pA g 0) hS (hy:=yR) (h := ?_)
  (try simp only [pS])
  refine tk 1 (pA g 0) hS (hy:=yR) (h := ?_)
  (try simp only [pS])
  refine tk 2 (pA g 8) hS (hy:=yR) (h := ?_)
  (try simp only [pS])
  refine tk 3 (ratV xh zh) hS (hy:=(ldH hq 277 27 Tryz.underlying277 info8)) (h := ?_)
  (try simp only [pS])
  refine tk 5 (pA g 0) hS (hy:=yR) (h := ?_)
  (try simp only [pS])
  refine tk 6 (pA g 0) hS (hy:=yR) (h := ?_)
  (try simp only [pS])
  refine tk 7 (pA g 8) hS (hy:=yR) (h := ?_)
  (try simp only [pS])
  refine tk 8 (ratV xh zh) hS (hy:=(ldH hq 277 32 Tryz.underlying277 info8)) (h := ?_)
  (try simp only [pS])
  refine dag_root (fun G hG0 => ?_)
  have hG:=Hid.mk' hG0
  clear hG0
  obtain ⟨F,hF0⟩:∃ F:Value→Value→Value→Value→Act,∀ v6 v7 v29 v34,F v6 v7 v29 v34={ tmps:=#[pA g 0,.agg #[.int .u64 (lw u 0),.int .u64 (lw u 1),.int .u64 (lw u 2),.int .u64 (lw u 3)],undef,pA g3 0,pA g4 0,pA g5 0,v6,v7,undef,undef,undef,undef,undef,undef,undef,u15,u16,u17,u18,u19,u20,u21,u22,u23,u24,pA g 0,pA g 0,pA g 8,ratV xh zh,v29,pA g 0,pA g 0,pA g 8,ratV xh zh,v34,u35,u36,u37,u38,u39,u40,u41,u42,u43,u44,u45,u46,u47,u48,u49,u50,u51,u52,u53,u54,u55,u56,u57,u58,u59,u60,u61,u62,u63,u64,u65,u66,u67,u68,u69,u70,u71,u72,u73,u74,u75,u76,u77,u78,u79,u80,u81],defers:=[] }:=⟨_,fun _ _ _ _=>rfl⟩
  have hF:=Hid.mk' hF0
  clear hF0
  have str2_0:Hid (∀ (cur:World) (g10 g11:Nat),Below Vr2_.heap.size Vr2_ cur→RW cur g10 0 (c4 (c))→RW cur g11 0 (c4 (d))→Vr2_.heap.size≤g10→Vr2_.heap.size≤g11→g10≠g11→G 0 #[true,true,true,true,true,true,true,true,true,true,true,true,true,true] (F (pA g10 0) (pA g11 0) (numV c) (numV d)) cur):=Hid.mk' (by
   intro cur g10 g11 hS r10 r11 G10 G11 d10_11
   rw [hF.out,hG.out]
   refine wpAnyH_done (by kernel_rfl) ?_ _
   refine NoPanic.normal ?_
   go_wp2
   go_meet
   case rel=>exact ⟨g10,g11,rfl,rfl,below_next hdrew hS,Nat.le_trans hdrew.size G10,Nat.le_trans hdrew.size G11,r10,r11,by omega⟩)
  have str2_1:Hid (∀ (cur:World) (g10 g11:Nat),Below Vr2_.heap.size Vr2_ cur→RW cur g10 0 (c4 (c))→RW cur g11 0 (c4 (0))→Vr2_.heap.size≤g10→Vr2_.heap.size≤g11→g10≠g11→G 1 #[true,true,true,true,true,true,true,true,true,true,true,true,true,false] (F (pA g10 0) (pA g11 0) (numV c) (numV d)) cur):=Hid.mk' (by
   intro cur g10 g11 hS r10 r11 G10 G11 d10_11
   rw [hF.out,hG.out]
   refine wpAnyH_ready (rs:=[13]) (by kernel_rfl) (by simp) ?_
   refine arS qr2x13 7 34 (d) r11 hS G11 (fun w1 rr hS1 far=>dagW hG (str2_0.out w1 g10 g11 hS1 (far _ _ _ d10_11 r10) rr G10 G11 d10_11) (hF.out _ _ _ _)) ?_
   exact AllReadyH.nil)
  have str2_2:Hid (∀ (cur:World) (g10 g11:Nat),Below Vr2_.heap.size Vr2_ cur→RW cur g10 0 (c4 (0))→RW cur g11 0 (c4 (0))→Vr2_.heap.size≤g10→Vr2_.heap.size≤g11→g10≠g11→G 2 #[true,true,true,true,true,true,true,true,true,true,true,true,false,false] (F (pA g10 0) (pA g11 0) (numV c) (numV d)) cur):=Hid.mk' (by
   intro cur g10 g11 hS r10 r11 G10 G11 d10_11
   rw [hF.out,hG.out]
   clear str2_0
   refine wpAnyH_ready (rs:=[12]) (by kernel_rfl) (by simp) ?_
   refine arS qr2x12 6 29 (c) r10 hS G10 (fun w1 rr hS1 far=>dagW hG (str2_1.out w1 g10 g11 hS1 rr (far _ _ _ d10_11.symm r11) G10 G11 d10_11) (hF.out _ _ _ _)) ?_
   exact AllReadyH.nil)
  have str2_3:Hid (∀ (cur:World) (g10:Nat),Below Vr2_.heap.size Vr2_ cur→RW cur g10 0 (c4 (0))→Vr2_.heap.size≤g10→G 3 #[true,true,true,true,true,true,true,true,true,true,true,false,false,false] (F (pA g10 0) undef (numV c) (numV d)) cur):=Hid.mk' (by
   intro cur g10 hS r10 G10
   rw [hF.out,hG.out]
   clear str2_0 str2_1
   refine wpAnyH_ready (rs:=[11]) (by kernel_rfl) (by simp) ?_
   refine arN qr2x11 hS (fun w1 g11 G11 lg hb rr hS1=>dagW hG (str2_2.out w1 g10 g11 hS1 (r10.still hb) rr G10 G11 (ne_l r10 lg)) (hF.out _ _ _ _)) ?_
   exact AllReadyH.nil)
  have str2_4:Hid (∀ (cur:World) (g11:Nat),Below Vr2_.heap.size Vr2_ cur→RW cur g11 0 (c4 (0))→Vr2_.heap.size≤g11→G 3 #[true,true,true,true,true,true,true,true,true,true,false,true,false,false] (F undef (pA g11 0) (numV c) (numV d)) cur):=Hid.mk' (by
   intro cur g11 hS r11 G11
   rw [hF.out,hG.out]
   clear str2_0 str2_1 str2_3
   refine wpAnyH_ready (rs:=[10]) (by kernel_rfl) (by simp) ?_
   refine arN qr2x10 hS (fun w1 g10 G10 lg hb rr hS1=>dagW hG (str2_2.out w1 g10 g11 hS1 rr (r11.still hb) G10 G11 (ne_r r11 lg)) (hF.out _ _ _ _)) ?_
   exact AllReadyH.nil)
  have str2_5:Hid (∀ (cur:World),Below Vr2_.heap.size Vr2_ cur→G 4 #[true,true,true,true,true,true,true,true,true,true,false,false,false,false] (F undef undef (numV c) (numV d)) cur):=Hid.mk' (by
   intro cur  hS 
   rw [hF.out,hG.out]
   clear str2_0 str2_1 str2_2
   refine wpAnyH_ready (rs:=[10,11]) (by kernel_rfl) (by simp) ?_
   refine arN qr2x10 hS (fun w1 g10 G10 lg hb rr hS1=>dagW hG (str2_3.out w1 g10 hS1 rr G10) (hF.out _ _ _ _)) ?_
   refine arN qr2x11 hS (fun w1 g11 G11 lg hb rr hS1=>dagW hG (str2_4.out w1 g11 hS1 rr G11) (hF.out _ _ _ _)) ?_
   exact AllReadyH.nil)
  have str2_6:Hid (∀ (cur:World) (g10 g11:Nat),Below Vr2_.heap.size Vr2_ cur→RW cur g10 0 (c4 (0))→RW cur g11 0 (c4 (0))→Vr2_.heap.size≤g10→Vr2_.heap.size≤g11→g10≠g11→G 3 #[true,true,true,true,true,true,true,true,true,false,true,true,false,false] (F (pA g10 0) (pA g11 0) (numV c) u34) cur):=Hid.mk' (by
   intro cur g10 g11 hS r10 r11 G10 G11 d10_11
   rw [hF.out,hG.out]
   clear str2_0 str2_1 str2_3 str2_4 str2_5
   refine wpAnyH_ready (rs:=[9]) (by kernel_rfl) (by simp) ?_
   refine arC qr2x9 (c4h _) (fun e w1 ⟨he,hb⟩=>⟨_,he,below_next hS hb,dagW hG (str2_2.out w1 g10 g11 (below_next hS hb) (r10.still hb) (r11.still hb) G10 G11 d10_11) (hF.out _ _ _ _)⟩) ?_
   exact AllReadyH.nil)
  have str2_7:Hid (∀ (cur:World) (g10:Nat),Below Vr2_.heap.size Vr2_ cur→RW cur g10 0 (c4 (0))→Vr2_.heap.size≤g10→G 4 #[true,true,true,true,true,true,true,true,true,false,true,false,false,false] (F (pA g10 0) undef (numV c) u34) cur):=Hid.mk' (by
   intro cur g10 hS r10 G10
   rw [hF.out,hG.out]
   clear str2_0 str2_1 str2_2 str2_4 str2_5
   refine wpAnyH_ready (rs:=[9,11]) (by kernel_rfl) (by simp) ?_
   refine arC qr2x9 (c4h _) (fun e w1 ⟨he,hb⟩=>⟨_,he,below_next hS hb,dagW hG (str2_3.out w1 g10 (below_next hS hb) (r10.still hb) G10) (hF.out _ _ _ _)⟩) ?_
   refine arN qr2x11 hS (fun w1 g11 G11 lg hb rr hS1=>dagW hG (str2_6.out w1 g10 g11 hS1 (r10.still hb) rr G10 G11 (ne_l r10 lg)) (hF.out _ _ _ _)) ?_
   exact AllReadyH.nil)
  have str2_8:Hid (∀ (cur:World) (g11:Nat),Below Vr2_.heap.size Vr2_ cur→RW cur g11 0 (c4 (0))→Vr2_.heap.size≤g11→G 4 #[true,true,true,true,true,true,true,true,true,false,false,true,false,false] (F undef (pA g11 0) (numV c) u34) cur):=Hid.mk' (by
   intro cur g11 hS r11 G11
   rw [hF.out,hG.out]
   clear str2_0 str2_1 str2_2 str2_3 str2_5 str2_7
   refine wpAnyH_ready (rs:=[9,10]) (by kernel_rfl) (by simp) ?_
   refine arC qr2x9 (c4h _) (fun e w1 ⟨he,hb⟩=>⟨_,he,below_next hS hb,dagW hG (str2_4.out w1 g11 (below_next hS hb) (r11.still hb) G11) (hF.out _ _ _ _)⟩) ?_
   refine arN qr2x10 hS (fun w1 g10 G10 lg hb rr hS1=>dagW hG (str2_6.out w1 g10 g11 hS1 rr (r11.still hb) G10 G11 (ne_r r11 lg)) (hF.out _ _ _ _)) ?_
   exact AllReadyH.nil)
  have str2_9:Hid (∀ (cur:World),Below Vr2_.heap.size Vr2_ cur→G 5 #[true,true,true,true,true,true,true,true,true,false,false,false,false,false] (F undef undef (numV c) u34) cur):=Hid.mk' (by
   intro cur  hS 
   rw [hF.out,hG.out]
   clear str2_0 str2_1 str2_2 str2_3 str2_4 str2_6
   refine wpAnyH_ready (rs:=[9,10,11]) (by kernel_rfl) (by simp) ?_
   refine arC qr2x9 (c4h _) (fun e w1 ⟨he,hb⟩=>⟨_,he,below_next hS hb,dagW hG (str2_5.out w1  (below_next hS hb) ) (hF.out _ _ _ _)⟩) ?_
   refine arN qr2x10 hS (fun w1 g10 G10 lg hb rr hS1=>dagW hG (str2_7.out w1 g10 hS1 rr G10) (hF.out _ _ _ _)) ?_
   refine arN qr2x11 hS (fun w1 g11 G11 lg hb rr hS1=>dagW hG (str2_8.out w1 g11 hS1 rr G11) (hF.out _ _ _ _)) ?_
   exact AllReadyH.nil)
  have str2_10:Hid (∀ (cur:World) (g10 g11:Nat),Below Vr2_.heap.size Vr2_ cur→RW cur g10 0 (c4 (0))→RW cur g11 0 (c4 (0))→Vr2_.heap.size≤g10→Vr2_.heap.size≤g11→g10≠g11→G 4 #[true,true,true,true,false,true,true,true,true,false,true,true,false,false] (F (pA g10 0) (pA g11 0) u29 u34) cur):=Hid.mk' (by
   intro cur g10 g11 hS r10 r11 G10 G11 d10_11
   rw [hF.out,hG.out]
   clear str2_0 str2_1 str2_2 str2_3 str2_4 str2_5 str2_7 str2_8 str2_9
   refine wpAnyH_ready (rs:=[4]) (by kernel_rfl) (by simp) ?_
   refine arC qr2x4 (c3 _) (fun e w1 ⟨he,hb⟩=>⟨_,he,below_next hS hb,dagW hG (str2_6.out w1 g10 g11 (below_next hS hb) (r10.still hb) (r11.still hb) G10 G11 d10_11) (hF.out _ _ _ _)⟩) ?_
   exact AllReadyH.nil)
  have str2_11:Hid (∀ (cur:World) (g10:Nat),Below Vr2_.heap.size Vr2_ cur→RW cur g10 0 (c4 (0))→Vr2_.heap.size≤g10→G 5 #[true,true,true,true,false,true,true,true,true,false,true,false,false,false] (F (pA g10 0) undef u29 u34) cur):=Hid.mk' (by
   intro cur g10 hS r10 G10
   rw [hF.out,hG.out]
   clear str2_0 str2_1 str2_2 str2_3 str2_4 str2_5 str2_6 str2_8 str2_9
   refine wpAnyH_ready (rs:=[4,11]) (by kernel_rfl) (by simp) ?_
   refine arC qr2x4 (c3 _) (fun e w1 ⟨he,hb⟩=>⟨_,he,below_next hS hb,dagW hG (str2_7.out w1 g10 (below_next hS hb) (r10.still hb) G10) (hF.out _ _ _ _)⟩) ?_
   refine arN qr2x11 hS (fun w1 g11 G11 lg hb rr hS1=>dagW hG (str2_10.out w1 g10 g11 hS1 (r10.still hb) rr G10 G11 (ne_l r10 lg)) (hF.out _ _ _ _)) ?_
   exact AllReadyH.nil)
  have str2_12:Hid (∀ (cur:World) (g11:Nat),Below Vr2_.heap.size Vr2_ cur→RW cur g11 0 (c4 (0))→Vr2_.heap.size≤g11→G 5 #[true,true,true,true,false,true,true,true,true,false,false,true,false,false] (F undef (pA g11 0) u29 u34) cur):=Hid.mk' (by
   intro cur g11 hS r11 G11
   rw [hF.out,hG.out]
   clear str2_0 str2_1 str2_2 str2_3 str2_4 str2_5 str2_6 str2_7 str2_9 str2_11
   refine wpAnyH_ready (rs:=[4,10]) (by kernel_rfl) (by simp) ?_
   refine arC qr2x4 (c3 _) (fun e w1 ⟨he,hb⟩=>⟨_,he,below_next hS hb,dagW hG (str2_8.out w1 g11 (below_next hS hb) (r11.still hb) G11) (hF.out _ _ _ _)⟩) ?_
   refine arN qr2x10 hS (fun w1 g10 G10 lg hb rr hS1=>dagW hG (str2_10.out w1 g10 g11 hS1 rr (r11.still hb) G10 G11 (ne_r r11 lg)) (hF.out _ _ _ _)) ?_
   exact AllReadyH.nil)
  have str2_13:Hid (∀ (cur:World),Below Vr2_.heap.size Vr2_ cur→G 6 #[true,true,true,true,false,true,true,true,true,false,false,false,false,false] (F undef undef u29 u34) cur):=Hid.mk' (by
   intro cur  hS 
   rw [hF.out,hG.out]
   clear str2_0 str2_1 str2_2 str2_3 str2_4 str2_5 str2_6 str2_7 str2_8 str2_10
   refine wpAnyH_ready (rs:=[4,10,11]) (by kernel_rfl) (by simp) ?_
   refine arC qr2x4 (c3 _) (fun e w1 ⟨he,hb⟩=>⟨_,he,below_next hS hb,dagW hG (str2_9.out w1  (below_next hS hb) ) (hF.out _ _ _ _)⟩) ?_
   refine arN qr2x10 hS (fun w1 g10 G10 lg hb rr hS1=>dagW hG (str2_11.out w1 g10 hS1 rr G10) (hF.out _ _ _ _)) ?_
   refine arN qr2x11 hS (fun w1 g11 G11 lg hb rr hS1=>dagW hG (str2_12.out w1 g11 hS1 rr G11) (hF.out _ _ _ _)) ?_
   exact AllReadyH.nil)
  rw [hG.out]
  exact dagW hG (str2_13.out Vr2_ hS) (hF.out _ _ _ _)
 case rest =>
 obtain ⟨g6,g7,rfl,rfl,hb6,G6,G7,h6,h7,ne6⟩:=hcut
 replace hp:=hp.still hb6
 replace hq:=hq.still hb6
 replace hu:=hu.still hb6
 replace h4:=h4.still hb6
 replace h5:=h5.still hb6
 obtain ⟨W2,hW2⟩:∃ W,W=wc:=⟨_,rfl⟩
 rw [←hW2]
 rw [←hW2] at hp
 rw [←hW2] at hq
 rw [←hW2] at hu
 rw [←hW2] at h4
 rw [←hW2] at h5
 rw [←hW2] at h6
 rw [←hW2] at h7
 rw [←hW2] at hb6
 have lt2:W2.heap.size≤W2.heap.size:=Nat.le_refl _
 clear hW2
 go_wp2
 go_cut [8,9] from 15 (fun s8 s9 wc=>∃ g8 g9,s8 = .pointer (some ⟨g8,0,none⟩)∧s9 = .pointer (some ⟨g9,0,none⟩)∧Below W2.heap.size W2 wc∧W2.heap.size≤g8∧W2.heap.size≤g9∧RW wc g8 0 (c4 da)∧RW wc g9 0 (c4 cb)∧g8≠g9)
 case first =>
  clear c1 c2 c3 c4h c7 c8h c9 c10 c11 c12 c13 c14 c15 c16 c17 c18 c19
  have hdrew:Below W2.heap.size W2 W2.drew:=(Below.refl _ _).drew
  replace hp:=hp.still hdrew
  replace hq:=hq.still hdrew
  replace hu:=hu.still hdrew
  replace h4:=h4.still hdrew
  replace h5:=h5.still hdrew
  replace h6:=h6.still hdrew
  replace h7:=h7.still hdrew
  refine wp_region_noPanic ?_
  refine wp_region_held_drew (S:=fun w'=>Below W2.drew.heap.size W2.drew w') (by kernel_rfl) (Below.refl _ _) (fun hS => ?_)
  generalize W2.drew=Vr3_ at *
  refine tk 0 (numV d) hS (hy:=(ldN h7 7)) (h := ?_)
  (try simp only [pS])
  refine tk 1 (numV a) hS (hy:=(ldN h4 4)) (h := ?_)
  (try simp only [pS])
  refine tk 3 (numV c) hS (hy:=(ldN h6 6)) (h := ?_)
  (try simp only [pS])
  refine tk 4 (numV b) hS (hy:=(ldN h5 5)) (h := ?_)
  (try simp only [pS])
  refine dag_root (fun G hG0 => ?_)
  have hG:=Hid.mk' hG0
  clear hG0
  obtain ⟨F,hF0⟩:∃ F:Value→Value→Value→Value→Act,∀ v8 v9 v37 v40,F v8 v9 v37 v40={ tmps:=#[pA g 0,.agg #[.int .u64 (lw u 0),.int .u64 (lw u 1),.int .u64 (lw u 2),.int .u64 (lw u 3)],undef,pA g3 0,pA g4 0,pA g5 0,pA g6 0,pA g7 0,v8,v9,undef,undef,undef,undef,undef,u15,u16,u17,u18,u19,u20,u21,u22,u23,u24,u25,u26,u27,u28,u29,u30,u31,u32,u33,u34,numV d,numV a,v37,numV c,numV b,v40,u41,u42,u43,u44,u45,u46,u47,u48,u49,u50,u51,u52,u53,u54,u55,u56,u57,u58,u59,u60,u61,u62,u63,u64,u65,u66,u67,u68,u69,u70,u71,u72,u73,u74,u75,u76,u77,u78,u79,u80,u81],defers:=[] }:=⟨_,fun _ _ _ _=>rfl⟩
  have hF:=Hid.mk' hF0
  clear hF0
  have str3_0:Hid (∀ (cur:World) (g6 g7:Nat),Below Vr3_.heap.size Vr3_ cur→RW cur g6 0 (c4 (da))→RW cur g7 0 (c4 (cb))→Vr3_.heap.size≤g6→Vr3_.heap.size≤g7→g6≠g7→G 0 #[true,true,true,true,true,true,true,true,true,true] (F (pA g6 0) (pA g7 0) (numV da) (numV cb)) cur):=Hid.mk' (by
   intro cur g6 g7 hS r6 r7 G6 G7 d6_7
   rw [hF.out,hG.out]
   refine wpAnyH_done (by kernel_rfl) ?_ _
   refine NoPanic.normal ?_
   go_wp2
   go_meet
   case rel=>exact ⟨g6,g7,rfl,rfl,below_next hdrew hS,Nat.le_trans hdrew.size G6,Nat.le_trans hdrew.size G7,r6,r7,by omega⟩)
  have str3_1:Hid (∀ (cur:World) (g6 g7:Nat),Below Vr3_.heap.size Vr3_ cur→RW cur g6 0 (c4 (da))→RW cur g7 0 (c4 (0))→Vr3_.heap.size≤g6→Vr3_.heap.size≤g7→g6≠g7→G 1 #[true,true,true,true,true,true,true,true,true,false] (F (pA g6 0) (pA g7 0) (numV da) (numV cb)) cur):=Hid.mk' (by
   intro cur g6 g7 hS r6 r7 G6 G7 d6_7
   rw [hF.out,hG.out]
   refine wpAnyH_ready (rs:=[9]) (by kernel_rfl) (by simp) ?_
   refine arS qr3x9 9 40 (cb) r7 hS G7 (fun w1 rr hS1 far=>dagW hG (str3_0.out w1 g6 g7 hS1 (far _ _ _ d6_7 r6) rr G6 G7 d6_7) (hF.out _ _ _ _)) ?_
   exact AllReadyH.nil)
  have str3_2:Hid (∀ (cur:World) (g6 g7:Nat),Below Vr3_.heap.size Vr3_ cur→RW cur g6 0 (c4 (0))→RW cur g7 0 (c4 (0))→Vr3_.heap.size≤g6→Vr3_.heap.size≤g7→g6≠g7→G 2 #[true,true,true,true,true,true,true,true,false,false] (F (pA g6 0) (pA g7 0) (numV da) (numV cb)) cur):=Hid.mk' (by
   intro cur g6 g7 hS r6 r7 G6 G7 d6_7
   rw [hF.out,hG.out]
   clear str3_0
   refine wpAnyH_ready (rs:=[8]) (by kernel_rfl) (by simp) ?_
   refine arS qr3x8 8 37 (da) r6 hS G6 (fun w1 rr hS1 far=>dagW hG (str3_1.out w1 g6 g7 hS1 rr (far _ _ _ d6_7.symm r7) G6 G7 d6_7) (hF.out _ _ _ _)) ?_
   exact AllReadyH.nil)
  have str3_3:Hid (∀ (cur:World) (g6:Nat),Below Vr3_.heap.size Vr3_ cur→RW cur g6 0 (c4 (0))→Vr3_.heap.size≤g6→G 3 #[true,true,true,true,true,true,true,false,false,false] (F (pA g6 0) undef (numV da) (numV cb)) cur):=Hid.mk' (by
   intro cur g6 hS r6 G6
   rw [hF.out,hG.out]
   clear str3_0 str3_1
   refine wpAnyH_ready (rs:=[7]) (by kernel_rfl) (by simp) ?_
   refine arN qr3x7 hS (fun w1 g7 G7 lg hb rr hS1=>dagW hG (str3_2.out w1 g6 g7 hS1 (r6.still hb) rr G6 G7 (ne_l r6 lg)) (hF.out _ _ _ _)) ?_
   exact AllReadyH.nil)
  have str3_4:Hid (∀ (cur:World) (g7:Nat),Below Vr3_.heap.size Vr3_ cur→RW cur g7 0 (c4 (0))→Vr3_.heap.size≤g7→G 3 #[true,true,true,true,true,true,false,true,false,false] (F undef (pA g7 0) (numV da) (numV cb)) cur):=Hid.mk' (by
   intro cur g7 hS r7 G7
   rw [hF.out,hG.out]
   clear str3_0 str3_1 str3_3
   refine wpAnyH_ready (rs:=[6]) (by kernel_rfl) (by simp) ?_
   refine arN qr3x6 hS (fun w1 g6 G6 lg hb rr hS1=>dagW hG (str3_2.out w1 g6 g7 hS1 rr (r7.still hb) G6 G7 (ne_r r7 lg)) (hF.out _ _ _ _)) ?_
   exact AllReadyH.nil)
  have str3_5:Hid (∀ (cur:World),Below Vr3_.heap.size Vr3_ cur→G 4 #[true,true,true,true,true,true,false,false,false,false] (F undef undef (numV da) (numV cb)) cur):=Hid.mk' (by
   intro cur  hS 
   rw [hF.out,hG.out]
   clear str3_0 str3_1 str3_2
   refine wpAnyH_ready (rs:=[6,7]) (by kernel_rfl) (by simp) ?_
   refine arN qr3x6 hS (fun w1 g6 G6 lg hb rr hS1=>dagW hG (str3_3.out w1 g6 hS1 rr G6) (hF.out _ _ _ _)) ?_
   refine arN qr3x7 hS (fun w1 g7 G7 lg hb rr hS1=>dagW hG (str3_4.out w1 g7 hS1 rr G7) (hF.out _ _ _ _)) ?_
   exact AllReadyH.nil)
  have str3_6:Hid (∀ (cur:World) (g6 g7:Nat),Below Vr3_.heap.size Vr3_ cur→RW cur g6 0 (c4 (0))→RW cur g7 0 (c4 (0))→Vr3_.heap.size≤g6→Vr3_.heap.size≤g7→g6≠g7→G 3 #[true,true,true,true,true,false,true,true,false,false] (F (pA g6 0) (pA g7 0) (numV da) u40) cur):=Hid.mk' (by
   intro cur g6 g7 hS r6 r7 G6 G7 d6_7
   rw [hF.out,hG.out]
   clear str3_0 str3_1 str3_3 str3_4 str3_5
   refine wpAnyH_ready (rs:=[5]) (by kernel_rfl) (by simp) ?_
   refine arC qr3x5 (c6 _) (fun e w1 ⟨he,hb⟩=>⟨_,he,below_next hS hb,dagW hG (str3_2.out w1 g6 g7 (below_next hS hb) (r6.still hb) (r7.still hb) G6 G7 d6_7) (hF.out _ _ _ _)⟩) ?_
   exact AllReadyH.nil)
  have str3_7:Hid (∀ (cur:World) (g6:Nat),Below Vr3_.heap.size Vr3_ cur→RW cur g6 0 (c4 (0))→Vr3_.heap.size≤g6→G 4 #[true,true,true,true,true,false,true,false,false,false] (F (pA g6 0) undef (numV da) u40) cur):=Hid.mk' (by
   intro cur g6 hS r6 G6
   rw [hF.out,hG.out]
   clear str3_0 str3_1 str3_2 str3_4 str3_5
   refine wpAnyH_ready (rs:=[5,7]) (by kernel_rfl) (by simp) ?_
   refine arC qr3x5 (c6 _) (fun e w1 ⟨he,hb⟩=>⟨_,he,below_next hS hb,dagW hG (str3_3.out w1 g6 (below_next hS hb) (r6.still hb) G6) (hF.out _ _ _ _)⟩) ?_
   refine arN qr3x7 hS (fun w1 g7 G7 lg hb rr hS1=>dagW hG (str3_6.out w1 g6 g7 hS1 (r6.still hb) rr G6 G7 (ne_l r6 lg)) (hF.out _ _ _ _)) ?_
   exact AllReadyH.nil)
  have str3_8:Hid (∀ (cur:World) (g7:Nat),Below Vr3_.heap.size Vr3_ cur→RW cur g7 0 (c4 (0))→Vr3_.heap.size≤g7→G 4 #[true,true,true,true,true,false,false,true,false,false] (F undef (pA g7 0) (numV da) u40) cur):=Hid.mk' (by
   intro cur g7 hS r7 G7
   rw [hF.out,hG.out]
   clear str3_0 str3_1 str3_2 str3_3 str3_5 str3_7
   refine wpAnyH_ready (rs:=[5,6]) (by kernel_rfl) (by simp) ?_
   refine arC qr3x5 (c6 _) (fun e w1 ⟨he,hb⟩=>⟨_,he,below_next hS hb,dagW hG (str3_4.out w1 g7 (below_next hS hb) (r7.still hb) G7) (hF.out _ _ _ _)⟩) ?_
   refine arN qr3x6 hS (fun w1 g6 G6 lg hb rr hS1=>dagW hG (str3_6.out w1 g6 g7 hS1 rr (r7.still hb) G6 G7 (ne_r r7 lg)) (hF.out _ _ _ _)) ?_
   exact AllReadyH.nil)
  have str3_9:Hid (∀ (cur:World),Below Vr3_.heap.size Vr3_ cur→G 5 #[true,true,true,true,true,false,false,false,false,false] (F undef undef (numV da) u40) cur):=Hid.mk' (by
   intro cur  hS 
   rw [hF.out,hG.out]
   clear str3_0 str3_1 str3_2 str3_3 str3_4 str3_6
   refine wpAnyH_ready (rs:=[5,6,7]) (by kernel_rfl) (by simp) ?_
   refine arC qr3x5 (c6 _) (fun e w1 ⟨he,hb⟩=>⟨_,he,below_next hS hb,dagW hG (str3_5.out w1  (below_next hS hb) ) (hF.out _ _ _ _)⟩) ?_
   refine arN qr3x6 hS (fun w1 g6 G6 lg hb rr hS1=>dagW hG (str3_7.out w1 g6 hS1 rr G6) (hF.out _ _ _ _)) ?_
   refine arN qr3x7 hS (fun w1 g7 G7 lg hb rr hS1=>dagW hG (str3_8.out w1 g7 hS1 rr G7) (hF.out _ _ _ _)) ?_
   exact AllReadyH.nil)
  have str3_10:Hid (∀ (cur:World) (g6 g7:Nat),Below Vr3_.heap.size Vr3_ cur→RW cur g6 0 (c4 (0))→RW cur g7 0 (c4 (0))→Vr3_.heap.size≤g6→Vr3_.heap.size≤g7→g6≠g7→G 4 #[true,true,false,true,true,false,true,true,false,false] (F (pA g6 0) (pA g7 0) u37 u40) cur):=Hid.mk' (by
   intro cur g6 g7 hS r6 r7 G6 G7 d6_7
   rw [hF.out,hG.out]
   clear str3_0 str3_1 str3_2 str3_3 str3_4 str3_5 str3_7 str3_8 str3_9
   refine wpAnyH_ready (rs:=[2]) (by kernel_rfl) (by simp) ?_
   refine arC qr3x2 (c5 _) (fun e w1 ⟨he,hb⟩=>⟨_,he,below_next hS hb,dagW hG (str3_6.out w1 g6 g7 (below_next hS hb) (r6.still hb) (r7.still hb) G6 G7 d6_7) (hF.out _ _ _ _)⟩) ?_
   exact AllReadyH.nil)
  have str3_11:Hid (∀ (cur:World) (g6:Nat),Below Vr3_.heap.size Vr3_ cur→RW cur g6 0 (c4 (0))→Vr3_.heap.size≤g6→G 5 #[true,true,false,true,true,false,true,false,false,false] (F (pA g6 0) undef u37 u40) cur):=Hid.mk' (by
   intro cur g6 hS r6 G6
   rw [hF.out,hG.out]
   clear str3_0 str3_1 str3_2 str3_3 str3_4 str3_5 str3_6 str3_8 str3_9
   refine wpAnyH_ready (rs:=[2,7]) (by kernel_rfl) (by simp) ?_
   refine arC qr3x2 (c5 _) (fun e w1 ⟨he,hb⟩=>⟨_,he,below_next hS hb,dagW hG (str3_7.out w1 g6 (below_next hS hb) (r6.still hb) G6) (hF.out _ _ _ _)⟩) ?_
   refine arN qr3x7 hS (fun w1 g7 G7 lg hb rr hS1=>dagW hG (str3_10.out w1 g6 g7 hS1 (r6.still hb) rr G6 G7 (ne_l r6 lg)) (hF.out _ _ _ _)) ?_
   exact AllReadyH.nil)
  have str3_12:Hid (∀ (cur:World) (g7:Nat),Below Vr3_.heap.size Vr3_ cur→RW cur g7 0 (c4 (0))→Vr3_.heap.size≤g7→G 5 #[true,true,false,true,true,false,false,true,false,false] (F undef (pA g7 0) u37 u40) cur):=Hid.mk' (by
   intro cur g7 hS r7 G7
   rw [hF.out,hG.out]
   clear str3_0 str3_1 str3_2 str3_3 str3_4 str3_5 str3_6 str3_7 str3_9 str3_11
   refine wpAnyH_ready (rs:=[2,6]) (by kernel_rfl) (by simp) ?_
   refine arC qr3x2 (c5 _) (fun e w1 ⟨he,hb⟩=>⟨_,he,below_next hS hb,dagW hG (str3_8.out w1 g7 (below_next hS hb) (r7.still hb) G7) (hF.out _ _ _ _)⟩) ?_
   refine arN qr3x6 hS (fun w1 g6 G6 lg hb rr hS1=>dagW hG (str3_10.out w1 g6 g7 hS1 rr (r7.still hb) G6 G7 (ne_r r7 lg)) (hF.out _ _ _ _)) ?_
   exact AllReadyH.nil)
  have str3_13:Hid (∀ (cur:World),Below Vr3_.heap.size Vr3_ cur→G 6 #[true,true,false,true,true,false,false,false,false,false] (F undef undef u37 u40) cur):=Hid.mk' (by
   intro cur  hS 
   rw [hF.out,hG.out]
   clear str3_0 str3_1 str3_2 str3_3 str3_4 str3_5 str3_6 str3_7 str3_8 str3_10
   refine wpAnyH_ready (rs:=[2,6,7]) (by kernel_rfl) (by simp) ?_
   refine arC qr3x2 (c5 _) (fun e w1 ⟨he,hb⟩=>⟨_,he,below_next hS hb,dagW hG (str3_9.out w1  (below_next hS hb) ) (hF.out _ _ _ _)⟩) ?_
   refine arN qr3x6 hS (fun w1 g6 G6 lg hb rr hS1=>dagW hG (str3_11.out w1 g6 hS1 rr G6) (hF.out _ _ _ _)) ?_
   refine arN qr3x7 hS (fun w1 g7 G7 lg hb rr hS1=>dagW hG (str3_12.out w1 g7 hS1 rr G7) (hF.out _ _ _ _)) ?_
   exact AllReadyH.nil)
  rw [hG.out]
  exact dagW hG (str3_13.out Vr3_ hS) (hF.out _ _ _ _)
 case rest =>
 obtain ⟨g8,g9,rfl,rfl,hb8,G8,G9,h8,h9,ne8⟩:=hcut
 replace hp:=hp.still hb8
 replace hq:=hq.still hb8
 replace hu:=hu.still hb8
 replace h4:=h4.still hb8
 replace h5:=h5.still hb8
 replace h6:=h6.still hb8
 replace h7:=h7.still hb8
 obtain ⟨W3,hW3⟩:∃ W,W=wc:=⟨_,rfl⟩
 rw [←hW3]
 rw [←hW3] at hp
 rw [←hW3] at hq
 rw [←hW3] at hu
 rw [←hW3] at h4
 rw [←hW3] at h5
 rw [←hW3] at h6
 rw [←hW3] at h7
 rw [←hW3] at h8
 rw [←hW3] at h9
 rw [←hW3] at hb8
 have lt3:W3.heap.size≤W3.heap.size:=Nat.le_refl _
 clear hW3
 go_wp2
 go_cut [10,11] from 15 (fun s10 s11 wc=>∃ g10 g11,s10 = .pointer (some ⟨g10,0,none⟩)∧s11 = .pointer (some ⟨g11,0,none⟩)∧Below W3.heap.size W3 wc∧W3.heap.size≤g10∧W3.heap.size≤g11∧RW wc g10 0 (c4 pl)∧RW wc g11 0 (c4 mi)∧g10≠g11)
 case first =>
  clear c1 c2 c3 c4h c5 c6 c9 c10 c11 c12 c13 c14 c15 c16 c17 c18 c19
  have hdrew:Below W3.heap.size W3 W3.drew:=(Below.refl _ _).drew
  replace hp:=hp.still hdrew
  replace hq:=hq.still hdrew
  replace hu:=hu.still hdrew
  replace h4:=h4.still hdrew
  replace h5:=h5.still hdrew
  replace h6:=h6.still hdrew
  replace h7:=h7.still hdrew
  replace h8:=h8.still hdrew
  replace h9:=h9.still hdrew
  refine wp_region_noPanic ?_
  refine wp_region_held_drew (S:=fun w'=>Below W3.drew.heap.size W3.drew w') (by kernel_rfl) (Below.refl _ _) (fun hS => ?_)
  generalize W3.drew=Vr4_ at *
  refine tk 0 (numV da) hS (hy:=(ldN h8 8)) (h := ?_)
  (try simp only [pS])
  refine tk 1 (numV cb) hS (hy:=(ldN h9 9)) (h := ?_)
  (try simp only [pS])
  refine tk 3 (numV da) hS (hy:=(ldN h8 8)) (h := ?_)
  (try simp only [pS])
  refine tk 4 (numV cb) hS (hy:=(ldN h9 9)) (h := ?_)
  (try simp only [pS])
  refine dag_root (fun G hG0 => ?_)
  have hG:=Hid.mk' hG0
  clear hG0
  obtain ⟨F,hF0⟩:∃ F:Value→Value→Value→Value→Act,∀ v10 v11 v43 v46,F v10 v11 v43 v46={ tmps:=#[pA g 0,.agg #[.int .u64 (lw u 0),.int .u64 (lw u 1),.int .u64 (lw u 2),.int .u64 (lw u 3)],undef,pA g3 0,pA g4 0,pA g5 0,pA g6 0,pA g7 0,pA g8 0,pA g9 0,v10,v11,undef,undef,undef,u15,u16,u17,u18,u19,u20,u21,u22,u23,u24,u25,u26,u27,u28,u29,u30,u31,u32,u33,u34,u35,u36,u37,u38,u39,u40,numV da,numV cb,v43,numV da,numV cb,v46,u47,u48,u49,u50,u51,u52,u53,u54,u55,u56,u57,u58,u59,u60,u61,u62,u63,u64,u65,u66,u67,u68,u69,u70,u71,u72,u73,u74,u75,u76,u77,u78,u79,u80,u81],defers:=[] }:=⟨_,fun _ _ _ _=>rfl⟩
  have hF:=Hid.mk' hF0
  clear hF0
  have str4_0:Hid (∀ (cur:World) (g6 g7:Nat),Below Vr4_.heap.size Vr4_ cur→RW cur g6 0 (c4 (pl))→RW cur g7 0 (c4 (mi))→Vr4_.heap.size≤g6→Vr4_.heap.size≤g7→g6≠g7→G 0 #[true,true,true,true,true,true,true,true,true,true] (F (pA g6 0) (pA g7 0) (numV pl) (numV mi)) cur):=Hid.mk' (by
   intro cur g6 g7 hS r6 r7 G6 G7 d6_7
   rw [hF.out,hG.out]
   refine wpAnyH_done (by kernel_rfl) ?_ _
   refine NoPanic.normal ?_
   go_wp2
   go_meet
   case rel=>exact ⟨g6,g7,rfl,rfl,below_next hdrew hS,Nat.le_trans hdrew.size G6,Nat.le_trans hdrew.size G7,r6,r7,by omega⟩)
  have str4_1:Hid (∀ (cur:World) (g6 g7:Nat),Below Vr4_.heap.size Vr4_ cur→RW cur g6 0 (c4 (pl))→RW cur g7 0 (c4 (0))→Vr4_.heap.size≤g6→Vr4_.heap.size≤g7→g6≠g7→G 1 #[true,true,true,true,true,true,true,true,true,false] (F (pA g6 0) (pA g7 0) (numV pl) (numV mi)) cur):=Hid.mk' (by
   intro cur g6 g7 hS r6 r7 G6 G7 d6_7
   rw [hF.out,hG.out]
   refine wpAnyH_ready (rs:=[9]) (by kernel_rfl) (by simp) ?_
   refine arS qr4x9 11 46 (mi) r7 hS G7 (fun w1 rr hS1 far=>dagW hG (str4_0.out w1 g6 g7 hS1 (far _ _ _ d6_7 r6) rr G6 G7 d6_7) (hF.out _ _ _ _)) ?_
   exact AllReadyH.nil)
  have str4_2:Hid (∀ (cur:World) (g6 g7:Nat),Below Vr4_.heap.size Vr4_ cur→RW cur g6 0 (c4 (0))→RW cur g7 0 (c4 (0))→Vr4_.heap.size≤g6→Vr4_.heap.size≤g7→g6≠g7→G 2 #[true,true,true,true,true,true,true,true,false,false] (F (pA g6 0) (pA g7 0) (numV pl) (numV mi)) cur):=Hid.mk' (by
   intro cur g6 g7 hS r6 r7 G6 G7 d6_7
   rw [hF.out,hG.out]
   clear str4_0
   refine wpAnyH_ready (rs:=[8]) (by kernel_rfl) (by simp) ?_
   refine arS qr4x8 10 43 (pl) r6 hS G6 (fun w1 rr hS1 far=>dagW hG (str4_1.out w1 g6 g7 hS1 rr (far _ _ _ d6_7.symm r7) G6 G7 d6_7) (hF.out _ _ _ _)) ?_
   exact AllReadyH.nil)
  have str4_3:Hid (∀ (cur:World) (g6:Nat),Below Vr4_.heap.size Vr4_ cur→RW cur g6 0 (c4 (0))→Vr4_.heap.size≤g6→G 3 #[true,true,true,true,true,true,true,false,false,false] (F (pA g6 0) undef (numV pl) (numV mi)) cur):=Hid.mk' (by
   intro cur g6 hS r6 G6
   rw [hF.out,hG.out]
   clear str4_0 str4_1
   refine wpAnyH_ready (rs:=[7]) (by kernel_rfl) (by simp) ?_
   refine arN qr4x7 hS (fun w1 g7 G7 lg hb rr hS1=>dagW hG (str4_2.out w1 g6 g7 hS1 (r6.still hb) rr G6 G7 (ne_l r6 lg)) (hF.out _ _ _ _)) ?_
   exact AllReadyH.nil)
  have str4_4:Hid (∀ (cur:World) (g7:Nat),Below Vr4_.heap.size Vr4_ cur→RW cur g7 0 (c4 (0))→Vr4_.heap.size≤g7→G 3 #[true,true,true,true,true,true,false,true,false,false] (F undef (pA g7 0) (numV pl) (numV mi)) cur):=Hid.mk' (by
   intro cur g7 hS r7 G7
   rw [hF.out,hG.out]
   clear str4_0 str4_1 str4_3
   refine wpAnyH_ready (rs:=[6]) (by kernel_rfl) (by simp) ?_
   refine arN qr4x6 hS (fun w1 g6 G6 lg hb rr hS1=>dagW hG (str4_2.out w1 g6 g7 hS1 rr (r7.still hb) G6 G7 (ne_r r7 lg)) (hF.out _ _ _ _)) ?_
   exact AllReadyH.nil)
  have str4_5:Hid (∀ (cur:World),Below Vr4_.heap.size Vr4_ cur→G 4 #[true,true,true,true,true,true,false,false,false,false] (F undef undef (numV pl) (numV mi)) cur):=Hid.mk' (by
   intro cur  hS 
   rw [hF.out,hG.out]
   clear str4_0 str4_1 str4_2
   refine wpAnyH_ready (rs:=[6,7]) (by kernel_rfl) (by simp) ?_
   refine arN qr4x6 hS (fun w1 g6 G6 lg hb rr hS1=>dagW hG (str4_3.out w1 g6 hS1 rr G6) (hF.out _ _ _ _)) ?_
   refine arN qr4x7 hS (fun w1 g7 G7 lg hb rr hS1=>dagW hG (str4_4.out w1 g7 hS1 rr G7) (hF.out _ _ _ _)) ?_
   exact AllReadyH.nil)
  have str4_6:Hid (∀ (cur:World) (g6 g7:Nat),Below Vr4_.heap.size Vr4_ cur→RW cur g6 0 (c4 (0))→RW cur g7 0 (c4 (0))→Vr4_.heap.size≤g6→Vr4_.heap.size≤g7→g6≠g7→G 3 #[true,true,true,true,true,false,true,true,false,false] (F (pA g6 0) (pA g7 0) (numV pl) u46) cur):=Hid.mk' (by
   intro cur g6 g7 hS r6 r7 G6 G7 d6_7
   rw [hF.out,hG.out]
   clear str4_0 str4_1 str4_3 str4_4 str4_5
   refine wpAnyH_ready (rs:=[5]) (by kernel_rfl) (by simp) ?_
   refine arC qr4x5 (c8h _) (fun e w1 ⟨he,hb⟩=>⟨_,he,below_next hS hb,dagW hG (str4_2.out w1 g6 g7 (below_next hS hb) (r6.still hb) (r7.still hb) G6 G7 d6_7) (hF.out _ _ _ _)⟩) ?_
   exact AllReadyH.nil)
  have str4_7:Hid (∀ (cur:World) (g6:Nat),Below Vr4_.heap.size Vr4_ cur→RW cur g6 0 (c4 (0))→Vr4_.heap.size≤g6→G 4 #[true,true,true,true,true,false,true,false,false,false] (F (pA g6 0) undef (numV pl) u46) cur):=Hid.mk' (by
   intro cur g6 hS r6 G6
   rw [hF.out,hG.out]
   clear str4_0 str4_1 str4_2 str4_4 str4_5
   refine wpAnyH_ready (rs:=[5,7]) (by kernel_rfl) (by simp) ?_
   refine arC qr4x5 (c8h _) (fun e w1 ⟨he,hb⟩=>⟨_,he,below_next hS hb,dagW hG (str4_3.out w1 g6 (below_next hS hb) (r6.still hb) G6) (hF.out _ _ _ _)⟩) ?_
   refine arN qr4x7 hS (fun w1 g7 G7 lg hb rr hS1=>dagW hG (str4_6.out w1 g6 g7 hS1 (r6.still hb) rr G6 G7 (ne_l r6 lg)) (hF.out _ _ _ _)) ?_
   exact AllReadyH.nil)
  have str4_8:Hid (∀ (cur:World) (g7:Nat),Below Vr4_.heap.size Vr4_ cur→RW cur g7 0 (c4 (0))→Vr4_.heap.size≤g7→G 4 #[true,true,true,true,true,false,false,true,false,false] (F undef (pA g7 0) (numV pl) u46) cur):=Hid.mk' (by
   intro cur g7 hS r7 G7
   rw [hF.out,hG.out]
   clear str4_0 str4_1 str4_2 str4_3 str4_5 str4_7
   refine wpAnyH_ready (rs:=[5,6]) (by kernel_rfl) (by simp) ?_
   refine arC qr4x5 (c8h _) (fun e w1 ⟨he,hb⟩=>⟨_,he,below_next hS hb,dagW hG (str4_4.out w1 g7 (below_next hS hb) (r7.still hb) G7) (hF.out _ _ _ _)⟩) ?_
   refine arN qr4x6 hS (fun w1 g6 G6 lg hb rr hS1=>dagW hG (str4_6.out w1 g6 g7 hS1 rr (r7.still hb) G6 G7 (ne_r r7 lg)) (hF.out _ _ _ _)) ?_
   exact AllReadyH.nil)
  have str4_9:Hid (∀ (cur:World),Below Vr4_.heap.size Vr4_ cur→G 5 #[true,true,true,true,true,false,false,false,false,false] (F undef undef (numV pl) u46) cur):=Hid.mk' (by
   intro cur  hS 
   rw [hF.out,hG.out]
   clear str4_0 str4_1 str4_2 str4_3 str4_4 str4_6
   refine wpAnyH_ready (rs:=[5,6,7]) (by kernel_rfl) (by simp) ?_
   refine arC qr4x5 (c8h _) (fun e w1 ⟨he,hb⟩=>⟨_,he,below_next hS hb,dagW hG (str4_5.out w1  (below_next hS hb) ) (hF.out _ _ _ _)⟩) ?_
   refine arN qr4x6 hS (fun w1 g6 G6 lg hb rr hS1=>dagW hG (str4_7.out w1 g6 hS1 rr G6) (hF.out _ _ _ _)) ?_
   refine arN qr4x7 hS (fun w1 g7 G7 lg hb rr hS1=>dagW hG (str4_8.out w1 g7 hS1 rr G7) (hF.out _ _ _ _)) ?_
   exact AllReadyH.nil)
  have str4_10:Hid (∀ (cur:World) (g6 g7:Nat),Below Vr4_.heap.size Vr4_ cur→RW cur g6 0 (c4 (0))→RW cur g7 0 (c4 (0))→Vr4_.heap.size≤g6→Vr4_.heap.size≤g7→g6≠g7→G 4 #[true,true,false,true,true,false,true,true,false,false] (F (pA g6 0) (pA g7 0) u43 u46) cur):=Hid.mk' (by
   intro cur g6 g7 hS r6 r7 G6 G7 d6_7
   rw [hF.out,hG.out]
   clear str4_0 str4_1 str4_2 str4_3 str4_4 str4_5 str4_7 str4_8 str4_9
   refine wpAnyH_ready (rs:=[2]) (by kernel_rfl) (by simp) ?_
   refine arC qr4x2 (c7 _) (fun e w1 ⟨he,hb⟩=>⟨_,he,below_next hS hb,dagW hG (str4_6.out w1 g6 g7 (below_next hS hb) (r6.still hb) (r7.still hb) G6 G7 d6_7) (hF.out _ _ _ _)⟩) ?_
   exact AllReadyH.nil)
  have str4_11:Hid (∀ (cur:World) (g6:Nat),Below Vr4_.heap.size Vr4_ cur→RW cur g6 0 (c4 (0))→Vr4_.heap.size≤g6→G 5 #[true,true,false,true,true,false,true,false,false,false] (F (pA g6 0) undef u43 u46) cur):=Hid.mk' (by
   intro cur g6 hS r6 G6
   rw [hF.out,hG.out]
   clear str4_0 str4_1 str4_2 str4_3 str4_4 str4_5 str4_6 str4_8 str4_9
   refine wpAnyH_ready (rs:=[2,7]) (by kernel_rfl) (by simp) ?_
   refine arC qr4x2 (c7 _) (fun e w1 ⟨he,hb⟩=>⟨_,he,below_next hS hb,dagW hG (str4_7.out w1 g6 (below_next hS hb) (r6.still hb) G6) (hF.out _ _ _ _)⟩) ?_
   refine arN qr4x7 hS (fun w1 g7 G7 lg hb rr hS1=>dagW hG (str4_10.out w1 g6 g7 hS1 (r6.still hb) rr G6 G7 (ne_l r6 lg)) (hF.out _ _ _ _)) ?_
   exact AllReadyH.nil)
  have str4_12:Hid (∀ (cur:World) (g7:Nat),Below Vr4_.heap.size Vr4_ cur→RW cur g7 0 (c4 (0))→Vr4_.heap.size≤g7→G 5 #[true,true,false,true,true,false,false,true,false,false] (F undef (pA g7 0) u43 u46) cur):=Hid.mk' (by
   intro cur g7 hS r7 G7
   rw [hF.out,hG.out]
   clear str4_0 str4_1 str4_2 str4_3 str4_4 str4_5 str4_6 str4_7 str4_9 str4_11
   refine wpAnyH_ready (rs:=[2,6]) (by kernel_rfl) (by simp) ?_
   refine arC qr4x2 (c7 _) (fun e w1 ⟨he,hb⟩=>⟨_,he,below_next hS hb,dagW hG (str4_8.out w1 g7 (below_next hS hb) (r7.still hb) G7) (hF.out _ _ _ _)⟩) ?_
   refine arN qr4x6 hS (fun w1 g6 G6 lg hb rr hS1=>dagW hG (str4_10.out w1 g6 g7 hS1 rr (r7.still hb) G6 G7 (ne_r r7 lg)) (hF.out _ _ _ _)) ?_
   exact AllReadyH.nil)
  have str4_13:Hid (∀ (cur:World),Below Vr4_.heap.size Vr4_ cur→G 6 #[true,true,false,true,true,false,false,false,false,false] (F undef undef u43 u46) cur):=Hid.mk' (by
   intro cur  hS 
   rw [hF.out,hG.out]
   clear str4_0 str4_1 str4_2 str4_3 str4_4 str4_5 str4_6 str4_7 str4_8 str4_10
   refine wpAnyH_ready (rs:=[2,6,7]) (by kernel_rfl) (by simp) ?_
   refine arC qr4x2 (c7 _) (fun e w1 ⟨he,hb⟩=>⟨_,he,below_next hS hb,dagW hG (str4_9.out w1  (below_next hS hb) ) (hF.out _ _ _ _)⟩) ?_
   refine arN qr4x6 hS (fun w1 g6 G6 lg hb rr hS1=>dagW hG (str4_11.out w1 g6 hS1 rr G6) (hF.out _ _ _ _)) ?_
   refine arN qr4x7 hS (fun w1 g7 G7 lg hb rr hS1=>dagW hG (str4_12.out w1 g7 hS1 rr G7) (hF.out _ _ _ _)) ?_
   exact AllReadyH.nil)
  rw [hG.out]
  exact dagW hG (str4_13.out Vr4_ hS) (hF.out _ _ _ _)
 case rest =>
 obtain ⟨g10,g11,rfl,rfl,hb10,G10,G11,h10,h11,ne10⟩:=hcut
 replace hp:=hp.still hb10
 replace hq:=hq.still hb10
 replace hu:=hu.still hb10
 replace h4:=h4.still hb10
 replace h5:=h5.still hb10
 replace h6:=h6.still hb10
 replace h7:=h7.still hb10
 replace h8:=h8.still hb10
 replace h9:=h9.still hb10
 obtain ⟨W4,hW4⟩:∃ W,W=wc:=⟨_,rfl⟩
 rw [←hW4]
 rw [←hW4] at hp
 rw [←hW4] at hq
 rw [←hW4] at hu
 rw [←hW4] at h4
 rw [←hW4] at h5
 rw [←hW4] at h6
 rw [←hW4] at h7
 rw [←hW4] at h8
 rw [←hW4] at h9
 rw [←hW4] at h10
 rw [←hW4] at h11
 rw [←hW4] at hb10
 have lt4:W4.heap.size≤W4.heap.size:=Nat.le_refl _
 clear hW4
 go_wp2
 go_cut [12,13] from 15 (fun s12 s13 wc=>∃ g12 g13,s12 = .pointer (some ⟨g12,0,none⟩)∧s13 = .pointer (some ⟨g13,0,none⟩)∧Below W4.heap.size W4 wc∧W4.heap.size≤g12∧W4.heap.size≤g13∧RW wc g12 0 (c4 aa)∧RW wc g13 0 (c4 bb)∧g12≠g13)
 case first =>
  clear c1 c2 c3 c4h c5 c6 c7 c8h c11 c12 c13 c14 c15 c16 c17 c18 c19
  have hdrew:Below W4.heap.size W4 W4.drew:=(Below.refl _ _).drew
  replace hp:=hp.still hdrew
  replace hq:=hq.still hdrew
  replace hu:=hu.still hdrew
  replace h4:=h4.still hdrew
  replace h5:=h5.still hdrew
  replace h6:=h6.still hdrew
  replace h7:=h7.still hdrew
  replace h8:=h8.still hdrew
  replace h9:=h9.still hdrew
  replace h10:=h10.still hdrew
  replace h11:=h11.still hdrew
  refine wp_region_noPanic ?_
  refine wp_region_held_drew (S:=fun w'=>Below W4.drew.heap.size W4.drew w') (by kernel_rfl) (Below.refl _ _) (fun hS => ?_)
  generalize W4.drew=Vr5_ at *
  refine tk 0 (numV a) hS (hy:=(ldN h4 4)) (h := ?_)
  (try simp only [pS])
  refine tk 1 (numV a) hS (hy:=(ldN h4 4)) (h := ?_)
  (try simp only [pS])
  refine tk 3 (numV b) hS (hy:=(ldN h5 5)) (h := ?_)
  (try simp only [pS])
  refine tk 4 (numV b) hS (hy:=(ldN h5 5)) (h := ?_)
  (try simp only [pS])
  refine dag_root (fun G hG0 => ?_)
  have hG:=Hid.mk' hG0
  clear hG0
  obtain ⟨F,hF0⟩:∃ F:Value→Value→Value→Value→Act,∀ v12 v13 v49 v52,F v12 v13 v49 v52={ tmps:=#[pA g 0,.agg #[.int .u64 (lw u 0),.int .u64 (lw u 1),.int .u64 (lw u 2),.int .u64 (lw u 3)],undef,pA g3 0,pA g4 0,pA g5 0,pA g6 0,pA g7 0,pA g8 0,pA g9 0,pA g10 0,pA g11 0,v12,v13,undef,u15,u16,u17,u18,u19,u20,u21,u22,u23,u24,u25,u26,u27,u28,u29,u30,u31,u32,u33,u34,u35,u36,u37,u38,u39,u40,u41,u42,u43,u44,u45,u46,numV a,numV a,v49,numV b,numV b,v52,u53,u54,u55,u56,u57,u58,u59,u60,u61,u62,u63,u64,u65,u66,u67,u68,u69,u70,u71,u72,u73,u74,u75,u76,u77,u78,u79,u80,u81],defers:=[] }:=⟨_,fun _ _ _ _=>rfl⟩
  have hF:=Hid.mk' hF0
  clear hF0
  have str5_0:Hid (∀ (cur:World) (g6 g7:Nat),Below Vr5_.heap.size Vr5_ cur→RW cur g6 0 (c4 (aa))→RW cur g7 0 (c4 (bb))→Vr5_.heap.size≤g6→Vr5_.heap.size≤g7→g6≠g7→G 0 #[true,true,true,true,true,true,true,true,true,true] (F (pA g6 0) (pA g7 0) (numV aa) (numV bb)) cur):=Hid.mk' (by
   intro cur g6 g7 hS r6 r7 G6 G7 d6_7
   rw [hF.out,hG.out]
   refine wpAnyH_done (by kernel_rfl) ?_ _
   refine NoPanic.normal ?_
   go_wp2
   go_meet
   case rel=>exact ⟨g6,g7,rfl,rfl,below_next hdrew hS,Nat.le_trans hdrew.size G6,Nat.le_trans hdrew.size G7,r6,r7,by omega⟩)
  have str5_1:Hid (∀ (cur:World) (g6 g7:Nat),Below Vr5_.heap.size Vr5_ cur→RW cur g6 0 (c4 (aa))→RW cur g7 0 (c4 (0))→Vr5_.heap.size≤g6→Vr5_.heap.size≤g7→g6≠g7→G 1 #[true,true,true,true,true,true,true,true,true,false] (F (pA g6 0) (pA g7 0) (numV aa) (numV bb)) cur):=Hid.mk' (by
   intro cur g6 g7 hS r6 r7 G6 G7 d6_7
   rw [hF.out,hG.out]
   refine wpAnyH_ready (rs:=[9]) (by kernel_rfl) (by simp) ?_
   refine arS qr5x9 13 52 (bb) r7 hS G7 (fun w1 rr hS1 far=>dagW hG (str5_0.out w1 g6 g7 hS1 (far _ _ _ d6_7 r6) rr G6 G7 d6_7) (hF.out _ _ _ _)) ?_
   exact AllReadyH.nil)
  have str5_2:Hid (∀ (cur:World) (g6 g7:Nat),Below Vr5_.heap.size Vr5_ cur→RW cur g6 0 (c4 (0))→RW cur g7 0 (c4 (0))→Vr5_.heap.size≤g6→Vr5_.heap.size≤g7→g6≠g7→G 2 #[true,true,true,true,true,true,true,true,false,false] (F (pA g6 0) (pA g7 0) (numV aa) (numV bb)) cur):=Hid.mk' (by
   intro cur g6 g7 hS r6 r7 G6 G7 d6_7
   rw [hF.out,hG.out]
   clear str5_0
   refine wpAnyH_ready (rs:=[8]) (by kernel_rfl) (by simp) ?_
   refine arS qr5x8 12 49 (aa) r6 hS G6 (fun w1 rr hS1 far=>dagW hG (str5_1.out w1 g6 g7 hS1 rr (far _ _ _ d6_7.symm r7) G6 G7 d6_7) (hF.out _ _ _ _)) ?_
   exact AllReadyH.nil)
  have str5_3:Hid (∀ (cur:World) (g6:Nat),Below Vr5_.heap.size Vr5_ cur→RW cur g6 0 (c4 (0))→Vr5_.heap.size≤g6→G 3 #[true,true,true,true,true,true,true,false,false,false] (F (pA g6 0) undef (numV aa) (numV bb)) cur):=Hid.mk' (by
   intro cur g6 hS r6 G6
   rw [hF.out,hG.out]
   clear str5_0 str5_1
   refine wpAnyH_ready (rs:=[7]) (by kernel_rfl) (by simp) ?_
   refine arN qr5x7 hS (fun w1 g7 G7 lg hb rr hS1=>dagW hG (str5_2.out w1 g6 g7 hS1 (r6.still hb) rr G6 G7 (ne_l r6 lg)) (hF.out _ _ _ _)) ?_
   exact AllReadyH.nil)
  have str5_4:Hid (∀ (cur:World) (g7:Nat),Below Vr5_.heap.size Vr5_ cur→RW cur g7 0 (c4 (0))→Vr5_.heap.size≤g7→G 3 #[true,true,true,true,true,true,false,true,false,false] (F undef (pA g7 0) (numV aa) (numV bb)) cur):=Hid.mk' (by
   intro cur g7 hS r7 G7
   rw [hF.out,hG.out]
   clear str5_0 str5_1 str5_3
   refine wpAnyH_ready (rs:=[6]) (by kernel_rfl) (by simp) ?_
   refine arN qr5x6 hS (fun w1 g6 G6 lg hb rr hS1=>dagW hG (str5_2.out w1 g6 g7 hS1 rr (r7.still hb) G6 G7 (ne_r r7 lg)) (hF.out _ _ _ _)) ?_
   exact AllReadyH.nil)
  have str5_5:Hid (∀ (cur:World),Below Vr5_.heap.size Vr5_ cur→G 4 #[true,true,true,true,true,true,false,false,false,false] (F undef undef (numV aa) (numV bb)) cur):=Hid.mk' (by
   intro cur  hS 
   rw [hF.out,hG.out]
   clear str5_0 str5_1 str5_2
   refine wpAnyH_ready (rs:=[6,7]) (by kernel_rfl) (by simp) ?_
   refine arN qr5x6 hS (fun w1 g6 G6 lg hb rr hS1=>dagW hG (str5_3.out w1 g6 hS1 rr G6) (hF.out _ _ _ _)) ?_
   refine arN qr5x7 hS (fun w1 g7 G7 lg hb rr hS1=>dagW hG (str5_4.out w1 g7 hS1 rr G7) (hF.out _ _ _ _)) ?_
   exact AllReadyH.nil)
  have str5_6:Hid (∀ (cur:World) (g6 g7:Nat),Below Vr5_.heap.size Vr5_ cur→RW cur g6 0 (c4 (0))→RW cur g7 0 (c4 (0))→Vr5_.heap.size≤g6→Vr5_.heap.size≤g7→g6≠g7→G 3 #[true,true,true,true,true,false,true,true,false,false] (F (pA g6 0) (pA g7 0) (numV aa) u52) cur):=Hid.mk' (by
   intro cur g6 g7 hS r6 r7 G6 G7 d6_7
   rw [hF.out,hG.out]
   clear str5_0 str5_1 str5_3 str5_4 str5_5
   refine wpAnyH_ready (rs:=[5]) (by kernel_rfl) (by simp) ?_
   refine arC qr5x5 (c10 _) (fun e w1 ⟨he,hb⟩=>⟨_,he,below_next hS hb,dagW hG (str5_2.out w1 g6 g7 (below_next hS hb) (r6.still hb) (r7.still hb) G6 G7 d6_7) (hF.out _ _ _ _)⟩) ?_
   exact AllReadyH.nil)
  have str5_7:Hid (∀ (cur:World) (g6:Nat),Below Vr5_.heap.size Vr5_ cur→RW cur g6 0 (c4 (0))→Vr5_.heap.size≤g6→G 4 #[true,true,true,true,true,false,true,false,false,false] (F (pA g6 0) undef (numV aa) u52) cur):=Hid.mk' (by
   intro cur g6 hS r6 G6
   rw [hF.out,hG.out]
   clear str5_0 str5_1 str5_2 str5_4 str5_5
   refine wpAnyH_ready (rs:=[5,7]) (by kernel_rfl) (by simp) ?_
   refine arC qr5x5 (c10 _) (fun e w1 ⟨he,hb⟩=>⟨_,he,below_next hS hb,dagW hG (str5_3.out w1 g6 (below_next hS hb) (r6.still hb) G6) (hF.out _ _ _ _)⟩) ?_
   refine arN qr5x7 hS (fun w1 g7 G7 lg hb rr hS1=>dagW hG (str5_6.out w1 g6 g7 hS1 (r6.still hb) rr G6 G7 (ne_l r6 lg)) (hF.out _ _ _ _)) ?_
   exact AllReadyH.nil)
  have str5_8:Hid (∀ (cur:World) (g7:Nat),Below Vr5_.heap.size Vr5_ cur→RW cur g7 0 (c4 (0))→Vr5_.heap.size≤g7→G 4 #[true,true,true,true,true,false,false,true,false,false] (F undef (pA g7 0) (numV aa) u52) cur):=Hid.mk' (by
   intro cur g7 hS r7 G7
   rw [hF.out,hG.out]
   clear str5_0 str5_1 str5_2 str5_3 str5_5 str5_7
   refine wpAnyH_ready (rs:=[5,6]) (by kernel_rfl) (by simp) ?_
   refine arC qr5x5 (c10 _) (fun e w1 ⟨he,hb⟩=>⟨_,he,below_next hS hb,dagW hG (str5_4.out w1 g7 (below_next hS hb) (r7.still hb) G7) (hF.out _ _ _ _)⟩) ?_
   refine arN qr5x6 hS (fun w1 g6 G6 lg hb rr hS1=>dagW hG (str5_6.out w1 g6 g7 hS1 rr (r7.still hb) G6 G7 (ne_r r7 lg)) (hF.out _ _ _ _)) ?_
   exact AllReadyH.nil)
  have str5_9:Hid (∀ (cur:World),Below Vr5_.heap.size Vr5_ cur→G 5 #[true,true,true,true,true,false,false,false,false,false] (F undef undef (numV aa) u52) cur):=Hid.mk' (by
   intro cur  hS 
   rw [hF.out,hG.out]
   clear str5_0 str5_1 str5_2 str5_3 str5_4 str5_6
   refine wpAnyH_ready (rs:=[5,6,7]) (by kernel_rfl) (by simp) ?_
   refine arC qr5x5 (c10 _) (fun e w1 ⟨he,hb⟩=>⟨_,he,below_next hS hb,dagW hG (str5_5.out w1  (below_next hS hb) ) (hF.out _ _ _ _)⟩) ?_
   refine arN qr5x6 hS (fun w1 g6 G6 lg hb rr hS1=>dagW hG (str5_7.out w1 g6 hS1 rr G6) (hF.out _ _ _ _)) ?_
   refine arN qr5x7 hS (fun w1 g7 G7 lg hb rr hS1=>dagW hG (str5_8.out w1 g7 hS1 rr G7) (hF.out _ _ _ _)) ?_
   exact AllReadyH.nil)
  have str5_10:Hid (∀ (cur:World) (g6 g7:Nat),Below Vr5_.heap.size Vr5_ cur→RW cur g6 0 (c4 (0))→RW cur g7 0 (c4 (0))→Vr5_.heap.size≤g6→Vr5_.heap.size≤g7→g6≠g7→G 4 #[true,true,false,true,true,false,true,true,false,false] (F (pA g6 0) (pA g7 0) u49 u52) cur):=Hid.mk' (by
   intro cur g6 g7 hS r6 r7 G6 G7 d6_7
   rw [hF.out,hG.out]
   clear str5_0 str5_1 str5_2 str5_3 str5_4 str5_5 str5_7 str5_8 str5_9
   refine wpAnyH_ready (rs:=[2]) (by kernel_rfl) (by simp) ?_
   refine arC qr5x2 (c9 _) (fun e w1 ⟨he,hb⟩=>⟨_,he,below_next hS hb,dagW hG (str5_6.out w1 g6 g7 (below_next hS hb) (r6.still hb) (r7.still hb) G6 G7 d6_7) (hF.out _ _ _ _)⟩) ?_
   exact AllReadyH.nil)
  have str5_11:Hid (∀ (cur:World) (g6:Nat),Below Vr5_.heap.size Vr5_ cur→RW cur g6 0 (c4 (0))→Vr5_.heap.size≤g6→G 5 #[true,true,false,true,true,false,true,false,false,false] (F (pA g6 0) undef u49 u52) cur):=Hid.mk' (by
   intro cur g6 hS r6 G6
   rw [hF.out,hG.out]
   clear str5_0 str5_1 str5_2 str5_3 str5_4 str5_5 str5_6 str5_8 str5_9
   refine wpAnyH_ready (rs:=[2,7]) (by kernel_rfl) (by simp) ?_
   refine arC qr5x2 (c9 _) (fun e w1 ⟨he,hb⟩=>⟨_,he,below_next hS hb,dagW hG (str5_7.out w1 g6 (below_next hS hb) (r6.still hb) G6) (hF.out _ _ _ _)⟩) ?_
   refine arN qr5x7 hS (fun w1 g7 G7 lg hb rr hS1=>dagW hG (str5_10.out w1 g6 g7 hS1 (r6.still hb) rr G6 G7 (ne_l r6 lg)) (hF.out _ _ _ _)) ?_
   exact AllReadyH.nil)
  have str5_12:Hid (∀ (cur:World) (g7:Nat),Below Vr5_.heap.size Vr5_ cur→RW cur g7 0 (c4 (0))→Vr5_.heap.size≤g7→G 5 #[true,true,false,true,true,false,false,true,false,false] (F undef (pA g7 0) u49 u52) cur):=Hid.mk' (by
   intro cur g7 hS r7 G7
   rw [hF.out,hG.out]
   clear str5_0 str5_1 str5_2 str5_3 str5_4 str5_5 str5_6 str5_7 str5_9 str5_11
   refine wpAnyH_ready (rs:=[2,6]) (by kernel_rfl) (by simp) ?_
   refine arC qr5x2 (c9 _) (fun e w1 ⟨he,hb⟩=>⟨_,he,below_next hS hb,dagW hG (str5_8.out w1 g7 (below_next hS hb) (r7.still hb) G7) (hF.out _ _ _ _)⟩) ?_
   refine arN qr5x6 hS (fun w1 g6 G6 lg hb rr hS1=>dagW hG (str5_10.out w1 g6 g7 hS1 rr (r7.still hb) G6 G7 (ne_r r7 lg)) (hF.out _ _ _ _)) ?_
   exact AllReadyH.nil)
  have str5_13:Hid (∀ (cur:World),Below Vr5_.heap.size Vr5_ cur→G 6 #[true,true,false,true,true,false,false,false,false,false] (F undef undef u49 u52) cur):=Hid.mk' (by
   intro cur  hS 
   rw [hF.out,hG.out]
   clear str5_0 str5_1 str5_2 str5_3 str5_4 str5_5 str5_6 str5_7 str5_8 str5_10
   refine wpAnyH_ready (rs:=[2,6,7]) (by kernel_rfl) (by simp) ?_
   refine arC qr5x2 (c9 _) (fun e w1 ⟨he,hb⟩=>⟨_,he,below_next hS hb,dagW hG (str5_9.out w1  (below_next hS hb) ) (hF.out _ _ _ _)⟩) ?_
   refine arN qr5x6 hS (fun w1 g6 G6 lg hb rr hS1=>dagW hG (str5_11.out w1 g6 hS1 rr G6) (hF.out _ _ _ _)) ?_
   refine arN qr5x7 hS (fun w1 g7 G7 lg hb rr hS1=>dagW hG (str5_12.out w1 g7 hS1 rr G7) (hF.out _ _ _ _)) ?_
   exact AllReadyH.nil)
  rw [hG.out]
  exact dagW hG (str5_13.out Vr5_ hS) (hF.out _ _ _ _)
 case rest =>
 obtain ⟨g12,g13,rfl,rfl,hb12,G12,G13,h12,h13,ne12⟩:=hcut
 replace hp:=hp.still hb12
 replace hq:=hq.still hb12
 replace hu:=hu.still hb12
 replace h4:=h4.still hb12
 replace h5:=h5.still hb12
 replace h6:=h6.still hb12
 replace h7:=h7.still hb12
 replace h8:=h8.still hb12
 replace h9:=h9.still hb12
 replace h10:=h10.still hb12
 replace h11:=h11.still hb12
 obtain ⟨W5,hW5⟩:∃ W,W=wc:=⟨_,rfl⟩
 rw [←hW5]
 rw [←hW5] at hp
 rw [←hW5] at hq
 rw [←hW5] at hu
 rw [←hW5] at h4
 rw [←hW5] at h5
 rw [←hW5] at h6
 rw [←hW5] at h7
 rw [←hW5] at h8
 rw [←hW5] at h9
 rw [←hW5] at h10
 rw [←hW5] at h11
 rw [←hW5] at h12
 rw [←hW5] at h13
 rw [←hW5] at hb12
 have lt5:W5.heap.size≤W5.heap.size:=Nat.le_refl _
 clear hW5
 go_upto_region 6 with (fail)
 go_cut [14] from 15 (fun s14 wc=>∃ g14,s14 = .pointer (some ⟨g14,0,none⟩)∧Below W5.heap.size W5 wc∧W5.heap.size≤g14∧RW wc g14 0 (c4 ee))
 case first =>
  clear c1 c2 c3 c4h c5 c6 c7 c8h c9 c10 c12 c13 c14 c15 c16 c17 c18 c19
  have r12:=h12.range
  have c11':∀ W,Calls Tryz.prog 112 #[.agg (c4 aa).toArray,.agg (c4 bb).toArray] W fun e w'=>e = .returned (.agg (c4 ee).toArray)∧Below W.heap.size W w':=c11
  clear c11
  have r13:=h13.range
  clear hp hq hu h4 h5 h6 h7 h8 h9 h10 h11 h12 h13
  go_wp2_with (first
   | (refine wpList_load_mid rfl 75 _ rfl g12 0 rfl (c4 aa) _ r12 Tryz.underlying75 rfl info4 ?_)
   | (refine wpList_load_mid rfl 75 _ rfl g13 0 rfl (c4 bb) _ r13 Tryz.underlying75 rfl info4 ?_)
   | (go_at_call 112;refine (c11' _).mono ?_;clear c11' r12 r13;rintro e w6 ⟨rfl,hb6⟩;(have th:=fresh4' w6);(have th':=fresh4t w6 ee))
   | (with_reducible (refine id (?_:wpList _ _ _ _ _ _));refine wpList_store_mid rfl 75 _ _ rfl w6.heap.size 0 (c4 ee).toArray rfl rfl th' (info4a ee) (one4 ee) ?_))
  go_meet
  case rel=>exact ⟨w6.heap.size,rfl,below_setCells hb6.size _ _ _ (hb6.alloc hb6.size _),hb6.size,th.stored (c4 ee) rfl⟩
 case rest =>
 obtain ⟨g14,rfl,hb14,G14,h14⟩:=hcut
 replace hp:=hp.still hb14
 replace hq:=hq.still hb14
 replace hu:=hu.still hb14
 replace h4:=h4.still hb14
 replace h5:=h5.still hb14
 replace h6:=h6.still hb14
 replace h7:=h7.still hb14
 replace h8:=h8.still hb14
 replace h9:=h9.still hb14
 replace h10:=h10.still hb14
 replace h11:=h11.still hb14
 replace h12:=h12.still hb14
 replace h13:=h13.still hb14
 obtain ⟨W6,hW6⟩:∃ W,W=wc:=⟨_,rfl⟩
 rw [←hW6]
 rw [←hW6] at hp hq hu h4 h5 h6 h7 h8 h9 h10 h11 h12 h13 hb14 h14
 clear hW6
 go_wp2
 have hg6:g<W6.heap.size:=hp.lt
 have ne3:g3≠g:=hne3
 have sz:w.heap.size≤W.heap.size:=hbW.size
 have sz1:=hb4.size
 have sz2:=hb6.size
 have sz3:=hb8.size
 have sz4:=hb10.size
 have sz5:=hb12.size
 have n10:g10≠g:=by omega
 have n11:g11≠g:=by omega
 have n12:g12≠g:=by omega
 have n13:g13≠g:=by omega
 have n14:g14≠g:=by omega
 have hbz:Below w.heap.size w W6:=(((((hbW.trans (hb4.mono sz)).trans (hb6.mono (by omega))).trans (hb8.mono (by omega))).trans (hb10.mono (by omega))).trans (hb12.mono (by omega))).trans (hb14.mono (by omega))
 clear sz sz1 sz2 sz3 sz4 sz5 hbW hb4 hb6 hb8 hb10 hb12 hb14 lt1 lt2 lt3 lt4 lt5 G4 G5 G6 G7 G8 G9 G10 G11 G12 G13 G14 ne4 ne6 ne8 ne10 ne12 h4 h5 h6 h7 h8 h9 hne3 c1 c2 c3 c4h c5 c6 c7 c8h c9 c10 c11
 go_cut [] from 15 (fun wc=>Out g 8 8 W6 wc∧RW wc g 0 (c8 xl zl)∧RW wc g 8 (c8 p2 um))
 case first =>
  clear c15 c16 c17 c18 c19
  have hg60:=hg6
  have hdrew:Below W6.heap.size W6 W6.drew:=(Below.refl _ _).drew
  replace hp:=hp.still hdrew
  replace hq:=hq.still hdrew
  replace hu:=hu.still hdrew
  replace h10:=h10.still hdrew
  replace h11:=h11.still hdrew
  refine wp_region_noPanic ?_
  replace hg6:=Nat.lt_of_lt_of_le hg6 hdrew.size
  refine wp_region_held_drew (S:=fun w'=>Out g 8 8 W6.drew w') (by kernel_rfl) (Out.refl _ _ _ _) (fun hS => ?_)
  generalize W6.drew=Vr7_ at *
  refine tg 0 hS ?_
  (try simp only [pS])
  refine tk 1 (numV pl) hS (hy:=(ldO h10 n10 75 10 Tryz.underlying75 info4)) (h := ?_)
  (try simp only [pS])
  refine tk 2 (numV pl) hS (hy:=(ldO h10 n10 75 10 Tryz.underlying75 info4)) (h := ?_)
  (try simp only [pS])
  refine tk 4 (numV u) hS (hy:=(ldO hu ne3 75 3 Tryz.underlying75 info4)) (h := ?_)
  (try simp only [pS])
  refine tk 5 (numV mi) hS (hy:=(ldO h11 n11 75 11 Tryz.underlying75 info4)) (h := ?_)
  (try simp only [pS])
  refine tk 6 (numV mi) hS (hy:=(ldO h11 n11 75 11 Tryz.underlying75 info4)) (h := ?_)
  (try simp only [pS])
  refine cl 3 (c12 _) ?_
  (rintro e wr7_2 ⟨rfl,hbr7_2⟩)
  have hSr7_2:=hS.trans (Out.of_below hbr7_2 hg6)
  replace hg6:=Nat.lt_of_lt_of_le hg6 hbr7_2.size
  replace hp:=hp.still hbr7_2
  replace hq:=hq.still hbr7_2
  refine ⟨_,rfl,hSr7_2,?_⟩
  clear hbr7_2
  (try simp only [pS])
  refine cl 7 (c13 _) ?_
  (rintro e wr7_3 ⟨rfl,hbr7_3⟩)
  have hSr7_3:=hSr7_2.trans (Out.of_below hbr7_3 hg6)
  replace hg6:=Nat.lt_of_lt_of_le hg6 hbr7_3.size
  replace hp:=hp.still hbr7_3
  replace hq:=hq.still hbr7_3
  refine ⟨_,rfl,hSr7_3,?_⟩
  clear hbr7_3
  (try simp only [pS])
  refine cl 8 (c14 _) ?_
  (rintro e wr7_4 ⟨rfl,hbr7_4⟩)
  have hSr7_4:=hSr7_3.trans (Out.of_below hbr7_4 hg6)
  replace hg6:=Nat.lt_of_lt_of_le hg6 hbr7_4.size
  replace hp:=hp.still hbr7_4
  replace hq:=hq.still hbr7_4
  refine ⟨_,rfl,hSr7_4,?_⟩
  clear hbr7_4
  (try simp only [pS])
  refine tk 9 (ratV p2 um) hSr7_4 (hy:=(yields_build2 (by rfl) 277 0 1 _ _ rfl (numV p2) (numV um) rfl rfl _ (built8 p2 um))) (h := ?_)
  (try simp only [pS])
  refine tg 10 hSr7_4 ?_
  (try simp only [pS])
  refine tg 11 hSr7_4 ?_
  (try simp only [pS])
  refine wpAnyH_ready (rs:=[12]) (by kernel_rfl) (by simp) ?_
  refine AllReadyH.cons (o:=oS (Op.store 277 (oT 67) (oT 65)) "climb.go:40" #[jD 11,jD 9,jC 8,jP 0,jP 1,jP 2,jP 3,jP 4,jP 5,jP 6,jP 7,jP 8,jP 9]) rfl (fun K hK => ?_) (AllReadyH.nil)
  rw [if_pos (by rfl)]
  refine wp_store_mid 277 _ _ rfl g 8 (c8 p2 um).toArray rfl rfl hq.there info8 (one8 _ _) ?_
  have hSr7_7:=hSr7_4.trans (Out.setCells wr7_4 (c8 p2 um) (Nat.le_refl _) (Nat.le_refl _))
  replace hq:=hq.stored (c8 p2 um) rfl
  replace hp:=hp.far g 8 (c8 p2 um) (by simp [c8,c4])
  obtain ⟨wr7_7,hwr7_7⟩:∃ W,wr7_4.setCells g 8 (c8 p2 um)=W:=⟨_,rfl⟩
  rw [hwr7_7] at hp
  rw [hwr7_7] at hq
  rw [hwr7_7] at hSr7_7
  rw [show wr7_4.setCells g 8 (c8 p2 um).toArray.toList=wr7_7 from hwr7_7]
  refine hK.out _ _ hSr7_7 (fun h => ?_)
  clear h hK K hwr7_7
  (try dsimp only [Act.put])
  refine wpAnyH_done (by kernel_rfl) ?_ _
  refine NoPanic.normal ?_
  go_wp2
  go_meet
  case rel=>exact ⟨(Out.of_below hdrew hg60).trans hSr7_7,hp,hq⟩
 case rest =>
 obtain ⟨o7,hp7,hq7⟩:=hcut
 replace h12:=h12.out o7 n12
 replace h13:=h13.out o7 n13
 replace h14:=h14.out o7 n14
 clear hp hq hu h10 h11 c12 c13 c14
 obtain ⟨W7,hW7⟩:∃ W,W=wc:=⟨_,rfl⟩
 rw [←hW7]
 rw [←hW7] at o7 hp7 hq7 h12 h13 h14
 clear hW7
 have hg7:g<W7.heap.size:=hp7.lt
 have hg70:=hg7
 go_wp2
 have hdrew:Below W7.heap.size W7 W7.drew:=(Below.refl _ _).drew
 replace hp7:=hp7.still hdrew
 replace hq7:=hq7.still hdrew
 replace h12:=h12.still hdrew
 replace h13:=h13.still hdrew
 replace h14:=h14.still hdrew
 refine wp_region_noPanic ?_
 replace hg7:=Nat.lt_of_lt_of_le hg7 hdrew.size
 refine wp_region_held_drew (S:=fun w'=>Out g 0 8 W7.drew w') (by kernel_rfl) (Out.refl _ _ _ _) (fun hS => ?_)
 generalize W7.drew=Vr8_ at *
 refine tg 0 hS ?_
 (try simp only [pS])
 refine tk 1 (numV aa) hS (hy:=(ldO h12 n12 75 12 Tryz.underlying75 info4)) (h := ?_)
 (try simp only [pS])
 refine tk 2 (numV bb) hS (hy:=(ldO h13 n13 75 13 Tryz.underlying75 info4)) (h := ?_)
 (try simp only [pS])
 refine tk 4 (numV ee) hS (hy:=(ldO h14 n14 75 14 Tryz.underlying75 info4)) (h := ?_)
 (try simp only [pS])
 refine tk 5 (numV aa) hS (hy:=(ldO h12 n12 75 12 Tryz.underlying75 info4)) (h := ?_)
 (try simp only [pS])
 refine tk 7 (numV ee) hS (hy:=(ldO h14 n14 75 14 Tryz.underlying75 info4)) (h := ?_)
 (try simp only [pS])
 refine cl 3 (c15 _) ?_
 (rintro e wr8_2 ⟨rfl,hbr8_2⟩)
 have hSr8_2:=hS.trans (Out.of_below hbr8_2 hg7)
 replace hg7:=Nat.lt_of_lt_of_le hg7 hbr8_2.size
 replace hp7:=hp7.still hbr8_2
 replace hq7:=hq7.still hbr8_2
 refine ⟨_,rfl,hSr8_2,?_⟩
 clear hbr8_2
 (try simp only [pS])
 refine cl 6 (c16 _) ?_
 (rintro e wr8_3 ⟨rfl,hbr8_3⟩)
 have hSr8_3:=hSr8_2.trans (Out.of_below hbr8_3 hg7)
 replace hg7:=Nat.lt_of_lt_of_le hg7 hbr8_3.size
 replace hp7:=hp7.still hbr8_3
 replace hq7:=hq7.still hbr8_3
 refine ⟨_,rfl,hSr8_3,?_⟩
 clear hbr8_3
 (try simp only [pS])
 refine cl 8 (c17 _) ?_
 (rintro e wr8_4 ⟨rfl,hbr8_4⟩)
 have hSr8_4:=hSr8_3.trans (Out.of_below hbr8_4 hg7)
 replace hg7:=Nat.lt_of_lt_of_le hg7 hbr8_4.size
 replace hp7:=hp7.still hbr8_4
 replace hq7:=hq7.still hbr8_4
 refine ⟨_,rfl,hSr8_4,?_⟩
 clear hbr8_4
 (try simp only [pS])
 refine cl 9 (c18 _) ?_
 (rintro e wr8_5 ⟨rfl,hbr8_5⟩)
 have hSr8_5:=hSr8_4.trans (Out.of_below hbr8_5 hg7)
 replace hg7:=Nat.lt_of_lt_of_le hg7 hbr8_5.size
 replace hp7:=hp7.still hbr8_5
 replace hq7:=hq7.still hbr8_5
 refine ⟨_,rfl,hSr8_5,?_⟩
 clear hbr8_5
 (try simp only [pS])
 refine cl 10 (c19 _) ?_
 (rintro e wr8_6 ⟨rfl,hbr8_6⟩)
 have hSr8_6:=hSr8_5.trans (Out.of_below hbr8_6 hg7)
 replace hg7:=Nat.lt_of_lt_of_le hg7 hbr8_6.size
 replace hp7:=hp7.still hbr8_6
 replace hq7:=hq7.still hbr8_6
 refine ⟨_,rfl,hSr8_6,?_⟩
 clear hbr8_6
 (try simp only [pS])
 refine tk 11 (ratV ab ea) hSr8_6 (hy:=(yields_build2 (by rfl) 277 0 1 _ _ rfl (numV ab) (numV ea) rfl rfl _ (built8 ab ea))) (h := ?_)
 (try simp only [pS])
 refine tg 12 hSr8_6 ?_
 (try simp only [pS])
 refine tg 13 hSr8_6 ?_
 (try simp only [pS])
 refine wpAnyH_ready (rs:=[14]) (by kernel_rfl) (by simp) ?_
 refine AllReadyH.cons (o:=oS (Op.store 277 (oT 81) (oT 79)) "climb.go:41" #[jD 13,jD 11,jC 10,jP 0,jP 1,jP 2,jP 3,jP 4,jP 5,jP 6,jP 7,jP 8,jP 9,jP 10,jP 11]) rfl (fun K hK => ?_) (AllReadyH.nil)
 rw [if_pos (by rfl)]
 refine wp_store_mid 277 _ _ rfl g 0 (c8 ab ea).toArray rfl rfl hp7.there info8 (one8 _ _) ?_
 have hSr8_9:=hSr8_6.trans (Out.setCells wr8_6 (c8 ab ea) (Nat.le_refl _) (Nat.le_refl _))
 replace hp7:=hp7.stored (c8 ab ea) rfl
 replace hq7:=hq7.far g 0 (c8 ab ea) (by simp [c8,c4])
 obtain ⟨wr8_9,hwr8_9⟩:∃ W,wr8_6.setCells g 0 (c8 ab ea)=W:=⟨_,rfl⟩
 rw [hwr8_9] at hp7
 rw [hwr8_9] at hq7
 rw [hwr8_9] at hSr8_9
 rw [show wr8_6.setCells g 0 (c8 ab ea).toArray.toList=wr8_9 from hwr8_9]
 refine hK.out _ _ hSr8_9 (fun h => ?_)
 clear h hK K hwr8_9
 (try dsimp only [Act.put])
 refine wpAnyH_done (by kernel_rfl) ?_ _
 refine NoPanic.normal ?_
 clear c15 c16 c17 c18 c19
 have fin:=(((Out.of_below (b:=g) (o:=0) (n:=16) hbz hgl).trans (o7.wide (by decide) (by decide))).trans ((Out.of_below (b:=g) (o:=0) (n:=16) hdrew hg70))).trans (Out.wide (p:=0) (m:=16) hSr8_9 (by decide) (by decide))
 go_wp2
 exact bodyPost_end (results_none Tryz.results275 _ _ _) rfl ⟨rfl,fin,hp7,hq7⟩
end Go.Proofs.YtibdhadbflfdpaaGreatDoor
