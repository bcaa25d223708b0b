/- What a step of the ladder does in the model. -/
import Derived.Test.YtcgkajlehdgpoaaGreatDoorPNumM
namespace Go.Proofs.YtcgkajlehdgpoaaGreatDoor
open Go.RowKit
def c16 (xl zl xh zh:Nat):List Value:=c8 xl zl ++ c8 xh zh
theorem built8 (p q:Nat):Tryz.prog.built 146 [(0,numV p),(1,numV q)]=some (c8 p q).toArray:=by kernel_rfl
theorem Out.wide {b o n p m:Nat} {w w':World} (h:Out b o n w w') (h1:p≤o) (h2:o+n≤p+m):Out b p m w w' :=
 ⟨h.os,h.tape,h.output,h.size,h.block,fun q hq=>h.cell q (by omega),h.frozen⟩
abbrev qr1x11:Oper:=oN 5 (Op.alloc 88) 0 "climb.go:34" #[]
abbrev qr1x10:Oper:=oN 4 (Op.alloc 88) 0 "climb.go:34" #[]
abbrev qr1x4:Oper:=oN 19 (cF1 152 #[oT 18] #[146]) 88 "climb.go:34" #[jD 3]
abbrev qr1x9:Oper:=oN 24 (cF1 153 #[oT 23] #[146]) 88 "climb.go:34" #[jD 8,jC 4]
abbrev qr1x12:Oper:=oS (Op.store 88 (oT 4) (oT 19)) "climb.go:34" #[jD 10,jD 4,jC 9,jP 0,jP 1,jP 2,jP 3,jP 4,jT 5,jT 6,jT 7,jT 8,jU 9,jP 10,jP 11]
abbrev qr1x13:Oper:=oS (Op.store 88 (oT 5) (oT 24)) "climb.go:34" #[jD 11,jD 9,jC 12,jP 0,jP 1,jP 2,jP 3,jP 4,jP 5,jP 6,jP 7,jP 8,jP 9,jP 10,jP 11,jP 12]
abbrev qr2x11:Oper:=oN 7 (Op.alloc 88) 0 "climb.go:35" #[]
abbrev qr2x10:Oper:=oN 6 (Op.alloc 88) 0 "climb.go:35" #[]
abbrev qr2x4:Oper:=oN 29 (cF1 152 #[oT 28] #[146]) 88 "climb.go:35" #[jD 3]
abbrev qr2x9:Oper:=oN 34 (cF1 153 #[oT 33] #[146]) 88 "climb.go:35" #[jD 8,jC 4]
abbrev qr2x12:Oper:=oS (Op.store 88 (oT 6) (oT 29)) "climb.go:35" #[jD 10,jD 4,jC 9,jP 0,jP 1,jP 2,jP 3,jP 4,jT 5,jT 6,jT 7,jT 8,jU 9,jP 10,jP 11]
abbrev qr2x13:Oper:=oS (Op.store 88 (oT 7) (oT 34)) "climb.go:35" #[jD 11,jD 9,jC 12,jP 0,jP 1,jP 2,jP 3,jP 4,jP 5,jP 6,jP 7,jP 8,jP 9,jP 10,jP 11,jP 12]
abbrev qr3x7:Oper:=oN 9 (Op.alloc 88) 0 "climb.go:36" #[]
abbrev qr3x6:Oper:=oN 8 (Op.alloc 88) 0 "climb.go:36" #[]
abbrev qr3x2:Oper:=oN 37 (cF1 126 #[oT 35,oT 36] #[88,88]) 88 "climb.go:36" #[jD 0,jD 1]
abbrev qr3x5:Oper:=oN 40 (cF1 126 #[oT 38,oT 39] #[88,88]) 88 "climb.go:36" #[jD 3,jD 4,jC 2]
abbrev qr3x8:Oper:=oS (Op.store 88 (oT 8) (oT 37)) "climb.go:36" #[jD 6,jD 2,jC 5,jP 0,jP 1,jP 2,jT 3,jT 4,jU 5,jP 6,jP 7]
abbrev qr3x9:Oper:=oS (Op.store 88 (oT 9) (oT 40)) "climb.go:36" #[jD 7,jD 5,jC 8,jP 0,jP 1,jP 2,jP 3,jP 4,jP 5,jP 6,jP 7,jP 8]
abbrev qr4x7:Oper:=oN 11 (Op.alloc 88) 0 "climb.go:37" #[]
abbrev qr4x6:Oper:=oN 10 (Op.alloc 88) 0 "climb.go:37" #[]
abbrev qr4x2:Oper:=oN 43 (cF1 154 #[oT 41,oT 42] #[88,88]) 88 "climb.go:37" #[jD 0,jD 1]
abbrev qr4x5:Oper:=oN 46 (cF1 77 #[oT 44,oT 45] #[88,88]) 88 "climb.go:37" #[jD 3,jD 4,jC 2]
abbrev qr4x8:Oper:=oS (Op.store 88 (oT 10) (oT 43)) "climb.go:37" #[jD 6,jD 2,jC 5,jP 0,jP 1,jP 2,jT 3,jT 4,jU 5,jP 6,jP 7]
abbrev qr4x9:Oper:=oS (Op.store 88 (oT 11) (oT 46)) "climb.go:37" #[jD 7,jD 5,jC 8,jP 0,jP 1,jP 2,jP 3,jP 4,jP 5,jP 6,jP 7,jP 8]
abbrev qr5x7:Oper:=oN 13 (Op.alloc 88) 0 "climb.go:38" #[]
abbrev qr5x6:Oper:=oN 12 (Op.alloc 88) 0 "climb.go:38" #[]
abbrev qr5x2:Oper:=oN 49 (cF1 126 #[oT 47,oT 48] #[88,88]) 88 "climb.go:38" #[jD 0,jD 1]
abbrev qr5x5:Oper:=oN 52 (cF1 126 #[oT 50,oT 51] #[88,88]) 88 "climb.go:38" #[jD 3,jD 4,jC 2]
abbrev qr5x8:Oper:=oS (Op.store 88 (oT 12) (oT 49)) "climb.go:38" #[jD 6,jD 2,jC 5,jP 0,jP 1,jP 2,jT 3,jT 4,jU 5,jP 6,jP 7]
abbrev qr5x9:Oper:=oS (Op.store 88 (oT 13) (oT 52)) "climb.go:38" #[jD 7,jD 5,jC 8,jP 0,jP 1,jP 2,jP 3,jP 4,jP 5,jP 6,jP 7,jP 8]
set_option maxRecDepth 20000 in
set_option maxHeartbeats 16000000 in
theorem step_raw (u xl zl xh zh a b c d da cb pl mi aa bb ee p2 m2 um ab k ke ak ea g:Nat)
 (c1:∀ W,Calls Tryz.prog 152 #[ratV xl zl] W fun e w'=>e = .returned (numV a)∧Below W.heap.size W w')
 (c2:∀ W,Calls Tryz.prog 153 #[ratV xl zl] W fun e w'=>e = .returned (numV b)∧Below W.heap.size W w')
 (c3:∀ W,Calls Tryz.prog 152 #[ratV xh zh] W fun e w'=>e = .returned (numV c)∧Below W.heap.size W w')
 (c4h:∀ W,Calls Tryz.prog 153 #[ratV xh zh] W fun e w'=>e = .returned (numV d)∧Below W.heap.size W w')
 (c5:∀ W,Calls Tryz.prog 126 #[numV d,numV a] W fun e w'=>e = .returned (numV da)∧Below W.heap.size W w')
 (c6:∀ W,Calls Tryz.prog 126 #[numV c,numV b] W fun e w'=>e = .returned (numV cb)∧Below W.heap.size W w')
 (c7:∀ W,Calls Tryz.prog 154 #[numV da,numV cb] W fun e w'=>e = .returned (numV pl)∧Below W.heap.size W w')
 (c8h:∀ W,Calls Tryz.prog 77 #[numV da,numV cb] W fun e w'=>e = .returned (numV mi)∧Below W.heap.size W w')
 (c9:∀ W,Calls Tryz.prog 126 #[numV a,numV a] W fun e w'=>e = .returned (numV aa)∧Below W.heap.size W w')
 (c10:∀ W,Calls Tryz.prog 126 #[numV b,numV b] W fun e w'=>e = .returned (numV bb)∧Below W.heap.size W w')
 (c11:∀ W,Calls Tryz.prog 77 #[numV aa,numV bb] W fun e w'=>e = .returned (numV ee)∧Below W.heap.size W w')
 (c12:∀ W,Calls Tryz.prog 126 #[numV pl,numV pl] W fun e w'=>e = .returned (numV p2)∧Below W.heap.size W w')
 (c13:∀ W,Calls Tryz.prog 126 #[numV mi,numV mi] W fun e w'=>e = .returned (numV m2)∧Below W.heap.size W w')
 (c14:∀ W,Calls Tryz.prog 126 #[numV u,numV m2] W fun e w'=>e = .returned (numV um)∧Below W.heap.size W w')
 (c15:∀ W,Calls Tryz.prog 126 #[numV aa,numV bb] W fun e w'=>e = .returned (numV ab)∧Below W.heap.size W w')
 (c16:∀ W,Calls Tryz.prog 54 #[.int .i64 121665] W fun e w'=>e = .returned (numV k)∧Below W.heap.size W w')
 (c17:∀ W,Calls Tryz.prog 126 #[numV k,numV ee] W fun e w'=>e = .returned (numV ke)∧Below W.heap.size W w')
 (c18:∀ W,Calls Tryz.prog 154 #[numV aa,numV ke] W fun e w'=>e = .returned (numV ak)∧Below W.heap.size W w')
 (c19:∀ W,Calls Tryz.prog 126 #[numV ee,numV ak] W fun e w'=>e = .returned (numV ea)∧Below W.heap.size W w')
 (w:World) (hp:RW w g 0 (c8 xl zl)) (hq:RW w g 8 (c8 xh zh)) :
 Calls Tryz.prog 125 #[.pointer (some ⟨g,0,none⟩),numV u] w fun e w'=>e = .returned (.tuple #[])∧Out g 0 16 w w'∧RW w' g 0 (c8 ab ea)∧RW w' g 8 (c8 p2 um):=by
 obtain ⟨W,hW⟩:∃ W,W=w.alloc (.cells #[.int .u64 (lw u 0),.int .u64 (lw u 1),.int .u64 (lw u 2),.int .u64 (lw u 3)] 88):=⟨_,rfl⟩
 obtain ⟨g3,hg3⟩:∃ g3,g3=w.heap.size:=⟨_,rfl⟩
 have hbW:Below w.heap.size w W:=by rw [hW];exact (Below.refl _ _).alloc (Nat.le_refl _) _
 have hu:RW W g3 0 (c4 u):=by rw [hW,hg3];exact RW.fresh w (c4 u) _
 have hgl:=hp.lt
 have hne3:g3≠g:=by omega
 replace hp:=hp.still hbW
 replace hq:=hq.still hbW
 have HW:=Hid.mk' hW
 have Hg:=Hid.mk' hg3
 clear hW hg3
 rw [show numV u = .agg #[.int .u64 (lw u 0),.int .u64 (lw u 1),.int .u64 (lw u 2),.int .u64 (lw u 3)] from rfl]
 go_enter Tryz.func125,Tryz.ntmps125
 go_wp2
 rw [←HW.out,←Hg.out]
 clear HW Hg
 go_cut [4,5] from 15 (fun s4 s5 wc=>∃ g4 g5,s4 = .pointer (some ⟨g4,0,none⟩)∧s5 = .pointer (some ⟨g5,0,none⟩)∧Below W.heap.size W wc∧W.heap.size≤g4∧W.heap.size≤g5∧RW wc g4 0 (c4 a)∧RW wc g5 0 (c4 b)∧g4≠g5)
 case first =>
  clear c3 c4h c5 c6 c7 c8h c9 c10 c11 c12 c13 c14 c15 c16 c17 c18 c19
  have hdrew:Below W.heap.size W W.drew:=(Below.refl _ _).drew
  replace hp:=hp.still hdrew
  replace hq:=hq.still hdrew
  replace hu:=hu.still hdrew
  refine wp_region_noPanic ?_
  refine wp_region_held_drew (S:=fun w'=>Below W.drew.heap.size W.drew w') (by kernel_rfl) (Below.refl _ _) (fun hS => ?_)
  generalize W.drew=Vr1_ at *
  refine tg 0 hS ?_
  (try simp only [pS])
  refine tg 1 hS ?_
  (try simp only [pS])
  refine tk 2 (pA g 0) hS (hy:=yR) (h := ?_)
  (try simp only [pS])
  refine tk 3 (ratV xl zl) hS (hy:=(ldH hp 146 17 Tryz.underlying146 info8)) (h := ?_)
  (try simp only [pS])
  refine tg 5 hS ?_
  (try simp only [pS])
  refine tg 6 hS ?_
  (try simp only [pS])
  refine tk 7 (pA g 0) hS (hy:=yR) (h := ?_)
  (try simp only [pS])
  refine tk 8 (ratV xl zl) hS (hy:=(ldH hp 146 22 Tryz.underlying146 info8)) (h := ?_)
  (try simp only [pS])
  refine wpAnyH_ready (rs:=[4,10,11]) (by kernel_rfl) (by simp) ?_
  refine AllReadyH.cons (o:=qr1x4) rfl (fun K hK => ?_) (AllReadyH.cons (o:=qr1x10) rfl (fun K hK => ?_) (AllReadyH.cons (o:=qr1x11) rfl (fun K hK => ?_) (AllReadyH.nil)))
  · unfold qr1x4
    go_simp
    (go_at_call 152;refine (c1 _).mono ?_;rintro e wr1_5 ⟨rfl,hbr1_5⟩)
    (try go_simp)
    have hSr1_5:=below_next hS hbr1_5
    refine hK.out _ _ hSr1_5 (fun h => ?_)
    clear h hK K hbr1_5
    (try simp only [pS])
    refine wpAnyH_ready (rs:=[9,10,11]) (by kernel_rfl) (by simp) ?_
    refine AllReadyH.cons (o:=qr1x9) rfl (fun K hK => ?_) (AllReadyH.cons (o:=qr1x10) rfl (fun K hK => ?_) (AllReadyH.cons (o:=qr1x11) rfl (fun K hK => ?_) (AllReadyH.nil)))
    · unfold qr1x9
      go_simp
      (go_at_call 153;refine (c2 _).mono ?_;rintro e wr1_6 ⟨rfl,hbr1_6⟩)
      (try go_simp)
      have hSr1_6:=below_next hSr1_5 hbr1_6
      refine hK.out _ _ hSr1_6 (fun h => ?_)
      clear h hK K hbr1_6
      (try simp only [pS])
      refine wpAnyH_ready (rs:=[10,11]) (by kernel_rfl) (by simp) ?_
      refine AllReadyH.cons (o:=qr1x10) rfl (fun K hK => ?_) (AllReadyH.cons (o:=qr1x11) rfl (fun K hK => ?_) (AllReadyH.nil))
      · unfold qr1x10
        go_simp
        obtain ⟨wr1_7,gr1_7,hwr1_7,hgr1_7,hbr1_7,rr1_7⟩:=fresh4 wr1_6
        rw [hwr1_7,hgr1_7]
        have hSr1_7:=below_next hSr1_6 hbr1_7
        have Gr1_7:Vr1_.heap.size≤gr1_7:=by have:=hSr1_6.size;omega
        refine hK.out _ _ hSr1_7 (fun h => ?_)
        clear h hK K hbr1_7 hwr1_7 hgr1_7
        (try simp only [pS])
        refine wpAnyH_ready (rs:=[11]) (by kernel_rfl) (by simp) ?_
        refine AllReadyH.cons (o:=qr1x11) rfl (fun K hK => ?_) (AllReadyH.nil)
        unfold qr1x11
        go_simp
        obtain ⟨wr1_8,gr1_8,hwr1_8,hgr1_8,hbr1_8,rr1_8⟩:=fresh4 wr1_7
        rw [hwr1_8,hgr1_8]
        have hSr1_8:=below_next hSr1_7 hbr1_8
        have Gr1_8:Vr1_.heap.size≤gr1_8:=by have:=hSr1_7.size;omega
        have gr1_7_gr1_8:gr1_7≠gr1_8:=by have:=rr1_7.lt;omega
        replace rr1_7:=rr1_7.still hbr1_8
        refine hK.out _ _ hSr1_8 (fun h => ?_)
        clear h hK K hbr1_8 hwr1_8 hgr1_8
        (try simp only [pS])
        refine wpAnyH_ready (rs:=[12]) (by kernel_rfl) (by simp) ?_
        refine AllReadyH.cons (o:=qr1x12) rfl (fun K hK => ?_) (AllReadyH.nil)
        unfold qr1x12
        rw [if_pos (by rfl)]
        refine num_store _ _ rfl gr1_7 0 a rfl rfl rr1_7 hSr1_8 Gr1_7 (fun wr1_9 r0 hSr1_9 far => ?_)
        replace rr1_8:=far _ _ _ (by omega) rr1_8
        refine hK.out _ _ hSr1_9 (fun h => ?_)
        clear h hK K far rr1_7
        have rr1_7:=r0
        clear r0
        (try dsimp only [Act.put])
        refine wpAnyH_ready (rs:=[13]) (by kernel_rfl) (by simp) ?_
        refine AllReadyH.cons (o:=qr1x13) rfl (fun K hK => ?_) (AllReadyH.nil)
        unfold qr1x13
        rw [if_pos (by rfl)]
        refine num_store _ _ rfl gr1_8 0 b rfl rfl rr1_8 hSr1_9 Gr1_8 (fun wr1_10 r0 hSr1_10 far => ?_)
        replace rr1_7:=far _ _ _ (by omega) rr1_7
        refine hK.out _ _ hSr1_10 (fun h => ?_)
        clear h hK K far rr1_8
        have rr1_8:=r0
        clear r0
        (try dsimp only [Act.put])
        refine wpAnyH_done (by kernel_rfl) ?_ _
        refine NoPanic.normal ?_
        go_wp2
        go_meet
        case rel=>exact ⟨gr1_7,gr1_8,rfl,rfl,below_next hdrew hSr1_10,Nat.le_trans hdrew.size Gr1_7,Nat.le_trans hdrew.size Gr1_8,rr1_7,rr1_8,by omega⟩
      · unfold qr1x11
        go_simp
        obtain ⟨wr1_11,gr1_11,hwr1_11,hgr1_11,hbr1_11,rr1_11⟩:=fresh4 wr1_6
        rw [hwr1_11,hgr1_11]
        have hSr1_11:=below_next hSr1_6 hbr1_11
        have Gr1_11:Vr1_.heap.size≤gr1_11:=by have:=hSr1_6.size;omega
        refine hK.out _ _ hSr1_11 (fun h => ?_)
        clear h hK K hbr1_11 hwr1_11 hgr1_11
        (try simp only [pS])
        refine wpAnyH_ready (rs:=[10]) (by kernel_rfl) (by simp) ?_
        refine AllReadyH.cons (o:=qr1x10) rfl (fun K hK => ?_) (AllReadyH.nil)
        unfold qr1x10
        go_simp
        obtain ⟨wr1_12,gr1_12,hwr1_12,hgr1_12,hbr1_12,rr1_12⟩:=fresh4 wr1_11
        rw [hwr1_12,hgr1_12]
        have hSr1_12:=below_next hSr1_11 hbr1_12
        have Gr1_12:Vr1_.heap.size≤gr1_12:=by have:=hSr1_11.size;omega
        have gr1_11_gr1_12:gr1_11≠gr1_12:=by have:=rr1_11.lt;omega
        replace rr1_11:=rr1_11.still hbr1_12
        refine hK.out _ _ hSr1_12 (fun h => ?_)
        clear h hK K hbr1_12 hwr1_12 hgr1_12
        (try simp only [pS])
        refine wpAnyH_ready (rs:=[12]) (by kernel_rfl) (by simp) ?_
        refine AllReadyH.cons (o:=qr1x12) rfl (fun K hK => ?_) (AllReadyH.nil)
        unfold qr1x12
        rw [if_pos (by rfl)]
        refine num_store _ _ rfl gr1_12 0 a rfl rfl rr1_12 hSr1_12 Gr1_12 (fun wr1_13 r0 hSr1_13 far => ?_)
        replace rr1_11:=far _ _ _ (by omega) rr1_11
        refine hK.out _ _ hSr1_13 (fun h => ?_)
        clear h hK K far rr1_12
        have rr1_12:=r0
        clear r0
        (try dsimp only [Act.put])
        refine wpAnyH_ready (rs:=[13]) (by kernel_rfl) (by simp) ?_
        refine AllReadyH.cons (o:=qr1x13) rfl (fun K hK => ?_) (AllReadyH.nil)
        unfold qr1x13
        rw [if_pos (by rfl)]
        refine num_store _ _ rfl gr1_11 0 b rfl rfl rr1_11 hSr1_13 Gr1_11 (fun wr1_14 r0 hSr1_14 far => ?_)
        replace rr1_12:=far _ _ _ (by omega) rr1_12
        refine hK.out _ _ hSr1_14 (fun h => ?_)
        clear h hK K far rr1_11
        have rr1_11:=r0
        clear r0
        (try dsimp only [Act.put])
        refine wpAnyH_done (by kernel_rfl) ?_ _
        refine NoPanic.normal ?_
        go_wp2
        go_meet
        case rel=>exact ⟨gr1_12,gr1_11,rfl,rfl,below_next hdrew hSr1_14,Nat.le_trans hdrew.size Gr1_12,Nat.le_trans hdrew.size Gr1_11,rr1_12,rr1_11,by omega⟩
    · unfold qr1x10
      go_simp
      obtain ⟨wr1_15,gr1_15,hwr1_15,hgr1_15,hbr1_15,rr1_15⟩:=fresh4 wr1_5
      rw [hwr1_15,hgr1_15]
      have hSr1_15:=below_next hSr1_5 hbr1_15
      have Gr1_15:Vr1_.heap.size≤gr1_15:=by have:=hSr1_5.size;omega
      refine hK.out _ _ hSr1_15 (fun h => ?_)
      clear h hK K hbr1_15 hwr1_15 hgr1_15
      (try simp only [pS])
      refine wpAnyH_ready (rs:=[9,11]) (by kernel_rfl) (by simp) ?_
      refine AllReadyH.cons (o:=qr1x9) rfl (fun K hK => ?_) (AllReadyH.cons (o:=qr1x11) rfl (fun K hK => ?_) (AllReadyH.nil))
      · unfold qr1x9
        go_simp
        (go_at_call 153;refine (c2 _).mono ?_;rintro e wr1_16 ⟨rfl,hbr1_16⟩)
        (try go_simp)
        have hSr1_16:=below_next hSr1_15 hbr1_16
        replace rr1_15:=rr1_15.still hbr1_16
        refine hK.out _ _ hSr1_16 (fun h => ?_)
        clear h hK K hbr1_16
        (try simp only [pS])
        refine wpAnyH_ready (rs:=[11]) (by kernel_rfl) (by simp) ?_
        refine AllReadyH.cons (o:=qr1x11) rfl (fun K hK => ?_) (AllReadyH.nil)
        unfold qr1x11
        go_simp
        obtain ⟨wr1_17,gr1_17,hwr1_17,hgr1_17,hbr1_17,rr1_17⟩:=fresh4 wr1_16
        rw [hwr1_17,hgr1_17]
        have hSr1_17:=below_next hSr1_16 hbr1_17
        have Gr1_17:Vr1_.heap.size≤gr1_17:=by have:=hSr1_16.size;omega
        have gr1_15_gr1_17:gr1_15≠gr1_17:=by have:=rr1_15.lt;omega
        replace rr1_15:=rr1_15.still hbr1_17
        refine hK.out _ _ hSr1_17 (fun h => ?_)
        clear h hK K hbr1_17 hwr1_17 hgr1_17
        (try simp only [pS])
        refine wpAnyH_ready (rs:=[12]) (by kernel_rfl) (by simp) ?_
        refine AllReadyH.cons (o:=qr1x12) rfl (fun K hK => ?_) (AllReadyH.nil)
        unfold qr1x12
        rw [if_pos (by rfl)]
        refine num_store _ _ rfl gr1_15 0 a rfl rfl rr1_15 hSr1_17 Gr1_15 (fun wr1_18 r0 hSr1_18 far => ?_)
        replace rr1_17:=far _ _ _ (by omega) rr1_17
        refine hK.out _ _ hSr1_18 (fun h => ?_)
        clear h hK K far rr1_15
        have rr1_15:=r0
        clear r0
        (try dsimp only [Act.put])
        refine wpAnyH_ready (rs:=[13]) (by kernel_rfl) (by simp) ?_
        refine AllReadyH.cons (o:=qr1x13) rfl (fun K hK => ?_) (AllReadyH.nil)
        unfold qr1x13
        rw [if_pos (by rfl)]
        refine num_store _ _ rfl gr1_17 0 b rfl rfl rr1_17 hSr1_18 Gr1_17 (fun wr1_19 r0 hSr1_19 far => ?_)
        replace rr1_15:=far _ _ _ (by omega) rr1_15
        refine hK.out _ _ hSr1_19 (fun h => ?_)
        clear h hK K far rr1_17
        have rr1_17:=r0
        clear r0
        (try dsimp only [Act.put])
        refine wpAnyH_done (by kernel_rfl) ?_ _
        refine NoPanic.normal ?_
        go_wp2
        go_meet
        case rel=>exact ⟨gr1_15,gr1_17,rfl,rfl,below_next hdrew hSr1_19,Nat.le_trans hdrew.size Gr1_15,Nat.le_trans hdrew.size Gr1_17,rr1_15,rr1_17,by omega⟩
      · unfold qr1x11
        go_simp
        obtain ⟨wr1_20,gr1_20,hwr1_20,hgr1_20,hbr1_20,rr1_20⟩:=fresh4 wr1_15
        rw [hwr1_20,hgr1_20]
        have hSr1_20:=below_next hSr1_15 hbr1_20
        have Gr1_20:Vr1_.heap.size≤gr1_20:=by have:=hSr1_15.size;omega
        have gr1_15_gr1_20:gr1_15≠gr1_20:=by have:=rr1_15.lt;omega
        replace rr1_15:=rr1_15.still hbr1_20
        refine hK.out _ _ hSr1_20 (fun h => ?_)
        clear h hK K hbr1_20 hwr1_20 hgr1_20
        (try simp only [pS])
        refine cl 9 (c2 _) ?_
        (rintro e wr1_21 ⟨rfl,hbr1_21⟩)
        have hSr1_21:=below_next hSr1_20 hbr1_21
        replace rr1_15:=rr1_15.still hbr1_21
        replace rr1_20:=rr1_20.still hbr1_21
        refine ⟨_,rfl,hSr1_21,?_⟩
        clear hbr1_21
        (try simp only [pS])
        refine wpAnyH_ready (rs:=[12]) (by kernel_rfl) (by simp) ?_
        refine AllReadyH.cons (o:=qr1x12) rfl (fun K hK => ?_) (AllReadyH.nil)
        unfold qr1x12
        rw [if_pos (by rfl)]
        refine num_store _ _ rfl gr1_15 0 a rfl rfl rr1_15 hSr1_21 Gr1_15 (fun wr1_22 r0 hSr1_22 far => ?_)
        replace rr1_20:=far _ _ _ (by omega) rr1_20
        refine hK.out _ _ hSr1_22 (fun h => ?_)
        clear h hK K far rr1_15
        have rr1_15:=r0
        clear r0
        (try dsimp only [Act.put])
        refine wpAnyH_ready (rs:=[13]) (by kernel_rfl) (by simp) ?_
        refine AllReadyH.cons (o:=qr1x13) rfl (fun K hK => ?_) (AllReadyH.nil)
        unfold qr1x13
        rw [if_pos (by rfl)]
        refine num_store _ _ rfl gr1_20 0 b rfl rfl rr1_20 hSr1_22 Gr1_20 (fun wr1_23 r0 hSr1_23 far => ?_)
        replace rr1_15:=far _ _ _ (by omega) rr1_15
        refine hK.out _ _ hSr1_23 (fun h => ?_)
        clear h hK K far rr1_20
        have rr1_20:=r0
        clear r0
        (try dsimp only [Act.put])
        refine wpAnyH_done (by kernel_rfl) ?_ _
        refine NoPanic.normal ?_
        go_wp2
        go_meet
        case rel=>exact ⟨gr1_15,gr1_20,rfl,rfl,below_next hdrew hSr1_23,Nat.le_trans hdrew.size Gr1_15,Nat.le_trans hdrew.size Gr1_20,rr1_15,rr1_20,by omega⟩
    · unfold qr1x11
      go_simp
      obtain ⟨wr1_24,gr1_24,hwr1_24,hgr1_24,hbr1_24,rr1_24⟩:=fresh4 wr1_5
      rw [hwr1_24,hgr1_24]
      have hSr1_24:=below_next hSr1_5 hbr1_24
      have Gr1_24:Vr1_.heap.size≤gr1_24:=by have:=hSr1_5.size;omega
      refine hK.out _ _ hSr1_24 (fun h => ?_)
      clear h hK K hbr1_24 hwr1_24 hgr1_24
      (try simp only [pS])
      refine wpAnyH_ready (rs:=[9,10]) (by kernel_rfl) (by simp) ?_
      refine AllReadyH.cons (o:=qr1x9) rfl (fun K hK => ?_) (AllReadyH.cons (o:=qr1x10) rfl (fun K hK => ?_) (AllReadyH.nil))
      · unfold qr1x9
        go_simp
        (go_at_call 153;refine (c2 _).mono ?_;rintro e wr1_25 ⟨rfl,hbr1_25⟩)
        (try go_simp)
        have hSr1_25:=below_next hSr1_24 hbr1_25
        replace rr1_24:=rr1_24.still hbr1_25
        refine hK.out _ _ hSr1_25 (fun h => ?_)
        clear h hK K hbr1_25
        (try simp only [pS])
        refine wpAnyH_ready (rs:=[10]) (by kernel_rfl) (by simp) ?_
        refine AllReadyH.cons (o:=qr1x10) rfl (fun K hK => ?_) (AllReadyH.nil)
        unfold qr1x10
        go_simp
        obtain ⟨wr1_26,gr1_26,hwr1_26,hgr1_26,hbr1_26,rr1_26⟩:=fresh4 wr1_25
        rw [hwr1_26,hgr1_26]
        have hSr1_26:=below_next hSr1_25 hbr1_26
        have Gr1_26:Vr1_.heap.size≤gr1_26:=by have:=hSr1_25.size;omega
        have gr1_24_gr1_26:gr1_24≠gr1_26:=by have:=rr1_24.lt;omega
        replace rr1_24:=rr1_24.still hbr1_26
        refine hK.out _ _ hSr1_26 (fun h => ?_)
        clear h hK K hbr1_26 hwr1_26 hgr1_26
        (try simp only [pS])
        refine wpAnyH_ready (rs:=[12]) (by kernel_rfl) (by simp) ?_
        refine AllReadyH.cons (o:=qr1x12) rfl (fun K hK => ?_) (AllReadyH.nil)
        unfold qr1x12
        rw [if_pos (by rfl)]
        refine num_store _ _ rfl gr1_26 0 a rfl rfl rr1_26 hSr1_26 Gr1_26 (fun wr1_27 r0 hSr1_27 far => ?_)
        replace rr1_24:=far _ _ _ (by omega) rr1_24
        refine hK.out _ _ hSr1_27 (fun h => ?_)
        clear h hK K far rr1_26
        have rr1_26:=r0
        clear r0
        (try dsimp only [Act.put])
        refine wpAnyH_ready (rs:=[13]) (by kernel_rfl) (by simp) ?_
        refine AllReadyH.cons (o:=qr1x13) rfl (fun K hK => ?_) (AllReadyH.nil)
        unfold qr1x13
        rw [if_pos (by rfl)]
        refine num_store _ _ rfl gr1_24 0 b rfl rfl rr1_24 hSr1_27 Gr1_24 (fun wr1_28 r0 hSr1_28 far => ?_)
        replace rr1_26:=far _ _ _ (by omega) rr1_26
        refine hK.out _ _ hSr1_28 (fun h => ?_)
        clear h hK K far rr1_24
        have rr1_24:=r0
        clear r0
        (try dsimp only [Act.put])
        refine wpAnyH_done (by kernel_rfl) ?_ _
        refine NoPanic.normal ?_
        go_wp2
        go_meet
        case rel=>exact ⟨gr1_26,gr1_24,rfl,rfl,below_next hdrew hSr1_28,Nat.le_trans hdrew.size Gr1_26,Nat.le_trans hdrew.size Gr1_24,rr1_26,rr1_24,by omega⟩
      · unfold qr1x10
        go_simp
        obtain ⟨wr1_29,gr1_29,hwr1_29,hgr1_29,hbr1_29,rr1_29⟩:=fresh4 wr1_24
        rw [hwr1_29,hgr1_29]
        have hSr1_29:=below_next hSr1_24 hbr1_29
        have Gr1_29:Vr1_.heap.size≤gr1_29:=by have:=hSr1_24.size;omega
        have gr1_24_gr1_29:gr1_24≠gr1_29:=by have:=rr1_24.lt;omega
        replace rr1_24:=rr1_24.still hbr1_29
        refine hK.out _ _ hSr1_29 (fun h => ?_)
        clear h hK K hbr1_29 hwr1_29 hgr1_29
        (try simp only [pS])
        refine cl 9 (c2 _) ?_
        (rintro e wr1_30 ⟨rfl,hbr1_30⟩)
        have hSr1_30:=below_next hSr1_29 hbr1_30
        replace rr1_24:=rr1_24.still hbr1_30
        replace rr1_29:=rr1_29.still hbr1_30
        refine ⟨_,rfl,hSr1_30,?_⟩
        clear hbr1_30
        (try simp only [pS])
        refine wpAnyH_ready (rs:=[12]) (by kernel_rfl) (by simp) ?_
        refine AllReadyH.cons (o:=qr1x12) rfl (fun K hK => ?_) (AllReadyH.nil)
        unfold qr1x12
        rw [if_pos (by rfl)]
        refine num_store _ _ rfl gr1_29 0 a rfl rfl rr1_29 hSr1_30 Gr1_29 (fun wr1_31 r0 hSr1_31 far => ?_)
        replace rr1_24:=far _ _ _ (by omega) rr1_24
        refine hK.out _ _ hSr1_31 (fun h => ?_)
        clear h hK K far rr1_29
        have rr1_29:=r0
        clear r0
        (try dsimp only [Act.put])
        refine wpAnyH_ready (rs:=[13]) (by kernel_rfl) (by simp) ?_
        refine AllReadyH.cons (o:=qr1x13) rfl (fun K hK => ?_) (AllReadyH.nil)
        unfold qr1x13
        rw [if_pos (by rfl)]
        refine num_store _ _ rfl gr1_24 0 b rfl rfl rr1_24 hSr1_31 Gr1_24 (fun wr1_32 r0 hSr1_32 far => ?_)
        replace rr1_29:=far _ _ _ (by omega) rr1_29
        refine hK.out _ _ hSr1_32 (fun h => ?_)
        clear h hK K far rr1_24
        have rr1_24:=r0
        clear r0
        (try dsimp only [Act.put])
        refine wpAnyH_done (by kernel_rfl) ?_ _
        refine NoPanic.normal ?_
        go_wp2
        go_meet
        case rel=>exact ⟨gr1_29,gr1_24,rfl,rfl,below_next hdrew hSr1_32,Nat.le_trans hdrew.size Gr1_29,Nat.le_trans hdrew.size Gr1_24,rr1_29,rr1_24,by omega⟩
  · unfold qr1x10
    go_simp
    obtain ⟨wr1_33,gr1_33,hwr1_33,hgr1_33,hbr1_33,rr1_33⟩:=fresh4 Vr1_
    rw [hwr1_33,hgr1_33]
    have hSr1_33:=below_next hS hbr1_33
    have Gr1_33:Vr1_.heap.size≤gr1_33:=by have:=hS.size;omega
    refine hK.out _ _ hSr1_33 (fun h => ?_)
    clear h hK K hbr1_33 hwr1_33 hgr1_33
    (try simp only [pS])
    refine wpAnyH_ready (rs:=[4,11]) (by kernel_rfl) (by simp) ?_
    refine AllReadyH.cons (o:=qr1x4) rfl (fun K hK => ?_) (AllReadyH.cons (o:=qr1x11) rfl (fun K hK => ?_) (AllReadyH.nil))
    · unfold qr1x4
      go_simp
      (go_at_call 152;refine (c1 _).mono ?_;rintro e wr1_34 ⟨rfl,hbr1_34⟩)
      (try go_simp)
      have hSr1_34:=below_next hSr1_33 hbr1_34
      replace rr1_33:=rr1_33.still hbr1_34
      refine hK.out _ _ hSr1_34 (fun h => ?_)
      clear h hK K hbr1_34
      (try simp only [pS])
      refine wpAnyH_ready (rs:=[9,11]) (by kernel_rfl) (by simp) ?_
      refine AllReadyH.cons (o:=qr1x9) rfl (fun K hK => ?_) (AllReadyH.cons (o:=qr1x11) rfl (fun K hK => ?_) (AllReadyH.nil))
      · unfold qr1x9
        go_simp
        (go_at_call 153;refine (c2 _).mono ?_;rintro e wr1_35 ⟨rfl,hbr1_35⟩)
        (try go_simp)
        have hSr1_35:=below_next hSr1_34 hbr1_35
        replace rr1_33:=rr1_33.still hbr1_35
        refine hK.out _ _ hSr1_35 (fun h => ?_)
        clear h hK K hbr1_35
        (try simp only [pS])
        refine wpAnyH_ready (rs:=[11]) (by kernel_rfl) (by simp) ?_
        refine AllReadyH.cons (o:=qr1x11) rfl (fun K hK => ?_) (AllReadyH.nil)
        unfold qr1x11
        go_simp
        obtain ⟨wr1_36,gr1_36,hwr1_36,hgr1_36,hbr1_36,rr1_36⟩:=fresh4 wr1_35
        rw [hwr1_36,hgr1_36]
        have hSr1_36:=below_next hSr1_35 hbr1_36
        have Gr1_36:Vr1_.heap.size≤gr1_36:=by have:=hSr1_35.size;omega
        have gr1_33_gr1_36:gr1_33≠gr1_36:=by have:=rr1_33.lt;omega
        replace rr1_33:=rr1_33.still hbr1_36
        refine hK.out _ _ hSr1_36 (fun h => ?_)
        clear h hK K hbr1_36 hwr1_36 hgr1_36
        (try simp only [pS])
        refine wpAnyH_ready (rs:=[12]) (by kernel_rfl) (by simp) ?_
        refine AllReadyH.cons (o:=qr1x12) rfl (fun K hK => ?_) (AllReadyH.nil)
        unfold qr1x12
        rw [if_pos (by rfl)]
        refine num_store _ _ rfl gr1_33 0 a rfl rfl rr1_33 hSr1_36 Gr1_33 (fun wr1_37 r0 hSr1_37 far => ?_)
        replace rr1_36:=far _ _ _ (by omega) rr1_36
        refine hK.out _ _ hSr1_37 (fun h => ?_)
        clear h hK K far rr1_33
        have rr1_33:=r0
        clear r0
        (try dsimp only [Act.put])
        refine wpAnyH_ready (rs:=[13]) (by kernel_rfl) (by simp) ?_
        refine AllReadyH.cons (o:=qr1x13) rfl (fun K hK => ?_) (AllReadyH.nil)
        unfold qr1x13
        rw [if_pos (by rfl)]
        refine num_store _ _ rfl gr1_36 0 b rfl rfl rr1_36 hSr1_37 Gr1_36 (fun wr1_38 r0 hSr1_38 far => ?_)
        replace rr1_33:=far _ _ _ (by omega) rr1_33
        refine hK.out _ _ hSr1_38 (fun h => ?_)
        clear h hK K far rr1_36
        have rr1_36:=r0
        clear r0
        (try dsimp only [Act.put])
        refine wpAnyH_done (by kernel_rfl) ?_ _
        refine NoPanic.normal ?_
        go_wp2
        go_meet
        case rel=>exact ⟨gr1_33,gr1_36,rfl,rfl,below_next hdrew hSr1_38,Nat.le_trans hdrew.size Gr1_33,Nat.le_trans hdrew.size Gr1_36,rr1_33,rr1_36,by omega⟩
      · unfold qr1x11
        go_simp
        obtain ⟨wr1_39,gr1_39,hwr1_39,hgr1_39,hbr1_39,rr1_39⟩:=fresh4 wr1_34
        rw [hwr1_39,hgr1_39]
        have hSr1_39:=below_next hSr1_34 hbr1_39
        have Gr1_39:Vr1_.heap.size≤gr1_39:=by have:=hSr1_34.size;omega
        have gr1_33_gr1_39:gr1_33≠gr1_39:=by have:=rr1_33.lt;omega
        replace rr1_33:=rr1_33.still hbr1_39
        refine hK.out _ _ hSr1_39 (fun h => ?_)
        clear h hK K hbr1_39 hwr1_39 hgr1_39
        (try simp only [pS])
        refine cl 9 (c2 _) ?_
        (rintro e wr1_40 ⟨rfl,hbr1_40⟩)
        have hSr1_40:=below_next hSr1_39 hbr1_40
        replace rr1_33:=rr1_33.still hbr1_40
        replace rr1_39:=rr1_39.still hbr1_40
        refine ⟨_,rfl,hSr1_40,?_⟩
        clear hbr1_40
        (try simp only [pS])
        refine wpAnyH_ready (rs:=[12]) (by kernel_rfl) (by simp) ?_
        refine AllReadyH.cons (o:=qr1x12) rfl (fun K hK => ?_) (AllReadyH.nil)
        unfold qr1x12
        rw [if_pos (by rfl)]
        refine num_store _ _ rfl gr1_33 0 a rfl rfl rr1_33 hSr1_40 Gr1_33 (fun wr1_41 r0 hSr1_41 far => ?_)
        replace rr1_39:=far _ _ _ (by omega) rr1_39
        refine hK.out _ _ hSr1_41 (fun h => ?_)
        clear h hK K far rr1_33
        have rr1_33:=r0
        clear r0
        (try dsimp only [Act.put])
        refine wpAnyH_ready (rs:=[13]) (by kernel_rfl) (by simp) ?_
        refine AllReadyH.cons (o:=qr1x13) rfl (fun K hK => ?_) (AllReadyH.nil)
        unfold qr1x13
        rw [if_pos (by rfl)]
        refine num_store _ _ rfl gr1_39 0 b rfl rfl rr1_39 hSr1_41 Gr1_39 (fun wr1_42 r0 hSr1_42 far => ?_)
        replace rr1_33:=far _ _ _ (by omega) rr1_33
        refine hK.out _ _ hSr1_42 (fun h => ?_)
        clear h hK K far rr1_39
        have rr1_39:=r0
        clear r0
        (try dsimp only [Act.put])
        refine wpAnyH_done (by kernel_rfl) ?_ _
        refine NoPanic.normal ?_
        go_wp2
        go_meet
        case rel=>exact ⟨gr1_33,gr1_39,rfl,rfl,below_next hdrew hSr1_42,Nat.le_trans hdrew.size Gr1_33,Nat.le_trans hdrew.size Gr1_39,rr1_33,rr1_39,by omega⟩
    · unfold qr1x11
      go_simp
      obtain ⟨wr1_43,gr1_43,hwr1_43,hgr1_43,hbr1_43,rr1_43⟩:=fresh4 wr1_33
      rw [hwr1_43,hgr1_43]
      have hSr1_43:=below_next hSr1_33 hbr1_43
      have Gr1_43:Vr1_.heap.size≤gr1_43:=by have:=hSr1_33.size;omega
      have gr1_33_gr1_43:gr1_33≠gr1_43:=by have:=rr1_33.lt;omega
      replace rr1_33:=rr1_33.still hbr1_43
      refine hK.out _ _ hSr1_43 (fun h => ?_)
      clear h hK K hbr1_43 hwr1_43 hgr1_43
      (try simp only [pS])
      refine cl 4 (c1 _) ?_
      (rintro e wr1_44 ⟨rfl,hbr1_44⟩)
      have hSr1_44:=below_next hSr1_43 hbr1_44
      replace rr1_33:=rr1_33.still hbr1_44
      replace rr1_43:=rr1_43.still hbr1_44
      refine ⟨_,rfl,hSr1_44,?_⟩
      clear hbr1_44
      (try simp only [pS])
      refine cl 9 (c2 _) ?_
      (rintro e wr1_45 ⟨rfl,hbr1_45⟩)
      have hSr1_45:=below_next hSr1_44 hbr1_45
      replace rr1_33:=rr1_33.still hbr1_45
      replace rr1_43:=rr1_43.still hbr1_45
      refine ⟨_,rfl,hSr1_45,?_⟩
      clear hbr1_45
      (try simp only [pS])
      refine wpAnyH_ready (rs:=[12]) (by kernel_rfl) (by simp) ?_
      refine AllReadyH.cons (o:=qr1x12) rfl (fun K hK => ?_) (AllReadyH.nil)
      unfold qr1x12
      rw [if_pos (by rfl)]
      refine num_store _ _ rfl gr1_33 0 a rfl rfl rr1_33 hSr1_45 Gr1_33 (fun wr1_46 r0 hSr1_46 far => ?_)
      replace rr1_43:=far _ _ _ (by omega) rr1_43
      refine hK.out _ _ hSr1_46 (fun h => ?_)
      clear h hK K far rr1_33
      have rr1_33:=r0
      clear r0
      (try dsimp only [Act.put])
      refine wpAnyH_ready (rs:=[13]) (by kernel_rfl) (by simp) ?_
      refine AllReadyH.cons (o:=qr1x13) rfl (fun K hK => ?_) (AllReadyH.nil)
      unfold qr1x13
      rw [if_pos (by rfl)]
      refine num_store _ _ rfl gr1_43 0 b rfl rfl rr1_43 hSr1_46 Gr1_43 (fun wr1_47 r0 hSr1_47 far => ?_)
      replace rr1_33:=far _ _ _ (by omega) rr1_33
      refine hK.out _ _ hSr1_47 (fun h => ?_)
      clear h hK K far rr1_43
      have rr1_43:=r0
      clear r0
      (try dsimp only [Act.put])
      refine wpAnyH_done (by kernel_rfl) ?_ _
      refine NoPanic.normal ?_
      go_wp2
      go_meet
      case rel=>exact ⟨gr1_33,gr1_43,rfl,rfl,below_next hdrew hSr1_47,Nat.le_trans hdrew.size Gr1_33,Nat.le_trans hdrew.size Gr1_43,rr1_33,rr1_43,by omega⟩
  · unfold qr1x11
    go_simp
    obtain ⟨wr1_48,gr1_48,hwr1_48,hgr1_48,hbr1_48,rr1_48⟩:=fresh4 Vr1_
    rw [hwr1_48,hgr1_48]
    have hSr1_48:=below_next hS hbr1_48
    have Gr1_48:Vr1_.heap.size≤gr1_48:=by have:=hS.size;omega
    refine hK.out _ _ hSr1_48 (fun h => ?_)
    clear h hK K hbr1_48 hwr1_48 hgr1_48
    (try simp only [pS])
    refine wpAnyH_ready (rs:=[4,10]) (by kernel_rfl) (by simp) ?_
    refine AllReadyH.cons (o:=qr1x4) rfl (fun K hK => ?_) (AllReadyH.cons (o:=qr1x10) rfl (fun K hK => ?_) (AllReadyH.nil))
    · unfold qr1x4
      go_simp
      (go_at_call 152;refine (c1 _).mono ?_;rintro e wr1_49 ⟨rfl,hbr1_49⟩)
      (try go_simp)
      have hSr1_49:=below_next hSr1_48 hbr1_49
      replace rr1_48:=rr1_48.still hbr1_49
      refine hK.out _ _ hSr1_49 (fun h => ?_)
      clear h hK K hbr1_49
      (try simp only [pS])
      refine wpAnyH_ready (rs:=[9,10]) (by kernel_rfl) (by simp) ?_
      refine AllReadyH.cons (o:=qr1x9) rfl (fun K hK => ?_) (AllReadyH.cons (o:=qr1x10) rfl (fun K hK => ?_) (AllReadyH.nil))
      · unfold qr1x9
        go_simp
        (go_at_call 153;refine (c2 _).mono ?_;rintro e wr1_50 ⟨rfl,hbr1_50⟩)
        (try go_simp)
        have hSr1_50:=below_next hSr1_49 hbr1_50
        replace rr1_48:=rr1_48.still hbr1_50
        refine hK.out _ _ hSr1_50 (fun h => ?_)
        clear h hK K hbr1_50
        (try simp only [pS])
        refine wpAnyH_ready (rs:=[10]) (by kernel_rfl) (by simp) ?_
        refine AllReadyH.cons (o:=qr1x10) rfl (fun K hK => ?_) (AllReadyH.nil)
        unfold qr1x10
        go_simp
        obtain ⟨wr1_51,gr1_51,hwr1_51,hgr1_51,hbr1_51,rr1_51⟩:=fresh4 wr1_50
        rw [hwr1_51,hgr1_51]
        have hSr1_51:=below_next hSr1_50 hbr1_51
        have Gr1_51:Vr1_.heap.size≤gr1_51:=by have:=hSr1_50.size;omega
        have gr1_48_gr1_51:gr1_48≠gr1_51:=by have:=rr1_48.lt;omega
        replace rr1_48:=rr1_48.still hbr1_51
        refine hK.out _ _ hSr1_51 (fun h => ?_)
        clear h hK K hbr1_51 hwr1_51 hgr1_51
        (try simp only [pS])
        refine wpAnyH_ready (rs:=[12]) (by kernel_rfl) (by simp) ?_
        refine AllReadyH.cons (o:=qr1x12) rfl (fun K hK => ?_) (AllReadyH.nil)
        unfold qr1x12
        rw [if_pos (by rfl)]
        refine num_store _ _ rfl gr1_51 0 a rfl rfl rr1_51 hSr1_51 Gr1_51 (fun wr1_52 r0 hSr1_52 far => ?_)
        replace rr1_48:=far _ _ _ (by omega) rr1_48
        refine hK.out _ _ hSr1_52 (fun h => ?_)
        clear h hK K far rr1_51
        have rr1_51:=r0
        clear r0
        (try dsimp only [Act.put])
        refine wpAnyH_ready (rs:=[13]) (by kernel_rfl) (by simp) ?_
        refine AllReadyH.cons (o:=qr1x13) rfl (fun K hK => ?_) (AllReadyH.nil)
        unfold qr1x13
        rw [if_pos (by rfl)]
        refine num_store _ _ rfl gr1_48 0 b rfl rfl rr1_48 hSr1_52 Gr1_48 (fun wr1_53 r0 hSr1_53 far => ?_)
        replace rr1_51:=far _ _ _ (by omega) rr1_51
        refine hK.out _ _ hSr1_53 (fun h => ?_)
        clear h hK K far rr1_48
        have rr1_48:=r0
        clear r0
        (try dsimp only [Act.put])
        refine wpAnyH_done (by kernel_rfl) ?_ _
        refine NoPanic.normal ?_
        go_wp2
        go_meet
        case rel=>exact ⟨gr1_51,gr1_48,rfl,rfl,below_next hdrew hSr1_53,Nat.le_trans hdrew.size Gr1_51,Nat.le_trans hdrew.size Gr1_48,rr1_51,rr1_48,by omega⟩
      · unfold qr1x10
        go_simp
        obtain ⟨wr1_54,gr1_54,hwr1_54,hgr1_54,hbr1_54,rr1_54⟩:=fresh4 wr1_49
        rw [hwr1_54,hgr1_54]
        have hSr1_54:=below_next hSr1_49 hbr1_54
        have Gr1_54:Vr1_.heap.size≤gr1_54:=by have:=hSr1_49.size;omega
        have gr1_48_gr1_54:gr1_48≠gr1_54:=by have:=rr1_48.lt;omega
        replace rr1_48:=rr1_48.still hbr1_54
        refine hK.out _ _ hSr1_54 (fun h => ?_)
        clear h hK K hbr1_54 hwr1_54 hgr1_54
        (try simp only [pS])
        refine cl 9 (c2 _) ?_
        (rintro e wr1_55 ⟨rfl,hbr1_55⟩)
        have hSr1_55:=below_next hSr1_54 hbr1_55
        replace rr1_48:=rr1_48.still hbr1_55
        replace rr1_54:=rr1_54.still hbr1_55
        refine ⟨_,rfl,hSr1_55,?_⟩
        clear hbr1_55
        (try simp only [pS])
        refine wpAnyH_ready (rs:=[12]) (by kernel_rfl) (by simp) ?_
        refine AllReadyH.cons (o:=qr1x12) rfl (fun K hK => ?_) (AllReadyH.nil)
        unfold qr1x12
        rw [if_pos (by rfl)]
        refine num_store _ _ rfl gr1_54 0 a rfl rfl rr1_54 hSr1_55 Gr1_54 (fun wr1_56 r0 hSr1_56 far => ?_)
        replace rr1_48:=far _ _ _ (by omega) rr1_48
        refine hK.out _ _ hSr1_56 (fun h => ?_)
        clear h hK K far rr1_54
        have rr1_54:=r0
        clear r0
        (try dsimp only [Act.put])
        refine wpAnyH_ready (rs:=[13]) (by kernel_rfl) (by simp) ?_
        refine AllReadyH.cons (o:=qr1x13) rfl (fun K hK => ?_) (AllReadyH.nil)
        unfold qr1x13
        rw [if_pos (by rfl)]
        refine num_store _ _ rfl gr1_48 0 b rfl rfl rr1_48 hSr1_56 Gr1_48 (fun wr1_57 r0 hSr1_57 far => ?_)
        replace rr1_54:=far _ _ _ (by omega) rr1_54
        refine hK.out _ _ hSr1_57 (fun h => ?_)
        clear h hK K far rr1_48
        have rr1_48:=r0
        clear r0
        (try dsimp only [Act.put])
        refine wpAnyH_done (by kernel_rfl) ?_ _
        refine NoPanic.normal ?_
        go_wp2
        go_meet
        case rel=>exact ⟨gr1_54,gr1_48,rfl,rfl,below_next hdrew hSr1_57,Nat.le_trans hdrew.size Gr1_54,Nat.le_trans hdrew.size Gr1_48,rr1_54,rr1_48,by omega⟩
    · unfold qr1x10
      go_simp
      obtain ⟨wr1_58,gr1_58,hwr1_58,hgr1_58,hbr1_58,rr1_58⟩:=fresh4 wr1_48
      rw [hwr1_58,hgr1_58]
      have hSr1_58:=below_next hSr1_48 hbr1_58
      have Gr1_58:Vr1_.heap.size≤gr1_58:=by have:=hSr1_48.size;omega
      have gr1_48_gr1_58:gr1_48≠gr1_58:=by have:=rr1_48.lt;omega
      replace rr1_48:=rr1_48.still hbr1_58
      refine hK.out _ _ hSr1_58 (fun h => ?_)
      clear h hK K hbr1_58 hwr1_58 hgr1_58
      (try simp only [pS])
      refine cl 4 (c1 _) ?_
      (rintro e wr1_59 ⟨rfl,hbr1_59⟩)
      have hSr1_59:=below_next hSr1_58 hbr1_59
      replace rr1_48:=rr1_48.still hbr1_59
      replace rr1_58:=rr1_58.still hbr1_59
      refine ⟨_,rfl,hSr1_59,?_⟩
      clear hbr1_59
      (try simp only [pS])
      refine cl 9 (c2 _) ?_
      (rintro e wr1_60 ⟨rfl,hbr1_60⟩)
      have hSr1_60:=below_next hSr1_59 hbr1_60
      replace rr1_48:=rr1_48.still hbr1_60
      replace rr1_58:=rr1_58.still hbr1_60
      refine ⟨_,rfl,hSr1_60,?_⟩
      clear hbr1_60
      (try simp only [pS])
      refine wpAnyH_ready (rs:=[12]) (by kernel_rfl) (by simp) ?_
      refine AllReadyH.cons (o:=qr1x12) rfl (fun K hK => ?_) (AllReadyH.nil)
      unfold qr1x12
      rw [if_pos (by rfl)]
      refine num_store _ _ rfl gr1_58 0 a rfl rfl rr1_58 hSr1_60 Gr1_58 (fun wr1_61 r0 hSr1_61 far => ?_)
      replace rr1_48:=far _ _ _ (by omega) rr1_48
      refine hK.out _ _ hSr1_61 (fun h => ?_)
      clear h hK K far rr1_58
      have rr1_58:=r0
      clear r0
      (try dsimp only [Act.put])
      refine wpAnyH_ready (rs:=[13]) (by kernel_rfl) (by simp) ?_
      refine AllReadyH.cons (o:=qr1x13) rfl (fun K hK => ?_) (AllReadyH.nil)
      unfold qr1x13
      rw [if_pos (by rfl)]
      refine num_store _ _ rfl gr1_48 0 b rfl rfl rr1_48 hSr1_61 Gr1_48 (fun wr1_62 r0 hSr1_62 far => ?_)
      replace rr1_58:=far _ _ _ (by omega) rr1_58
      refine hK.out _ _ hSr1_62 (fun h => ?_)
      clear h hK K far rr1_48
      have rr1_48:=r0
      clear r0
      (try dsimp only [Act.put])
      refine wpAnyH_done (by kernel_rfl) ?_ _
      refine NoPanic.normal ?_
      go_wp2
      go_meet
      case rel=>exact ⟨gr1_58,gr1_48,rfl,rfl,below_next hdrew hSr1_62,Nat.le_trans hdrew.size Gr1_58,Nat.le_trans hdrew.size Gr1_48,rr1_58,rr1_48,by omega⟩
 case rest =>
 obtain ⟨g4,g5,rfl,rfl,hb4,G4,G5,h4,h5,ne4⟩:=hcut
 replace hp:=hp.still hb4
 replace hq:=hq.still hb4
 replace hu:=hu.still hb4
 obtain ⟨W1,hW1⟩:∃ W,W=wc:=⟨_,rfl⟩
 rw [←hW1]
 rw [←hW1] at hp
 rw [←hW1] at hq
 rw [←hW1] at hu
 rw [←hW1] at h4
 rw [←hW1] at h5
 rw [←hW1] at hb4
 have lt1:W1.heap.size≤W1.heap.size:=Nat.le_refl _
 clear hW1
 go_wp2
 go_cut [6,7] from 15 (fun s6 s7 wc=>∃ g6 g7,s6 = .pointer (some ⟨g6,0,none⟩)∧s7 = .pointer (some ⟨g7,0,none⟩)∧Below W1.heap.size W1 wc∧W1.heap.size≤g6∧W1.heap.size≤g7∧RW wc g6 0 (c4 c)∧RW wc g7 0 (c4 d)∧g6≠g7)
 case first =>
  clear c1 c2 c5 c6 c7 c8h c9 c10 c11 c12 c13 c14 c15 c16 c17 c18 c19
  have hdrew:Below W1.heap.size W1 W1.drew:=(Below.refl _ _).drew
  replace hp:=hp.still hdrew
  replace hq:=hq.still hdrew
  replace hu:=hu.still hdrew
  replace h4:=h4.still hdrew
  replace h5:=h5.still hdrew
  refine wp_region_noPanic ?_
  refine wp_region_held_drew (S:=fun w'=>Below W1.drew.heap.size W1.drew w') (by kernel_rfl) (Below.refl _ _) (fun hS => ?_)
  generalize W1.drew=Vr2_ at *
  refine tg 0 hS ?_
  (try simp only [pS])
  refine tg 1 hS ?_
  (try simp only [pS])
  refine tk 2 (pA g 8) hS (hy:=yR) (h := ?_)
  (try simp only [pS])
  refine tk 3 (ratV xh zh) hS (hy:=(ldH hq 146 27 Tryz.underlying146 info8)) (h := ?_)
  (try simp only [pS])
  refine tg 5 hS ?_
  (try simp only [pS])
  refine tg 6 hS ?_
  (try simp only [pS])
  refine tk 7 (pA g 8) hS (hy:=yR) (h := ?_)
  (try simp only [pS])
  refine tk 8 (ratV xh zh) hS (hy:=(ldH hq 146 32 Tryz.underlying146 info8)) (h := ?_)
  (try simp only [pS])
  refine wpAnyH_ready (rs:=[4,10,11]) (by kernel_rfl) (by simp) ?_
  refine AllReadyH.cons (o:=qr2x4) rfl (fun K hK => ?_) (AllReadyH.cons (o:=qr2x10) rfl (fun K hK => ?_) (AllReadyH.cons (o:=qr2x11) rfl (fun K hK => ?_) (AllReadyH.nil)))
  · unfold qr2x4
    go_simp
    (go_at_call 152;refine (c3 _).mono ?_;rintro e wr2_5 ⟨rfl,hbr2_5⟩)
    (try go_simp)
    have hSr2_5:=below_next hS hbr2_5
    refine hK.out _ _ hSr2_5 (fun h => ?_)
    clear h hK K hbr2_5
    (try simp only [pS])
    refine wpAnyH_ready (rs:=[9,10,11]) (by kernel_rfl) (by simp) ?_
    refine AllReadyH.cons (o:=qr2x9) rfl (fun K hK => ?_) (AllReadyH.cons (o:=qr2x10) rfl (fun K hK => ?_) (AllReadyH.cons (o:=qr2x11) rfl (fun K hK => ?_) (AllReadyH.nil)))
    · unfold qr2x9
      go_simp
      (go_at_call 153;refine (c4h _).mono ?_;rintro e wr2_6 ⟨rfl,hbr2_6⟩)
      (try go_simp)
      have hSr2_6:=below_next hSr2_5 hbr2_6
      refine hK.out _ _ hSr2_6 (fun h => ?_)
      clear h hK K hbr2_6
      (try simp only [pS])
      refine wpAnyH_ready (rs:=[10,11]) (by kernel_rfl) (by simp) ?_
      refine AllReadyH.cons (o:=qr2x10) rfl (fun K hK => ?_) (AllReadyH.cons (o:=qr2x11) rfl (fun K hK => ?_) (AllReadyH.nil))
      · unfold qr2x10
        go_simp
        obtain ⟨wr2_7,gr2_7,hwr2_7,hgr2_7,hbr2_7,rr2_7⟩:=fresh4 wr2_6
        rw [hwr2_7,hgr2_7]
        have hSr2_7:=below_next hSr2_6 hbr2_7
        have Gr2_7:Vr2_.heap.size≤gr2_7:=by have:=hSr2_6.size;omega
        refine hK.out _ _ hSr2_7 (fun h => ?_)
        clear h hK K hbr2_7 hwr2_7 hgr2_7
        (try simp only [pS])
        refine wpAnyH_ready (rs:=[11]) (by kernel_rfl) (by simp) ?_
        refine AllReadyH.cons (o:=qr2x11) rfl (fun K hK => ?_) (AllReadyH.nil)
        unfold qr2x11
        go_simp
        obtain ⟨wr2_8,gr2_8,hwr2_8,hgr2_8,hbr2_8,rr2_8⟩:=fresh4 wr2_7
        rw [hwr2_8,hgr2_8]
        have hSr2_8:=below_next hSr2_7 hbr2_8
        have Gr2_8:Vr2_.heap.size≤gr2_8:=by have:=hSr2_7.size;omega
        have gr2_7_gr2_8:gr2_7≠gr2_8:=by have:=rr2_7.lt;omega
        replace rr2_7:=rr2_7.still hbr2_8
        refine hK.out _ _ hSr2_8 (fun h => ?_)
        clear h hK K hbr2_8 hwr2_8 hgr2_8
        (try simp only [pS])
        refine wpAnyH_ready (rs:=[12]) (by kernel_rfl) (by simp) ?_
        refine AllReadyH.cons (o:=qr2x12) rfl (fun K hK => ?_) (AllReadyH.nil)
        unfold qr2x12
        rw [if_pos (by rfl)]
        refine num_store _ _ rfl gr2_7 0 c rfl rfl rr2_7 hSr2_8 Gr2_7 (fun wr2_9 r0 hSr2_9 far => ?_)
        replace rr2_8:=far _ _ _ (by omega) rr2_8
        refine hK.out _ _ hSr2_9 (fun h => ?_)
        clear h hK K far rr2_7
        have rr2_7:=r0
        clear r0
        (try dsimp only [Act.put])
        refine wpAnyH_ready (rs:=[13]) (by kernel_rfl) (by simp) ?_
        refine AllReadyH.cons (o:=qr2x13) rfl (fun K hK => ?_) (AllReadyH.nil)
        unfold qr2x13
        rw [if_pos (by rfl)]
        refine num_store _ _ rfl gr2_8 0 d rfl rfl rr2_8 hSr2_9 Gr2_8 (fun wr2_10 r0 hSr2_10 far => ?_)
        replace rr2_7:=far _ _ _ (by omega) rr2_7
        refine hK.out _ _ hSr2_10 (fun h => ?_)
        clear h hK K far rr2_8
        have rr2_8:=r0
        clear r0
        (try dsimp only [Act.put])
        refine wpAnyH_done (by kernel_rfl) ?_ _
        refine NoPanic.normal ?_
        go_wp2
        go_meet
        case rel=>exact ⟨gr2_7,gr2_8,rfl,rfl,below_next hdrew hSr2_10,Nat.le_trans hdrew.size Gr2_7,Nat.le_trans hdrew.size Gr2_8,rr2_7,rr2_8,by omega⟩
      · unfold qr2x11
        go_simp
        obtain ⟨wr2_11,gr2_11,hwr2_11,hgr2_11,hbr2_11,rr2_11⟩:=fresh4 wr2_6
        rw [hwr2_11,hgr2_11]
        have hSr2_11:=below_next hSr2_6 hbr2_11
        have Gr2_11:Vr2_.heap.size≤gr2_11:=by have:=hSr2_6.size;omega
        refine hK.out _ _ hSr2_11 (fun h => ?_)
        clear h hK K hbr2_11 hwr2_11 hgr2_11
        (try simp only [pS])
        refine wpAnyH_ready (rs:=[10]) (by kernel_rfl) (by simp) ?_
        refine AllReadyH.cons (o:=qr2x10) rfl (fun K hK => ?_) (AllReadyH.nil)
        unfold qr2x10
        go_simp
        obtain ⟨wr2_12,gr2_12,hwr2_12,hgr2_12,hbr2_12,rr2_12⟩:=fresh4 wr2_11
        rw [hwr2_12,hgr2_12]
        have hSr2_12:=below_next hSr2_11 hbr2_12
        have Gr2_12:Vr2_.heap.size≤gr2_12:=by have:=hSr2_11.size;omega
        have gr2_11_gr2_12:gr2_11≠gr2_12:=by have:=rr2_11.lt;omega
        replace rr2_11:=rr2_11.still hbr2_12
        refine hK.out _ _ hSr2_12 (fun h => ?_)
        clear h hK K hbr2_12 hwr2_12 hgr2_12
        (try simp only [pS])
        refine wpAnyH_ready (rs:=[12]) (by kernel_rfl) (by simp) ?_
        refine AllReadyH.cons (o:=qr2x12) rfl (fun K hK => ?_) (AllReadyH.nil)
        unfold qr2x12
        rw [if_pos (by rfl)]
        refine num_store _ _ rfl gr2_12 0 c rfl rfl rr2_12 hSr2_12 Gr2_12 (fun wr2_13 r0 hSr2_13 far => ?_)
        replace rr2_11:=far _ _ _ (by omega) rr2_11
        refine hK.out _ _ hSr2_13 (fun h => ?_)
        clear h hK K far rr2_12
        have rr2_12:=r0
        clear r0
        (try dsimp only [Act.put])
        refine wpAnyH_ready (rs:=[13]) (by kernel_rfl) (by simp) ?_
        refine AllReadyH.cons (o:=qr2x13) rfl (fun K hK => ?_) (AllReadyH.nil)
        unfold qr2x13
        rw [if_pos (by rfl)]
        refine num_store _ _ rfl gr2_11 0 d rfl rfl rr2_11 hSr2_13 Gr2_11 (fun wr2_14 r0 hSr2_14 far => ?_)
        replace rr2_12:=far _ _ _ (by omega) rr2_12
        refine hK.out _ _ hSr2_14 (fun h => ?_)
        clear h hK K far rr2_11
        have rr2_11:=r0
        clear r0
        (try dsimp only [Act.put])
        refine wpAnyH_done (by kernel_rfl) ?_ _
        refine NoPanic.normal ?_
        go_wp2
        go_meet
        case rel=>exact ⟨gr2_12,gr2_11,rfl,rfl,below_next hdrew hSr2_14,Nat.le_trans hdrew.size Gr2_12,Nat.le_trans hdrew.size Gr2_11,rr2_12,rr2_11,by omega⟩
    · unfold qr2x10
      go_simp
      obtain ⟨wr2_15,gr2_15,hwr2_15,hgr2_15,hbr2_15,rr2_15⟩:=fresh4 wr2_5
      rw [hwr2_15,hgr2_15]
      have hSr2_15:=below_next hSr2_5 hbr2_15
      have Gr2_15:Vr2_.heap.size≤gr2_15:=by have:=hSr2_5.size;omega
      refine hK.out _ _ hSr2_15 (fun h => ?_)
      clear h hK K hbr2_15 hwr2_15 hgr2_15
      (try simp only [pS])
      refine wpAnyH_ready (rs:=[9,11]) (by kernel_rfl) (by simp) ?_
      refine AllReadyH.cons (o:=qr2x9) rfl (fun K hK => ?_) (AllReadyH.cons (o:=qr2x11) rfl (fun K hK => ?_) (AllReadyH.nil))
      · unfold qr2x9
        go_simp
        (go_at_call 153;refine (c4h _).mono ?_;rintro e wr2_16 ⟨rfl,hbr2_16⟩)
        (try go_simp)
        have hSr2_16:=below_next hSr2_15 hbr2_16
        replace rr2_15:=rr2_15.still hbr2_16
        refine hK.out _ _ hSr2_16 (fun h => ?_)
        clear h hK K hbr2_16
        (try simp only [pS])
        refine wpAnyH_ready (rs:=[11]) (by kernel_rfl) (by simp) ?_
        refine AllReadyH.cons (o:=qr2x11) rfl (fun K hK => ?_) (AllReadyH.nil)
        unfold qr2x11
        go_simp
        obtain ⟨wr2_17,gr2_17,hwr2_17,hgr2_17,hbr2_17,rr2_17⟩:=fresh4 wr2_16
        rw [hwr2_17,hgr2_17]
        have hSr2_17:=below_next hSr2_16 hbr2_17
        have Gr2_17:Vr2_.heap.size≤gr2_17:=by have:=hSr2_16.size;omega
        have gr2_15_gr2_17:gr2_15≠gr2_17:=by have:=rr2_15.lt;omega
        replace rr2_15:=rr2_15.still hbr2_17
        refine hK.out _ _ hSr2_17 (fun h => ?_)
        clear h hK K hbr2_17 hwr2_17 hgr2_17
        (try simp only [pS])
        refine wpAnyH_ready (rs:=[12]) (by kernel_rfl) (by simp) ?_
        refine AllReadyH.cons (o:=qr2x12) rfl (fun K hK => ?_) (AllReadyH.nil)
        unfold qr2x12
        rw [if_pos (by rfl)]
        refine num_store _ _ rfl gr2_15 0 c rfl rfl rr2_15 hSr2_17 Gr2_15 (fun wr2_18 r0 hSr2_18 far => ?_)
        replace rr2_17:=far _ _ _ (by omega) rr2_17
        refine hK.out _ _ hSr2_18 (fun h => ?_)
        clear h hK K far rr2_15
        have rr2_15:=r0
        clear r0
        (try dsimp only [Act.put])
        refine wpAnyH_ready (rs:=[13]) (by kernel_rfl) (by simp) ?_
        refine AllReadyH.cons (o:=qr2x13) rfl (fun K hK => ?_) (AllReadyH.nil)
        unfold qr2x13
        rw [if_pos (by rfl)]
        refine num_store _ _ rfl gr2_17 0 d rfl rfl rr2_17 hSr2_18 Gr2_17 (fun wr2_19 r0 hSr2_19 far => ?_)
        replace rr2_15:=far _ _ _ (by omega) rr2_15
        refine hK.out _ _ hSr2_19 (fun h => ?_)
        clear h hK K far rr2_17
        have rr2_17:=r0
        clear r0
        (try dsimp only [Act.put])
        refine wpAnyH_done (by kernel_rfl) ?_ _
        refine NoPanic.normal ?_
        go_wp2
        go_meet
        case rel=>exact ⟨gr2_15,gr2_17,rfl,rfl,below_next hdrew hSr2_19,Nat.le_trans hdrew.size Gr2_15,Nat.le_trans hdrew.size Gr2_17,rr2_15,rr2_17,by omega⟩
      · unfold qr2x11
        go_simp
        obtain ⟨wr2_20,gr2_20,hwr2_20,hgr2_20,hbr2_20,rr2_20⟩:=fresh4 wr2_15
        rw [hwr2_20,hgr2_20]
        have hSr2_20:=below_next hSr2_15 hbr2_20
        have Gr2_20:Vr2_.heap.size≤gr2_20:=by have:=hSr2_15.size;omega
        have gr2_15_gr2_20:gr2_15≠gr2_20:=by have:=rr2_15.lt;omega
        replace rr2_15:=rr2_15.still hbr2_20
        refine hK.out _ _ hSr2_20 (fun h => ?_)
        clear h hK K hbr2_20 hwr2_20 hgr2_20
        (try simp only [pS])
        refine cl 9 (c4h _) ?_
        (rintro e wr2_21 ⟨rfl,hbr2_21⟩)
        have hSr2_21:=below_next hSr2_20 hbr2_21
        replace rr2_15:=rr2_15.still hbr2_21
        replace rr2_20:=rr2_20.still hbr2_21
        refine ⟨_,rfl,hSr2_21,?_⟩
        clear hbr2_21
        (try simp only [pS])
        refine wpAnyH_ready (rs:=[12]) (by kernel_rfl) (by simp) ?_
        refine AllReadyH.cons (o:=qr2x12) rfl (fun K hK => ?_) (AllReadyH.nil)
        unfold qr2x12
        rw [if_pos (by rfl)]
        refine num_store _ _ rfl gr2_15 0 c rfl rfl rr2_15 hSr2_21 Gr2_15 (fun wr2_22 r0 hSr2_22 far => ?_)
        replace rr2_20:=far _ _ _ (by omega) rr2_20
        refine hK.out _ _ hSr2_22 (fun h => ?_)
        clear h hK K far rr2_15
        have rr2_15:=r0
        clear r0
        (try dsimp only [Act.put])
        refine wpAnyH_ready (rs:=[13]) (by kernel_rfl) (by simp) ?_
        refine AllReadyH.cons (o:=qr2x13) rfl (fun K hK => ?_) (AllReadyH.nil)
        unfold qr2x13
        rw [if_pos (by rfl)]
        refine num_store _ _ rfl gr2_20 0 d rfl rfl rr2_20 hSr2_22 Gr2_20 (fun wr2_23 r0 hSr2_23 far => ?_)
        replace rr2_15:=far _ _ _ (by omega) rr2_15
        refine hK.out _ _ hSr2_23 (fun h => ?_)
        clear h hK K far rr2_20
        have rr2_20:=r0
        clear r0
        (try dsimp only [Act.put])
        refine wpAnyH_done (by kernel_rfl) ?_ _
        refine NoPanic.normal ?_
        go_wp2
        go_meet
        case rel=>exact ⟨gr2_15,gr2_20,rfl,rfl,below_next hdrew hSr2_23,Nat.le_trans hdrew.size Gr2_15,Nat.le_trans hdrew.size Gr2_20,rr2_15,rr2_20,by omega⟩
    · unfold qr2x11
      go_simp
      obtain ⟨wr2_24,gr2_24,hwr2_24,hgr2_24,hbr2_24,rr2_24⟩:=fresh4 wr2_5
      rw [hwr2_24,hgr2_24]
      have hSr2_24:=below_next hSr2_5 hbr2_24
      have Gr2_24:Vr2_.heap.size≤gr2_24:=by have:=hSr2_5.size;omega
      refine hK.out _ _ hSr2_24 (fun h => ?_)
      clear h hK K hbr2_24 hwr2_24 hgr2_24
      (try simp only [pS])
      refine wpAnyH_ready (rs:=[9,10]) (by kernel_rfl) (by simp) ?_
      refine AllReadyH.cons (o:=qr2x9) rfl (fun K hK => ?_) (AllReadyH.cons (o:=qr2x10) rfl (fun K hK => ?_) (AllReadyH.nil))
      · unfold qr2x9
        go_simp
        (go_at_call 153;refine (c4h _).mono ?_;rintro e wr2_25 ⟨rfl,hbr2_25⟩)
        (try go_simp)
        have hSr2_25:=below_next hSr2_24 hbr2_25
        replace rr2_24:=rr2_24.still hbr2_25
        refine hK.out _ _ hSr2_25 (fun h => ?_)
        clear h hK K hbr2_25
        (try simp only [pS])
        refine wpAnyH_ready (rs:=[10]) (by kernel_rfl) (by simp) ?_
        refine AllReadyH.cons (o:=qr2x10) rfl (fun K hK => ?_) (AllReadyH.nil)
        unfold qr2x10
        go_simp
        obtain ⟨wr2_26,gr2_26,hwr2_26,hgr2_26,hbr2_26,rr2_26⟩:=fresh4 wr2_25
        rw [hwr2_26,hgr2_26]
        have hSr2_26:=below_next hSr2_25 hbr2_26
        have Gr2_26:Vr2_.heap.size≤gr2_26:=by have:=hSr2_25.size;omega
        have gr2_24_gr2_26:gr2_24≠gr2_26:=by have:=rr2_24.lt;omega
        replace rr2_24:=rr2_24.still hbr2_26
        refine hK.out _ _ hSr2_26 (fun h => ?_)
        clear h hK K hbr2_26 hwr2_26 hgr2_26
        (try simp only [pS])
        refine wpAnyH_ready (rs:=[12]) (by kernel_rfl) (by simp) ?_
        refine AllReadyH.cons (o:=qr2x12) rfl (fun K hK => ?_) (AllReadyH.nil)
        unfold qr2x12
        rw [if_pos (by rfl)]
        refine num_store _ _ rfl gr2_26 0 c rfl rfl rr2_26 hSr2_26 Gr2_26 (fun wr2_27 r0 hSr2_27 far => ?_)
        replace rr2_24:=far _ _ _ (by omega) rr2_24
        refine hK.out _ _ hSr2_27 (fun h => ?_)
        clear h hK K far rr2_26
        have rr2_26:=r0
        clear r0
        (try dsimp only [Act.put])
        refine wpAnyH_ready (rs:=[13]) (by kernel_rfl) (by simp) ?_
        refine AllReadyH.cons (o:=qr2x13) rfl (fun K hK => ?_) (AllReadyH.nil)
        unfold qr2x13
        rw [if_pos (by rfl)]
        refine num_store _ _ rfl gr2_24 0 d rfl rfl rr2_24 hSr2_27 Gr2_24 (fun wr2_28 r0 hSr2_28 far => ?_)
        replace rr2_26:=far _ _ _ (by omega) rr2_26
        refine hK.out _ _ hSr2_28 (fun h => ?_)
        clear h hK K far rr2_24
        have rr2_24:=r0
        clear r0
        (try dsimp only [Act.put])
        refine wpAnyH_done (by kernel_rfl) ?_ _
        refine NoPanic.normal ?_
        go_wp2
        go_meet
        case rel=>exact ⟨gr2_26,gr2_24,rfl,rfl,below_next hdrew hSr2_28,Nat.le_trans hdrew.size Gr2_26,Nat.le_trans hdrew.size Gr2_24,rr2_26,rr2_24,by omega⟩
      · unfold qr2x10
        go_simp
        obtain ⟨wr2_29,gr2_29,hwr2_29,hgr2_29,hbr2_29,rr2_29⟩:=fresh4 wr2_24
        rw [hwr2_29,hgr2_29]
        have hSr2_29:=below_next hSr2_24 hbr2_29
        have Gr2_29:Vr2_.heap.size≤gr2_29:=by have:=hSr2_24.size;omega
        have gr2_24_gr2_29:gr2_24≠gr2_29:=by have:=rr2_24.lt;omega
        replace rr2_24:=rr2_24.still hbr2_29
        refine hK.out _ _ hSr2_29 (fun h => ?_)
        clear h hK K hbr2_29 hwr2_29 hgr2_29
        (try simp only [pS])
        refine cl 9 (c4h _) ?_
        (rintro e wr2_30 ⟨rfl,hbr2_30⟩)
        have hSr2_30:=below_next hSr2_29 hbr2_30
        replace rr2_24:=rr2_24.still hbr2_30
        replace rr2_29:=rr2_29.still hbr2_30
        refine ⟨_,rfl,hSr2_30,?_⟩
        clear hbr2_30
        (try simp only [pS])
        refine wpAnyH_ready (rs:=[12]) (by kernel_rfl) (by simp) ?_
        refine AllReadyH.cons (o:=qr2x12) rfl (fun K hK => ?_) (AllReadyH.nil)
        unfold qr2x12
        rw [if_pos (by rfl)]
        refine num_store _ _ rfl gr2_29 0 c rfl rfl rr2_29 hSr2_30 Gr2_29 (fun wr2_31 r0 hSr2_31 far => ?_)
        replace rr2_24:=far _ _ _ (by omega) rr2_24
        refine hK.out _ _ hSr2_31 (fun h => ?_)
        clear h hK K far rr2_29
        have rr2_29:=r0
        clear r0
        (try dsimp only [Act.put])
        refine wpAnyH_ready (rs:=[13]) (by kernel_rfl) (by simp) ?_
        refine AllReadyH.cons (o:=qr2x13) rfl (fun K hK => ?_) (AllReadyH.nil)
        unfold qr2x13
        rw [if_pos (by rfl)]
        refine num_store _ _ rfl gr2_24 0 d rfl rfl rr2_24 hSr2_31 Gr2_24 (fun wr2_32 r0 hSr2_32 far => ?_)
        replace rr2_29:=far _ _ _ (by omega) rr2_29
        refine hK.out _ _ hSr2_32 (fun h => ?_)
        clear h hK K far rr2_24
        have rr2_24:=r0
        clear r0
        (try dsimp only [Act.put])
        refine wpAnyH_done (by kernel_rfl) ?_ _
        refine NoPanic.normal ?_
        go_wp2
        go_meet
        case rel=>exact ⟨gr2_29,gr2_24,rfl,rfl,below_next hdrew hSr2_32,Nat.le_trans hdrew.size Gr2_29,Nat.le_trans hdrew.size Gr2_24,rr2_29,rr2_24,by omega⟩
  · unfold qr2x10
    go_simp
    obtain ⟨wr2_33,gr2_33,hwr2_33,hgr2_33,hbr2_33,rr2_33⟩:=fresh4 Vr2_
    rw [hwr2_33,hgr2_33]
    have hSr2_33:=below_next hS hbr2_33
    have Gr2_33:Vr2_.heap.size≤gr2_33:=by have:=hS.size;omega
    refine hK.out _ _ hSr2_33 (fun h => ?_)
    clear h hK K hbr2_33 hwr2_33 hgr2_33
    (try simp only [pS])
    refine wpAnyH_ready (rs:=[4,11]) (by kernel_rfl) (by simp) ?_
    refine AllReadyH.cons (o:=qr2x4) rfl (fun K hK => ?_) (AllReadyH.cons (o:=qr2x11) rfl (fun K hK => ?_) (AllReadyH.nil))
    · unfold qr2x4
      go_simp
      (go_at_call 152;refine (c3 _).mono ?_;rintro e wr2_34 ⟨rfl,hbr2_34⟩)
      (try go_simp)
      have hSr2_34:=below_next hSr2_33 hbr2_34
      replace rr2_33:=rr2_33.still hbr2_34
      refine hK.out _ _ hSr2_34 (fun h => ?_)
      clear h hK K hbr2_34
      (try simp only [pS])
      refine wpAnyH_ready (rs:=[9,11]) (by kernel_rfl) (by simp) ?_
      refine AllReadyH.cons (o:=qr2x9) rfl (fun K hK => ?_) (AllReadyH.cons (o:=qr2x11) rfl (fun K hK => ?_) (AllReadyH.nil))
      · unfold qr2x9
        go_simp
        (go_at_call 153;refine (c4h _).mono ?_;rintro e wr2_35 ⟨rfl,hbr2_35⟩)
        (try go_simp)
        have hSr2_35:=below_next hSr2_34 hbr2_35
        replace rr2_33:=rr2_33.still hbr2_35
        refine hK.out _ _ hSr2_35 (fun h => ?_)
        clear h hK K hbr2_35
        (try simp only [pS])
        refine wpAnyH_ready (rs:=[11]) (by kernel_rfl) (by simp) ?_
        refine AllReadyH.cons (o:=qr2x11) rfl (fun K hK => ?_) (AllReadyH.nil)
        unfold qr2x11
        go_simp
        obtain ⟨wr2_36,gr2_36,hwr2_36,hgr2_36,hbr2_36,rr2_36⟩:=fresh4 wr2_35
        rw [hwr2_36,hgr2_36]
        have hSr2_36:=below_next hSr2_35 hbr2_36
        have Gr2_36:Vr2_.heap.size≤gr2_36:=by have:=hSr2_35.size;omega
        have gr2_33_gr2_36:gr2_33≠gr2_36:=by have:=rr2_33.lt;omega
        replace rr2_33:=rr2_33.still hbr2_36
        refine hK.out _ _ hSr2_36 (fun h => ?_)
        clear h hK K hbr2_36 hwr2_36 hgr2_36
        (try simp only [pS])
        refine wpAnyH_ready (rs:=[12]) (by kernel_rfl) (by simp) ?_
        refine AllReadyH.cons (o:=qr2x12) rfl (fun K hK => ?_) (AllReadyH.nil)
        unfold qr2x12
        rw [if_pos (by rfl)]
        refine num_store _ _ rfl gr2_33 0 c rfl rfl rr2_33 hSr2_36 Gr2_33 (fun wr2_37 r0 hSr2_37 far => ?_)
        replace rr2_36:=far _ _ _ (by omega) rr2_36
        refine hK.out _ _ hSr2_37 (fun h => ?_)
        clear h hK K far rr2_33
        have rr2_33:=r0
        clear r0
        (try dsimp only [Act.put])
        refine wpAnyH_ready (rs:=[13]) (by kernel_rfl) (by simp) ?_
        refine AllReadyH.cons (o:=qr2x13) rfl (fun K hK => ?_) (AllReadyH.nil)
        unfold qr2x13
        rw [if_pos (by rfl)]
        refine num_store _ _ rfl gr2_36 0 d rfl rfl rr2_36 hSr2_37 Gr2_36 (fun wr2_38 r0 hSr2_38 far => ?_)
        replace rr2_33:=far _ _ _ (by omega) rr2_33
        refine hK.out _ _ hSr2_38 (fun h => ?_)
        clear h hK K far rr2_36
        have rr2_36:=r0
        clear r0
        (try dsimp only [Act.put])
        refine wpAnyH_done (by kernel_rfl) ?_ _
        refine NoPanic.normal ?_
        go_wp2
        go_meet
        case rel=>exact ⟨gr2_33,gr2_36,rfl,rfl,below_next hdrew hSr2_38,Nat.le_trans hdrew.size Gr2_33,Nat.le_trans hdrew.size Gr2_36,rr2_33,rr2_36,by omega⟩
      · unfold qr2x11
        go_simp
        obtain ⟨wr2_39,gr2_39,hwr2_39,hgr2_39,hbr2_39,rr2_39⟩:=fresh4 wr2_34
        rw [hwr2_39,hgr2_39]
        have hSr2_39:=below_next hSr2_34 hbr2_39
        have Gr2_39:Vr2_.heap.size≤gr2_39:=by have:=hSr2_34.size;omega
        have gr2_33_gr2_39:gr2_33≠gr2_39:=by have:=rr2_33.lt;omega
        replace rr2_33:=rr2_33.still hbr2_39
        refine hK.out _ _ hSr2_39 (fun h => ?_)
        clear h hK K hbr2_39 hwr2_39 hgr2_39
        (try simp only [pS])
        refine cl 9 (c4h _) ?_
        (rintro e wr2_40 ⟨rfl,hbr2_40⟩)
        have hSr2_40:=below_next hSr2_39 hbr2_40
        replace rr2_33:=rr2_33.still hbr2_40
        replace rr2_39:=rr2_39.still hbr2_40
        refine ⟨_,rfl,hSr2_40,?_⟩
        clear hbr2_40
        (try simp only [pS])
        refine wpAnyH_ready (rs:=[12]) (by kernel_rfl) (by simp) ?_
        refine AllReadyH.cons (o:=qr2x12) rfl (fun K hK => ?_) (AllReadyH.nil)
        unfold qr2x12
        rw [if_pos (by rfl)]
        refine num_store _ _ rfl gr2_33 0 c rfl rfl rr2_33 hSr2_40 Gr2_33 (fun wr2_41 r0 hSr2_41 far => ?_)
        replace rr2_39:=far _ _ _ (by omega) rr2_39
        refine hK.out _ _ hSr2_41 (fun h => ?_)
        clear h hK K far rr2_33
        have rr2_33:=r0
        clear r0
        (try dsimp only [Act.put])
        refine wpAnyH_ready (rs:=[13]) (by kernel_rfl) (by simp) ?_
        refine AllReadyH.cons (o:=qr2x13) rfl (fun K hK => ?_) (AllReadyH.nil)
        unfold qr2x13
        rw [if_pos (by rfl)]
        refine num_store _ _ rfl gr2_39 0 d rfl rfl rr2_39 hSr2_41 Gr2_39 (fun wr2_42 r0 hSr2_42 far => ?_)
        replace rr2_33:=far _ _ _ (by omega) rr2_33
        refine hK.out _ _ hSr2_42 (fun h => ?_)
        clear h hK K far rr2_39
        have rr2_39:=r0
        clear r0
        (try dsimp only [Act.put])
        refine wpAnyH_done (by kernel_rfl) ?_ _
        refine NoPanic.normal ?_
        go_wp2
        go_meet
        case rel=>exact ⟨gr2_33,gr2_39,rfl,rfl,below_next hdrew hSr2_42,Nat.le_trans hdrew.size Gr2_33,Nat.le_trans hdrew.size Gr2_39,rr2_33,rr2_39,by omega⟩
    · unfold qr2x11
      go_simp
      obtain ⟨wr2_43,gr2_43,hwr2_43,hgr2_43,hbr2_43,rr2_43⟩:=fresh4 wr2_33
      rw [hwr2_43,hgr2_43]
      have hSr2_43:=below_next hSr2_33 hbr2_43
      have Gr2_43:Vr2_.heap.size≤gr2_43:=by have:=hSr2_33.size;omega
      have gr2_33_gr2_43:gr2_33≠gr2_43:=by have:=rr2_33.lt;omega
      replace rr2_33:=rr2_33.still hbr2_43
      refine hK.out _ _ hSr2_43 (fun h => ?_)
      clear h hK K hbr2_43 hwr2_43 hgr2_43
      (try simp only [pS])
      refine cl 4 (c3 _) ?_
      (rintro e wr2_44 ⟨rfl,hbr2_44⟩)
      have hSr2_44:=below_next hSr2_43 hbr2_44
      replace rr2_33:=rr2_33.still hbr2_44
      replace rr2_43:=rr2_43.still hbr2_44
      refine ⟨_,rfl,hSr2_44,?_⟩
      clear hbr2_44
      (try simp only [pS])
      refine cl 9 (c4h _) ?_
      (rintro e wr2_45 ⟨rfl,hbr2_45⟩)
      have hSr2_45:=below_next hSr2_44 hbr2_45
      replace rr2_33:=rr2_33.still hbr2_45
      replace rr2_43:=rr2_43.still hbr2_45
      refine ⟨_,rfl,hSr2_45,?_⟩
      clear hbr2_45
      (try simp only [pS])
      refine wpAnyH_ready (rs:=[12]) (by kernel_rfl) (by simp) ?_
      refine AllReadyH.cons (o:=qr2x12) rfl (fun K hK => ?_) (AllReadyH.nil)
      unfold qr2x12
      rw [if_pos (by rfl)]
      refine num_store _ _ rfl gr2_33 0 c rfl rfl rr2_33 hSr2_45 Gr2_33 (fun wr2_46 r0 hSr2_46 far => ?_)
      replace rr2_43:=far _ _ _ (by omega) rr2_43
      refine hK.out _ _ hSr2_46 (fun h => ?_)
      clear h hK K far rr2_33
      have rr2_33:=r0
      clear r0
      (try dsimp only [Act.put])
      refine wpAnyH_ready (rs:=[13]) (by kernel_rfl) (by simp) ?_
      refine AllReadyH.cons (o:=qr2x13) rfl (fun K hK => ?_) (AllReadyH.nil)
      unfold qr2x13
      rw [if_pos (by rfl)]
      refine num_store _ _ rfl gr2_43 0 d rfl rfl rr2_43 hSr2_46 Gr2_43 (fun wr2_47 r0 hSr2_47 far => ?_)
      replace rr2_33:=far _ _ _ (by omega) rr2_33
      refine hK.out _ _ hSr2_47 (fun h => ?_)
      clear h hK K far rr2_43
      have rr2_43:=r0
      clear r0
      (try dsimp only [Act.put])
      refine wpAnyH_done (by kernel_rfl) ?_ _
      refine NoPanic.normal ?_
      go_wp2
      go_meet
      case rel=>exact ⟨gr2_33,gr2_43,rfl,rfl,below_next hdrew hSr2_47,Nat.le_trans hdrew.size Gr2_33,Nat.le_trans hdrew.size Gr2_43,rr2_33,rr2_43,by omega⟩
  · unfold qr2x11
    go_simp
    obtain ⟨wr2_48,gr2_48,hwr2_48,hgr2_48,hbr2_48,rr2_48⟩:=fresh4 Vr2_
    rw [hwr2_48,hgr2_48]
    have hSr2_48:=below_next hS hbr2_48
    have Gr2_48:Vr2_.heap.size≤gr2_48:=by have:=hS.size;omega
    refine hK.out _ _ hSr2_48 (fun h => ?_)
    clear h hK K hbr2_48 hwr2_48 hgr2_48
    (try simp only [pS])
    refine wpAnyH_ready (rs:=[4,10]) (by kernel_rfl) (by simp) ?_
    refine AllReadyH.cons (o:=qr2x4) rfl (fun K hK => ?_) (AllReadyH.cons (o:=qr2x10) rfl (fun K hK => ?_) (AllReadyH.nil))
    · unfold qr2x4
      go_simp
      (go_at_call 152;refine (c3 _).mono ?_;rintro e wr2_49 ⟨rfl,hbr2_49⟩)
      (try go_simp)
      have hSr2_49:=below_next hSr2_48 hbr2_49
      replace rr2_48:=rr2_48.still hbr2_49
      refine hK.out _ _ hSr2_49 (fun h => ?_)
      clear h hK K hbr2_49
      (try simp only [pS])
      refine wpAnyH_ready (rs:=[9,10]) (by kernel_rfl) (by simp) ?_
      refine AllReadyH.cons (o:=qr2x9) rfl (fun K hK => ?_) (AllReadyH.cons (o:=qr2x10) rfl (fun K hK => ?_) (AllReadyH.nil))
      · unfold qr2x9
        go_simp
        (go_at_call 153;refine (c4h _).mono ?_;rintro e wr2_50 ⟨rfl,hbr2_50⟩)
        (try go_simp)
        have hSr2_50:=below_next hSr2_49 hbr2_50
        replace rr2_48:=rr2_48.still hbr2_50
        refine hK.out _ _ hSr2_50 (fun h => ?_)
        clear h hK K hbr2_50
        (try simp only [pS])
        refine wpAnyH_ready (rs:=[10]) (by kernel_rfl) (by simp) ?_
        refine AllReadyH.cons (o:=qr2x10) rfl (fun K hK => ?_) (AllReadyH.nil)
        unfold qr2x10
        go_simp
        obtain ⟨wr2_51,gr2_51,hwr2_51,hgr2_51,hbr2_51,rr2_51⟩:=fresh4 wr2_50
        rw [hwr2_51,hgr2_51]
        have hSr2_51:=below_next hSr2_50 hbr2_51
        have Gr2_51:Vr2_.heap.size≤gr2_51:=by have:=hSr2_50.size;omega
        have gr2_48_gr2_51:gr2_48≠gr2_51:=by have:=rr2_48.lt;omega
        replace rr2_48:=rr2_48.still hbr2_51
        refine hK.out _ _ hSr2_51 (fun h => ?_)
        clear h hK K hbr2_51 hwr2_51 hgr2_51
        (try simp only [pS])
        refine wpAnyH_ready (rs:=[12]) (by kernel_rfl) (by simp) ?_
        refine AllReadyH.cons (o:=qr2x12) rfl (fun K hK => ?_) (AllReadyH.nil)
        unfold qr2x12
        rw [if_pos (by rfl)]
        refine num_store _ _ rfl gr2_51 0 c rfl rfl rr2_51 hSr2_51 Gr2_51 (fun wr2_52 r0 hSr2_52 far => ?_)
        replace rr2_48:=far _ _ _ (by omega) rr2_48
        refine hK.out _ _ hSr2_52 (fun h => ?_)
        clear h hK K far rr2_51
        have rr2_51:=r0
        clear r0
        (try dsimp only [Act.put])
        refine wpAnyH_ready (rs:=[13]) (by kernel_rfl) (by simp) ?_
        refine AllReadyH.cons (o:=qr2x13) rfl (fun K hK => ?_) (AllReadyH.nil)
        unfold qr2x13
        rw [if_pos (by rfl)]
        refine num_store _ _ rfl gr2_48 0 d rfl rfl rr2_48 hSr2_52 Gr2_48 (fun wr2_53 r0 hSr2_53 far => ?_)
        replace rr2_51:=far _ _ _ (by omega) rr2_51
        refine hK.out _ _ hSr2_53 (fun h => ?_)
        clear h hK K far rr2_48
        have rr2_48:=r0
        clear r0
        (try dsimp only [Act.put])
        refine wpAnyH_done (by kernel_rfl) ?_ _
        refine NoPanic.normal ?_
        go_wp2
        go_meet
        case rel=>exact ⟨gr2_51,gr2_48,rfl,rfl,below_next hdrew hSr2_53,Nat.le_trans hdrew.size Gr2_51,Nat.le_trans hdrew.size Gr2_48,rr2_51,rr2_48,by omega⟩
      · unfold qr2x10
        go_simp
        obtain ⟨wr2_54,gr2_54,hwr2_54,hgr2_54,hbr2_54,rr2_54⟩:=fresh4 wr2_49
        rw [hwr2_54,hgr2_54]
        have hSr2_54:=below_next hSr2_49 hbr2_54
        have Gr2_54:Vr2_.heap.size≤gr2_54:=by have:=hSr2_49.size;omega
        have gr2_48_gr2_54:gr2_48≠gr2_54:=by have:=rr2_48.lt;omega
        replace rr2_48:=rr2_48.still hbr2_54
        refine hK.out _ _ hSr2_54 (fun h => ?_)
        clear h hK K hbr2_54 hwr2_54 hgr2_54
        (try simp only [pS])
        refine cl 9 (c4h _) ?_
        (rintro e wr2_55 ⟨rfl,hbr2_55⟩)
        have hSr2_55:=below_next hSr2_54 hbr2_55
        replace rr2_48:=rr2_48.still hbr2_55
        replace rr2_54:=rr2_54.still hbr2_55
        refine ⟨_,rfl,hSr2_55,?_⟩
        clear hbr2_55
        (try simp only [pS])
        refine wpAnyH_ready (rs:=[12]) (by kernel_rfl) (by simp) ?_
        refine AllReadyH.cons (o:=qr2x12) rfl (fun K hK => ?_) (AllReadyH.nil)
        unfold qr2x12
        rw [if_pos (by rfl)]
        refine num_store _ _ rfl gr2_54 0 c rfl rfl rr2_54 hSr2_55 Gr2_54 (fun wr2_56 r0 hSr2_56 far => ?_)
        replace rr2_48:=far _ _ _ (by omega) rr2_48
        refine hK.out _ _ hSr2_56 (fun h => ?_)
        clear h hK K far rr2_54
        have rr2_54:=r0
        clear r0
        (try dsimp only [Act.put])
        refine wpAnyH_ready (rs:=[13]) (by kernel_rfl) (by simp) ?_
        refine AllReadyH.cons (o:=qr2x13) rfl (fun K hK => ?_) (AllReadyH.nil)
        unfold qr2x13
        rw [if_pos (by rfl)]
        refine num_store _ _ rfl gr2_48 0 d rfl rfl rr2_48 hSr2_56 Gr2_48 (fun wr2_57 r0 hSr2_57 far => ?_)
        replace rr2_54:=far _ _ _ (by omega) rr2_54
        refine hK.out _ _ hSr2_57 (fun h => ?_)
        clear h hK K far rr2_48
        have rr2_48:=r0
        clear r0
        (try dsimp only [Act.put])
        refine wpAnyH_done (by kernel_rfl) ?_ _
        refine NoPanic.normal ?_
        go_wp2
        go_meet
        case rel=>exact ⟨gr2_54,gr2_48,rfl,rfl,below_next hdrew hSr2_57,Nat.le_trans hdrew.size Gr2_54,Nat.le_trans hdrew.size Gr2_48,rr2_54,rr2_48,by omega⟩
    · unfold qr2x10
      go_simp
      obtain ⟨wr2_58,gr2_58,hwr2_58,hgr2_58,hbr2_58,rr2_58⟩:=fresh4 wr2_48
      rw [hwr2_58,hgr2_58]
      have hSr2_58:=below_next hSr2_48 hbr2_58
      have Gr2_58:Vr2_.heap.size≤gr2_58:=by have:=hSr2_48.size;omega
      have gr2_48_gr2_58:gr2_48≠gr2_58:=by have:=rr2_48.lt;omega
      replace rr2_48:=rr2_48.still hbr2_58
      refine hK.out _ _ hSr2_58 (fun h => ?_)
      clear h hK K hbr2_58 hwr2_58 hgr2_58
      (try simp only [pS])
      refine cl 4 (c3 _) ?_
      (rintro e wr2_59 ⟨rfl,hbr2_59⟩)
      have hSr2_59:=below_next hSr2_58 hbr2_59
      replace rr2_48:=rr2_48.still hbr2_59
      replace rr2_58:=rr2_58.still hbr2_59
      refine ⟨_,rfl,hSr2_59,?_⟩
      clear hbr2_59
      (try simp only [pS])
      refine cl 9 (c4h _) ?_
      (rintro e wr2_60 ⟨rfl,hbr2_60⟩)
      have hSr2_60:=below_next hSr2_59 hbr2_60
      replace rr2_48:=rr2_48.still hbr2_60
      replace rr2_58:=rr2_58.still hbr2_60
      refine ⟨_,rfl,hSr2_60,?_⟩
      clear hbr2_60
      (try simp only [pS])
      refine wpAnyH_ready (rs:=[12]) (by kernel_rfl) (by simp) ?_
      refine AllReadyH.cons (o:=qr2x12) rfl (fun K hK => ?_) (AllReadyH.nil)
      unfold qr2x12
      rw [if_pos (by rfl)]
      refine num_store _ _ rfl gr2_58 0 c rfl rfl rr2_58 hSr2_60 Gr2_58 (fun wr2_61 r0 hSr2_61 far => ?_)
      replace rr2_48:=far _ _ _ (by omega) rr2_48
      refine hK.out _ _ hSr2_61 (fun h => ?_)
      clear h hK K far rr2_58
      have rr2_58:=r0
      clear r0
      (try dsimp only [Act.put])
      refine wpAnyH_ready (rs:=[13]) (by kernel_rfl) (by simp) ?_
      refine AllReadyH.cons (o:=qr2x13) rfl (fun K hK => ?_) (AllReadyH.nil)
      unfold qr2x13
      rw [if_pos (by rfl)]
      refine num_store _ _ rfl gr2_48 0 d rfl rfl rr2_48 hSr2_61 Gr2_48 (fun wr2_62 r0 hSr2_62 far => ?_)
      replace rr2_58:=far _ _ _ (by omega) rr2_58
      refine hK.out _ _ hSr2_62 (fun h => ?_)
      clear h hK K far rr2_48
      have rr2_48:=r0
      clear r0
      (try dsimp only [Act.put])
      refine wpAnyH_done (by kernel_rfl) ?_ _
      refine NoPanic.normal ?_
      go_wp2
      go_meet
      case rel=>exact ⟨gr2_58,gr2_48,rfl,rfl,below_next hdrew hSr2_62,Nat.le_trans hdrew.size Gr2_58,Nat.le_trans hdrew.size Gr2_48,rr2_58,rr2_48,by omega⟩
 case rest =>
 obtain ⟨g6,g7,rfl,rfl,hb6,G6,G7,h6,h7,ne6⟩:=hcut
 replace hp:=hp.still hb6
 replace hq:=hq.still hb6
 replace hu:=hu.still hb6
 replace h4:=h4.still hb6
 replace h5:=h5.still hb6
 obtain ⟨W2,hW2⟩:∃ W,W=wc:=⟨_,rfl⟩
 rw [←hW2]
 rw [←hW2] at hp
 rw [←hW2] at hq
 rw [←hW2] at hu
 rw [←hW2] at h4
 rw [←hW2] at h5
 rw [←hW2] at h6
 rw [←hW2] at h7
 rw [←hW2] at hb6
 have lt2:W2.heap.size≤W2.heap.size:=Nat.le_refl _
 clear hW2
 go_wp2
 go_cut [8,9] from 15 (fun s8 s9 wc=>∃ g8 g9,s8 = .pointer (some ⟨g8,0,none⟩)∧s9 = .pointer (some ⟨g9,0,none⟩)∧Below W2.heap.size W2 wc∧W2.heap.size≤g8∧W2.heap.size≤g9∧RW wc g8 0 (c4 da)∧RW wc g9 0 (c4 cb)∧g8≠g9)
 case first =>
  clear c1 c2 c3 c4h c7 c8h c9 c10 c11 c12 c13 c14 c15 c16 c17 c18 c19
  have hdrew:Below W2.heap.size W2 W2.drew:=(Below.refl _ _).drew
  replace hp:=hp.still hdrew
  replace hq:=hq.still hdrew
  replace hu:=hu.still hdrew
  replace h4:=h4.still hdrew
  replace h5:=h5.still hdrew
  replace h6:=h6.still hdrew
  replace h7:=h7.still hdrew
  refine wp_region_noPanic ?_
  refine wp_region_held_drew (S:=fun w'=>Below W2.drew.heap.size W2.drew w') (by kernel_rfl) (Below.refl _ _) (fun hS => ?_)
  generalize W2.drew=Vr3_ at *
  refine tk 0 (numV d) hS (hy:=(ldN h7 7)) (h := ?_)
  (try simp only [pS])
  refine tk 1 (numV a) hS (hy:=(ldN h4 4)) (h := ?_)
  (try simp only [pS])
  refine tk 3 (numV c) hS (hy:=(ldN h6 6)) (h := ?_)
  (try simp only [pS])
  refine tk 4 (numV b) hS (hy:=(ldN h5 5)) (h := ?_)
  (try simp only [pS])
  refine wpAnyH_ready (rs:=[2,6,7]) (by kernel_rfl) (by simp) ?_
  refine AllReadyH.cons (o:=qr3x2) rfl (fun K hK => ?_) (AllReadyH.cons (o:=qr3x6) rfl (fun K hK => ?_) (AllReadyH.cons (o:=qr3x7) rfl (fun K hK => ?_) (AllReadyH.nil)))
  · unfold qr3x2
    go_simp
    (go_at_call 126;refine (c5 _).mono ?_;rintro e wr3_1 ⟨rfl,hbr3_1⟩)
    (try go_simp)
    have hSr3_1:=below_next hS hbr3_1
    refine hK.out _ _ hSr3_1 (fun h => ?_)
    clear h hK K hbr3_1
    (try simp only [pS])
    refine wpAnyH_ready (rs:=[5,6,7]) (by kernel_rfl) (by simp) ?_
    refine AllReadyH.cons (o:=qr3x5) rfl (fun K hK => ?_) (AllReadyH.cons (o:=qr3x6) rfl (fun K hK => ?_) (AllReadyH.cons (o:=qr3x7) rfl (fun K hK => ?_) (AllReadyH.nil)))
    · unfold qr3x5
      go_simp
      (go_at_call 126;refine (c6 _).mono ?_;rintro e wr3_2 ⟨rfl,hbr3_2⟩)
      (try go_simp)
      have hSr3_2:=below_next hSr3_1 hbr3_2
      refine hK.out _ _ hSr3_2 (fun h => ?_)
      clear h hK K hbr3_2
      (try simp only [pS])
      refine wpAnyH_ready (rs:=[6,7]) (by kernel_rfl) (by simp) ?_
      refine AllReadyH.cons (o:=qr3x6) rfl (fun K hK => ?_) (AllReadyH.cons (o:=qr3x7) rfl (fun K hK => ?_) (AllReadyH.nil))
      · unfold qr3x6
        go_simp
        obtain ⟨wr3_3,gr3_3,hwr3_3,hgr3_3,hbr3_3,rr3_3⟩:=fresh4 wr3_2
        rw [hwr3_3,hgr3_3]
        have hSr3_3:=below_next hSr3_2 hbr3_3
        have Gr3_3:Vr3_.heap.size≤gr3_3:=by have:=hSr3_2.size;omega
        refine hK.out _ _ hSr3_3 (fun h => ?_)
        clear h hK K hbr3_3 hwr3_3 hgr3_3
        (try simp only [pS])
        refine wpAnyH_ready (rs:=[7]) (by kernel_rfl) (by simp) ?_
        refine AllReadyH.cons (o:=qr3x7) rfl (fun K hK => ?_) (AllReadyH.nil)
        unfold qr3x7
        go_simp
        obtain ⟨wr3_4,gr3_4,hwr3_4,hgr3_4,hbr3_4,rr3_4⟩:=fresh4 wr3_3
        rw [hwr3_4,hgr3_4]
        have hSr3_4:=below_next hSr3_3 hbr3_4
        have Gr3_4:Vr3_.heap.size≤gr3_4:=by have:=hSr3_3.size;omega
        have gr3_3_gr3_4:gr3_3≠gr3_4:=by have:=rr3_3.lt;omega
        replace rr3_3:=rr3_3.still hbr3_4
        refine hK.out _ _ hSr3_4 (fun h => ?_)
        clear h hK K hbr3_4 hwr3_4 hgr3_4
        (try simp only [pS])
        refine wpAnyH_ready (rs:=[8]) (by kernel_rfl) (by simp) ?_
        refine AllReadyH.cons (o:=qr3x8) rfl (fun K hK => ?_) (AllReadyH.nil)
        unfold qr3x8
        rw [if_pos (by rfl)]
        refine num_store _ _ rfl gr3_3 0 da rfl rfl rr3_3 hSr3_4 Gr3_3 (fun wr3_5 r0 hSr3_5 far => ?_)
        replace rr3_4:=far _ _ _ (by omega) rr3_4
        refine hK.out _ _ hSr3_5 (fun h => ?_)
        clear h hK K far rr3_3
        have rr3_3:=r0
        clear r0
        (try dsimp only [Act.put])
        refine wpAnyH_ready (rs:=[9]) (by kernel_rfl) (by simp) ?_
        refine AllReadyH.cons (o:=qr3x9) rfl (fun K hK => ?_) (AllReadyH.nil)
        unfold qr3x9
        rw [if_pos (by rfl)]
        refine num_store _ _ rfl gr3_4 0 cb rfl rfl rr3_4 hSr3_5 Gr3_4 (fun wr3_6 r0 hSr3_6 far => ?_)
        replace rr3_3:=far _ _ _ (by omega) rr3_3
        refine hK.out _ _ hSr3_6 (fun h => ?_)
        clear h hK K far rr3_4
        have rr3_4:=r0
        clear r0
        (try dsimp only [Act.put])
        refine wpAnyH_done (by kernel_rfl) ?_ _
        refine NoPanic.normal ?_
        go_wp2
        go_meet
        case rel=>exact ⟨gr3_3,gr3_4,rfl,rfl,below_next hdrew hSr3_6,Nat.le_trans hdrew.size Gr3_3,Nat.le_trans hdrew.size Gr3_4,rr3_3,rr3_4,by omega⟩
      · unfold qr3x7
        go_simp
        obtain ⟨wr3_7,gr3_7,hwr3_7,hgr3_7,hbr3_7,rr3_7⟩:=fresh4 wr3_2
        rw [hwr3_7,hgr3_7]
        have hSr3_7:=below_next hSr3_2 hbr3_7
        have Gr3_7:Vr3_.heap.size≤gr3_7:=by have:=hSr3_2.size;omega
        refine hK.out _ _ hSr3_7 (fun h => ?_)
        clear h hK K hbr3_7 hwr3_7 hgr3_7
        (try simp only [pS])
        refine wpAnyH_ready (rs:=[6]) (by kernel_rfl) (by simp) ?_
        refine AllReadyH.cons (o:=qr3x6) rfl (fun K hK => ?_) (AllReadyH.nil)
        unfold qr3x6
        go_simp
        obtain ⟨wr3_8,gr3_8,hwr3_8,hgr3_8,hbr3_8,rr3_8⟩:=fresh4 wr3_7
        rw [hwr3_8,hgr3_8]
        have hSr3_8:=below_next hSr3_7 hbr3_8
        have Gr3_8:Vr3_.heap.size≤gr3_8:=by have:=hSr3_7.size;omega
        have gr3_7_gr3_8:gr3_7≠gr3_8:=by have:=rr3_7.lt;omega
        replace rr3_7:=rr3_7.still hbr3_8
        refine hK.out _ _ hSr3_8 (fun h => ?_)
        clear h hK K hbr3_8 hwr3_8 hgr3_8
        (try simp only [pS])
        refine wpAnyH_ready (rs:=[8]) (by kernel_rfl) (by simp) ?_
        refine AllReadyH.cons (o:=qr3x8) rfl (fun K hK => ?_) (AllReadyH.nil)
        unfold qr3x8
        rw [if_pos (by rfl)]
        refine num_store _ _ rfl gr3_8 0 da rfl rfl rr3_8 hSr3_8 Gr3_8 (fun wr3_9 r0 hSr3_9 far => ?_)
        replace rr3_7:=far _ _ _ (by omega) rr3_7
        refine hK.out _ _ hSr3_9 (fun h => ?_)
        clear h hK K far rr3_8
        have rr3_8:=r0
        clear r0
        (try dsimp only [Act.put])
        refine wpAnyH_ready (rs:=[9]) (by kernel_rfl) (by simp) ?_
        refine AllReadyH.cons (o:=qr3x9) rfl (fun K hK => ?_) (AllReadyH.nil)
        unfold qr3x9
        rw [if_pos (by rfl)]
        refine num_store _ _ rfl gr3_7 0 cb rfl rfl rr3_7 hSr3_9 Gr3_7 (fun wr3_10 r0 hSr3_10 far => ?_)
        replace rr3_8:=far _ _ _ (by omega) rr3_8
        refine hK.out _ _ hSr3_10 (fun h => ?_)
        clear h hK K far rr3_7
        have rr3_7:=r0
        clear r0
        (try dsimp only [Act.put])
        refine wpAnyH_done (by kernel_rfl) ?_ _
        refine NoPanic.normal ?_
        go_wp2
        go_meet
        case rel=>exact ⟨gr3_8,gr3_7,rfl,rfl,below_next hdrew hSr3_10,Nat.le_trans hdrew.size Gr3_8,Nat.le_trans hdrew.size Gr3_7,rr3_8,rr3_7,by omega⟩
    · unfold qr3x6
      go_simp
      obtain ⟨wr3_11,gr3_11,hwr3_11,hgr3_11,hbr3_11,rr3_11⟩:=fresh4 wr3_1
      rw [hwr3_11,hgr3_11]
      have hSr3_11:=below_next hSr3_1 hbr3_11
      have Gr3_11:Vr3_.heap.size≤gr3_11:=by have:=hSr3_1.size;omega
      refine hK.out _ _ hSr3_11 (fun h => ?_)
      clear h hK K hbr3_11 hwr3_11 hgr3_11
      (try simp only [pS])
      refine wpAnyH_ready (rs:=[5,7]) (by kernel_rfl) (by simp) ?_
      refine AllReadyH.cons (o:=qr3x5) rfl (fun K hK => ?_) (AllReadyH.cons (o:=qr3x7) rfl (fun K hK => ?_) (AllReadyH.nil))
      · unfold qr3x5
        go_simp
        (go_at_call 126;refine (c6 _).mono ?_;rintro e wr3_12 ⟨rfl,hbr3_12⟩)
        (try go_simp)
        have hSr3_12:=below_next hSr3_11 hbr3_12
        replace rr3_11:=rr3_11.still hbr3_12
        refine hK.out _ _ hSr3_12 (fun h => ?_)
        clear h hK K hbr3_12
        (try simp only [pS])
        refine wpAnyH_ready (rs:=[7]) (by kernel_rfl) (by simp) ?_
        refine AllReadyH.cons (o:=qr3x7) rfl (fun K hK => ?_) (AllReadyH.nil)
        unfold qr3x7
        go_simp
        obtain ⟨wr3_13,gr3_13,hwr3_13,hgr3_13,hbr3_13,rr3_13⟩:=fresh4 wr3_12
        rw [hwr3_13,hgr3_13]
        have hSr3_13:=below_next hSr3_12 hbr3_13
        have Gr3_13:Vr3_.heap.size≤gr3_13:=by have:=hSr3_12.size;omega
        have gr3_11_gr3_13:gr3_11≠gr3_13:=by have:=rr3_11.lt;omega
        replace rr3_11:=rr3_11.still hbr3_13
        refine hK.out _ _ hSr3_13 (fun h => ?_)
        clear h hK K hbr3_13 hwr3_13 hgr3_13
        (try simp only [pS])
        refine wpAnyH_ready (rs:=[8]) (by kernel_rfl) (by simp) ?_
        refine AllReadyH.cons (o:=qr3x8) rfl (fun K hK => ?_) (AllReadyH.nil)
        unfold qr3x8
        rw [if_pos (by rfl)]
        refine num_store _ _ rfl gr3_11 0 da rfl rfl rr3_11 hSr3_13 Gr3_11 (fun wr3_14 r0 hSr3_14 far => ?_)
        replace rr3_13:=far _ _ _ (by omega) rr3_13
        refine hK.out _ _ hSr3_14 (fun h => ?_)
        clear h hK K far rr3_11
        have rr3_11:=r0
        clear r0
        (try dsimp only [Act.put])
        refine wpAnyH_ready (rs:=[9]) (by kernel_rfl) (by simp) ?_
        refine AllReadyH.cons (o:=qr3x9) rfl (fun K hK => ?_) (AllReadyH.nil)
        unfold qr3x9
        rw [if_pos (by rfl)]
        refine num_store _ _ rfl gr3_13 0 cb rfl rfl rr3_13 hSr3_14 Gr3_13 (fun wr3_15 r0 hSr3_15 far => ?_)
        replace rr3_11:=far _ _ _ (by omega) rr3_11
        refine hK.out _ _ hSr3_15 (fun h => ?_)
        clear h hK K far rr3_13
        have rr3_13:=r0
        clear r0
        (try dsimp only [Act.put])
        refine wpAnyH_done (by kernel_rfl) ?_ _
        refine NoPanic.normal ?_
        go_wp2
        go_meet
        case rel=>exact ⟨gr3_11,gr3_13,rfl,rfl,below_next hdrew hSr3_15,Nat.le_trans hdrew.size Gr3_11,Nat.le_trans hdrew.size Gr3_13,rr3_11,rr3_13,by omega⟩
      · unfold qr3x7
        go_simp
        obtain ⟨wr3_16,gr3_16,hwr3_16,hgr3_16,hbr3_16,rr3_16⟩:=fresh4 wr3_11
        rw [hwr3_16,hgr3_16]
        have hSr3_16:=below_next hSr3_11 hbr3_16
        have Gr3_16:Vr3_.heap.size≤gr3_16:=by have:=hSr3_11.size;omega
        have gr3_11_gr3_16:gr3_11≠gr3_16:=by have:=rr3_11.lt;omega
        replace rr3_11:=rr3_11.still hbr3_16
        refine hK.out _ _ hSr3_16 (fun h => ?_)
        clear h hK K hbr3_16 hwr3_16 hgr3_16
        (try simp only [pS])
        refine cl 5 (c6 _) ?_
        (rintro e wr3_17 ⟨rfl,hbr3_17⟩)
        have hSr3_17:=below_next hSr3_16 hbr3_17
        replace rr3_11:=rr3_11.still hbr3_17
        replace rr3_16:=rr3_16.still hbr3_17
        refine ⟨_,rfl,hSr3_17,?_⟩
        clear hbr3_17
        (try simp only [pS])
        refine wpAnyH_ready (rs:=[8]) (by kernel_rfl) (by simp) ?_
        refine AllReadyH.cons (o:=qr3x8) rfl (fun K hK => ?_) (AllReadyH.nil)
        unfold qr3x8
        rw [if_pos (by rfl)]
        refine num_store _ _ rfl gr3_11 0 da rfl rfl rr3_11 hSr3_17 Gr3_11 (fun wr3_18 r0 hSr3_18 far => ?_)
        replace rr3_16:=far _ _ _ (by omega) rr3_16
        refine hK.out _ _ hSr3_18 (fun h => ?_)
        clear h hK K far rr3_11
        have rr3_11:=r0
        clear r0
        (try dsimp only [Act.put])
        refine wpAnyH_ready (rs:=[9]) (by kernel_rfl) (by simp) ?_
        refine AllReadyH.cons (o:=qr3x9) rfl (fun K hK => ?_) (AllReadyH.nil)
        unfold qr3x9
        rw [if_pos (by rfl)]
        refine num_store _ _ rfl gr3_16 0 cb rfl rfl rr3_16 hSr3_18 Gr3_16 (fun wr3_19 r0 hSr3_19 far => ?_)
        replace rr3_11:=far _ _ _ (by omega) rr3_11
        refine hK.out _ _ hSr3_19 (fun h => ?_)
        clear h hK K far rr3_16
        have rr3_16:=r0
        clear r0
        (try dsimp only [Act.put])
        refine wpAnyH_done (by kernel_rfl) ?_ _
        refine NoPanic.normal ?_
        go_wp2
        go_meet
        case rel=>exact ⟨gr3_11,gr3_16,rfl,rfl,below_next hdrew hSr3_19,Nat.le_trans hdrew.size Gr3_11,Nat.le_trans hdrew.size Gr3_16,rr3_11,rr3_16,by omega⟩
    · unfold qr3x7
      go_simp
      obtain ⟨wr3_20,gr3_20,hwr3_20,hgr3_20,hbr3_20,rr3_20⟩:=fresh4 wr3_1
      rw [hwr3_20,hgr3_20]
      have hSr3_20:=below_next hSr3_1 hbr3_20
      have Gr3_20:Vr3_.heap.size≤gr3_20:=by have:=hSr3_1.size;omega
      refine hK.out _ _ hSr3_20 (fun h => ?_)
      clear h hK K hbr3_20 hwr3_20 hgr3_20
      (try simp only [pS])
      refine wpAnyH_ready (rs:=[5,6]) (by kernel_rfl) (by simp) ?_
      refine AllReadyH.cons (o:=qr3x5) rfl (fun K hK => ?_) (AllReadyH.cons (o:=qr3x6) rfl (fun K hK => ?_) (AllReadyH.nil))
      · unfold qr3x5
        go_simp
        (go_at_call 126;refine (c6 _).mono ?_;rintro e wr3_21 ⟨rfl,hbr3_21⟩)
        (try go_simp)
        have hSr3_21:=below_next hSr3_20 hbr3_21
        replace rr3_20:=rr3_20.still hbr3_21
        refine hK.out _ _ hSr3_21 (fun h => ?_)
        clear h hK K hbr3_21
        (try simp only [pS])
        refine wpAnyH_ready (rs:=[6]) (by kernel_rfl) (by simp) ?_
        refine AllReadyH.cons (o:=qr3x6) rfl (fun K hK => ?_) (AllReadyH.nil)
        unfold qr3x6
        go_simp
        obtain ⟨wr3_22,gr3_22,hwr3_22,hgr3_22,hbr3_22,rr3_22⟩:=fresh4 wr3_21
        rw [hwr3_22,hgr3_22]
        have hSr3_22:=below_next hSr3_21 hbr3_22
        have Gr3_22:Vr3_.heap.size≤gr3_22:=by have:=hSr3_21.size;omega
        have gr3_20_gr3_22:gr3_20≠gr3_22:=by have:=rr3_20.lt;omega
        replace rr3_20:=rr3_20.still hbr3_22
        refine hK.out _ _ hSr3_22 (fun h => ?_)
        clear h hK K hbr3_22 hwr3_22 hgr3_22
        (try simp only [pS])
        refine wpAnyH_ready (rs:=[8]) (by kernel_rfl) (by simp) ?_
        refine AllReadyH.cons (o:=qr3x8) rfl (fun K hK => ?_) (AllReadyH.nil)
        unfold qr3x8
        rw [if_pos (by rfl)]
        refine num_store _ _ rfl gr3_22 0 da rfl rfl rr3_22 hSr3_22 Gr3_22 (fun wr3_23 r0 hSr3_23 far => ?_)
        replace rr3_20:=far _ _ _ (by omega) rr3_20
        refine hK.out _ _ hSr3_23 (fun h => ?_)
        clear h hK K far rr3_22
        have rr3_22:=r0
        clear r0
        (try dsimp only [Act.put])
        refine wpAnyH_ready (rs:=[9]) (by kernel_rfl) (by simp) ?_
        refine AllReadyH.cons (o:=qr3x9) rfl (fun K hK => ?_) (AllReadyH.nil)
        unfold qr3x9
        rw [if_pos (by rfl)]
        refine num_store _ _ rfl gr3_20 0 cb rfl rfl rr3_20 hSr3_23 Gr3_20 (fun wr3_24 r0 hSr3_24 far => ?_)
        replace rr3_22:=far _ _ _ (by omega) rr3_22
        refine hK.out _ _ hSr3_24 (fun h => ?_)
        clear h hK K far rr3_20
        have rr3_20:=r0
        clear r0
        (try dsimp only [Act.put])
        refine wpAnyH_done (by kernel_rfl) ?_ _
        refine NoPanic.normal ?_
        go_wp2
        go_meet
        case rel=>exact ⟨gr3_22,gr3_20,rfl,rfl,below_next hdrew hSr3_24,Nat.le_trans hdrew.size Gr3_22,Nat.le_trans hdrew.size Gr3_20,rr3_22,rr3_20,by omega⟩
      · unfold qr3x6
        go_simp
        obtain ⟨wr3_25,gr3_25,hwr3_25,hgr3_25,hbr3_25,rr3_25⟩:=fresh4 wr3_20
        rw [hwr3_25,hgr3_25]
        have hSr3_25:=below_next hSr3_20 hbr3_25
        have Gr3_25:Vr3_.heap.size≤gr3_25:=by have:=hSr3_20.size;omega
        have gr3_20_gr3_25:gr3_20≠gr3_25:=by have:=rr3_20.lt;omega
        replace rr3_20:=rr3_20.still hbr3_25
        refine hK.out _ _ hSr3_25 (fun h => ?_)
        clear h hK K hbr3_25 hwr3_25 hgr3_25
        (try simp only [pS])
        refine cl 5 (c6 _) ?_
        (rintro e wr3_26 ⟨rfl,hbr3_26⟩)
        have hSr3_26:=below_next hSr3_25 hbr3_26
        replace rr3_20:=rr3_20.still hbr3_26
        replace rr3_25:=rr3_25.still hbr3_26
        refine ⟨_,rfl,hSr3_26,?_⟩
        clear hbr3_26
        (try simp only [pS])
        refine wpAnyH_ready (rs:=[8]) (by kernel_rfl) (by simp) ?_
        refine AllReadyH.cons (o:=qr3x8) rfl (fun K hK => ?_) (AllReadyH.nil)
        unfold qr3x8
        rw [if_pos (by rfl)]
        refine num_store _ _ rfl gr3_25 0 da rfl rfl rr3_25 hSr3_26 Gr3_25 (fun wr3_27 r0 hSr3_27 far => ?_)
        replace rr3_20:=far _ _ _ (by omega) rr3_20
        refine hK.out _ _ hSr3_27 (fun h => ?_)
        clear h hK K far rr3_25
        have rr3_25:=r0
        clear r0
        (try dsimp only [Act.put])
        refine wpAnyH_ready (rs:=[9]) (by kernel_rfl) (by simp) ?_
        refine AllReadyH.cons (o:=qr3x9) rfl (fun K hK => ?_) (AllReadyH.nil)
        unfold qr3x9
        rw [if_pos (by rfl)]
        refine num_store _ _ rfl gr3_20 0 cb rfl rfl rr3_20 hSr3_27 Gr3_20 (fun wr3_28 r0 hSr3_28 far => ?_)
        replace rr3_25:=far _ _ _ (by omega) rr3_25
        refine hK.out _ _ hSr3_28 (fun h => ?_)
        clear h hK K far rr3_20
        have rr3_20:=r0
        clear r0
        (try dsimp only [Act.put])
        refine wpAnyH_done (by kernel_rfl) ?_ _
        refine NoPanic.normal ?_
        go_wp2
        go_meet
        case rel=>exact ⟨gr3_25,gr3_20,rfl,rfl,below_next hdrew hSr3_28,Nat.le_trans hdrew.size Gr3_25,Nat.le_trans hdrew.size Gr3_20,rr3_25,rr3_20,by omega⟩
  · unfold qr3x6
    go_simp
    obtain ⟨wr3_29,gr3_29,hwr3_29,hgr3_29,hbr3_29,rr3_29⟩:=fresh4 Vr3_
    rw [hwr3_29,hgr3_29]
    have hSr3_29:=below_next hS hbr3_29
    have Gr3_29:Vr3_.heap.size≤gr3_29:=by have:=hS.size;omega
    refine hK.out _ _ hSr3_29 (fun h => ?_)
    clear h hK K hbr3_29 hwr3_29 hgr3_29
    (try simp only [pS])
    refine wpAnyH_ready (rs:=[2,7]) (by kernel_rfl) (by simp) ?_
    refine AllReadyH.cons (o:=qr3x2) rfl (fun K hK => ?_) (AllReadyH.cons (o:=qr3x7) rfl (fun K hK => ?_) (AllReadyH.nil))
    · unfold qr3x2
      go_simp
      (go_at_call 126;refine (c5 _).mono ?_;rintro e wr3_30 ⟨rfl,hbr3_30⟩)
      (try go_simp)
      have hSr3_30:=below_next hSr3_29 hbr3_30
      replace rr3_29:=rr3_29.still hbr3_30
      refine hK.out _ _ hSr3_30 (fun h => ?_)
      clear h hK K hbr3_30
      (try simp only [pS])
      refine wpAnyH_ready (rs:=[5,7]) (by kernel_rfl) (by simp) ?_
      refine AllReadyH.cons (o:=qr3x5) rfl (fun K hK => ?_) (AllReadyH.cons (o:=qr3x7) rfl (fun K hK => ?_) (AllReadyH.nil))
      · unfold qr3x5
        go_simp
        (go_at_call 126;refine (c6 _).mono ?_;rintro e wr3_31 ⟨rfl,hbr3_31⟩)
        (try go_simp)
        have hSr3_31:=below_next hSr3_30 hbr3_31
        replace rr3_29:=rr3_29.still hbr3_31
        refine hK.out _ _ hSr3_31 (fun h => ?_)
        clear h hK K hbr3_31
        (try simp only [pS])
        refine wpAnyH_ready (rs:=[7]) (by kernel_rfl) (by simp) ?_
        refine AllReadyH.cons (o:=qr3x7) rfl (fun K hK => ?_) (AllReadyH.nil)
        unfold qr3x7
        go_simp
        obtain ⟨wr3_32,gr3_32,hwr3_32,hgr3_32,hbr3_32,rr3_32⟩:=fresh4 wr3_31
        rw [hwr3_32,hgr3_32]
        have hSr3_32:=below_next hSr3_31 hbr3_32
        have Gr3_32:Vr3_.heap.size≤gr3_32:=by have:=hSr3_31.size;omega
        have gr3_29_gr3_32:gr3_29≠gr3_32:=by have:=rr3_29.lt;omega
        replace rr3_29:=rr3_29.still hbr3_32
        refine hK.out _ _ hSr3_32 (fun h => ?_)
        clear h hK K hbr3_32 hwr3_32 hgr3_32
        (try simp only [pS])
        refine wpAnyH_ready (rs:=[8]) (by kernel_rfl) (by simp) ?_
        refine AllReadyH.cons (o:=qr3x8) rfl (fun K hK => ?_) (AllReadyH.nil)
        unfold qr3x8
        rw [if_pos (by rfl)]
        refine num_store _ _ rfl gr3_29 0 da rfl rfl rr3_29 hSr3_32 Gr3_29 (fun wr3_33 r0 hSr3_33 far => ?_)
        replace rr3_32:=far _ _ _ (by omega) rr3_32
        refine hK.out _ _ hSr3_33 (fun h => ?_)
        clear h hK K far rr3_29
        have rr3_29:=r0
        clear r0
        (try dsimp only [Act.put])
        refine wpAnyH_ready (rs:=[9]) (by kernel_rfl) (by simp) ?_
        refine AllReadyH.cons (o:=qr3x9) rfl (fun K hK => ?_) (AllReadyH.nil)
        unfold qr3x9
        rw [if_pos (by rfl)]
        refine num_store _ _ rfl gr3_32 0 cb rfl rfl rr3_32 hSr3_33 Gr3_32 (fun wr3_34 r0 hSr3_34 far => ?_)
        replace rr3_29:=far _ _ _ (by omega) rr3_29
        refine hK.out _ _ hSr3_34 (fun h => ?_)
        clear h hK K far rr3_32
        have rr3_32:=r0
        clear r0
        (try dsimp only [Act.put])
        refine wpAnyH_done (by kernel_rfl) ?_ _
        refine NoPanic.normal ?_
        go_wp2
        go_meet
        case rel=>exact ⟨gr3_29,gr3_32,rfl,rfl,below_next hdrew hSr3_34,Nat.le_trans hdrew.size Gr3_29,Nat.le_trans hdrew.size Gr3_32,rr3_29,rr3_32,by omega⟩
      · unfold qr3x7
        go_simp
        obtain ⟨wr3_35,gr3_35,hwr3_35,hgr3_35,hbr3_35,rr3_35⟩:=fresh4 wr3_30
        rw [hwr3_35,hgr3_35]
        have hSr3_35:=below_next hSr3_30 hbr3_35
        have Gr3_35:Vr3_.heap.size≤gr3_35:=by have:=hSr3_30.size;omega
        have gr3_29_gr3_35:gr3_29≠gr3_35:=by have:=rr3_29.lt;omega
        replace rr3_29:=rr3_29.still hbr3_35
        refine hK.out _ _ hSr3_35 (fun h => ?_)
        clear h hK K hbr3_35 hwr3_35 hgr3_35
        (try simp only [pS])
        refine cl 5 (c6 _) ?_
        (rintro e wr3_36 ⟨rfl,hbr3_36⟩)
        have hSr3_36:=below_next hSr3_35 hbr3_36
        replace rr3_29:=rr3_29.still hbr3_36
        replace rr3_35:=rr3_35.still hbr3_36
        refine ⟨_,rfl,hSr3_36,?_⟩
        clear hbr3_36
        (try simp only [pS])
        refine wpAnyH_ready (rs:=[8]) (by kernel_rfl) (by simp) ?_
        refine AllReadyH.cons (o:=qr3x8) rfl (fun K hK => ?_) (AllReadyH.nil)
        unfold qr3x8
        rw [if_pos (by rfl)]
        refine num_store _ _ rfl gr3_29 0 da rfl rfl rr3_29 hSr3_36 Gr3_29 (fun wr3_37 r0 hSr3_37 far => ?_)
        replace rr3_35:=far _ _ _ (by omega) rr3_35
        refine hK.out _ _ hSr3_37 (fun h => ?_)
        clear h hK K far rr3_29
        have rr3_29:=r0
        clear r0
        (try dsimp only [Act.put])
        refine wpAnyH_ready (rs:=[9]) (by kernel_rfl) (by simp) ?_
        refine AllReadyH.cons (o:=qr3x9) rfl (fun K hK => ?_) (AllReadyH.nil)
        unfold qr3x9
        rw [if_pos (by rfl)]
        refine num_store _ _ rfl gr3_35 0 cb rfl rfl rr3_35 hSr3_37 Gr3_35 (fun wr3_38 r0 hSr3_38 far => ?_)
        replace rr3_29:=far _ _ _ (by omega) rr3_29
        refine hK.out _ _ hSr3_38 (fun h => ?_)
        clear h hK K far rr3_35
        have rr3_35:=r0
        clear r0
        (try dsimp only [Act.put])
        refine wpAnyH_done (by kernel_rfl) ?_ _
        refine NoPanic.normal ?_
        go_wp2
        go_meet
        case rel=>exact ⟨gr3_29,gr3_35,rfl,rfl,below_next hdrew hSr3_38,Nat.le_trans hdrew.size Gr3_29,Nat.le_trans hdrew.size Gr3_35,rr3_29,rr3_35,by omega⟩
    · unfold qr3x7
      go_simp
      obtain ⟨wr3_39,gr3_39,hwr3_39,hgr3_39,hbr3_39,rr3_39⟩:=fresh4 wr3_29
      rw [hwr3_39,hgr3_39]
      have hSr3_39:=below_next hSr3_29 hbr3_39
      have Gr3_39:Vr3_.heap.size≤gr3_39:=by have:=hSr3_29.size;omega
      have gr3_29_gr3_39:gr3_29≠gr3_39:=by have:=rr3_29.lt;omega
      replace rr3_29:=rr3_29.still hbr3_39
      refine hK.out _ _ hSr3_39 (fun h => ?_)
      clear h hK K hbr3_39 hwr3_39 hgr3_39
      (try simp only [pS])
      refine cl 2 (c5 _) ?_
      (rintro e wr3_40 ⟨rfl,hbr3_40⟩)
      have hSr3_40:=below_next hSr3_39 hbr3_40
      replace rr3_29:=rr3_29.still hbr3_40
      replace rr3_39:=rr3_39.still hbr3_40
      refine ⟨_,rfl,hSr3_40,?_⟩
      clear hbr3_40
      (try simp only [pS])
      refine cl 5 (c6 _) ?_
      (rintro e wr3_41 ⟨rfl,hbr3_41⟩)
      have hSr3_41:=below_next hSr3_40 hbr3_41
      replace rr3_29:=rr3_29.still hbr3_41
      replace rr3_39:=rr3_39.still hbr3_41
      refine ⟨_,rfl,hSr3_41,?_⟩
      clear hbr3_41
      (try simp only [pS])
      refine wpAnyH_ready (rs:=[8]) (by kernel_rfl) (by simp) ?_
      refine AllReadyH.cons (o:=qr3x8) rfl (fun K hK => ?_) (AllReadyH.nil)
      unfold qr3x8
      rw [if_pos (by rfl)]
      refine num_store _ _ rfl gr3_29 0 da rfl rfl rr3_29 hSr3_41 Gr3_29 (fun wr3_42 r0 hSr3_42 far => ?_)
      replace rr3_39:=far _ _ _ (by omega) rr3_39
      refine hK.out _ _ hSr3_42 (fun h => ?_)
      clear h hK K far rr3_29
      have rr3_29:=r0
      clear r0
      (try dsimp only [Act.put])
      refine wpAnyH_ready (rs:=[9]) (by kernel_rfl) (by simp) ?_
      refine AllReadyH.cons (o:=qr3x9) rfl (fun K hK => ?_) (AllReadyH.nil)
      unfold qr3x9
      rw [if_pos (by rfl)]
      refine num_store _ _ rfl gr3_39 0 cb rfl rfl rr3_39 hSr3_42 Gr3_39 (fun wr3_43 r0 hSr3_43 far => ?_)
      replace rr3_29:=far _ _ _ (by omega) rr3_29
      refine hK.out _ _ hSr3_43 (fun h => ?_)
      clear h hK K far rr3_39
      have rr3_39:=r0
      clear r0
      (try dsimp only [Act.put])
      refine wpAnyH_done (by kernel_rfl) ?_ _
      refine NoPanic.normal ?_
      go_wp2
      go_meet
      case rel=>exact ⟨gr3_29,gr3_39,rfl,rfl,below_next hdrew hSr3_43,Nat.le_trans hdrew.size Gr3_29,Nat.le_trans hdrew.size Gr3_39,rr3_29,rr3_39,by omega⟩
  · unfold qr3x7
    go_simp
    obtain ⟨wr3_44,gr3_44,hwr3_44,hgr3_44,hbr3_44,rr3_44⟩:=fresh4 Vr3_
    rw [hwr3_44,hgr3_44]
    have hSr3_44:=below_next hS hbr3_44
    have Gr3_44:Vr3_.heap.size≤gr3_44:=by have:=hS.size;omega
    refine hK.out _ _ hSr3_44 (fun h => ?_)
    clear h hK K hbr3_44 hwr3_44 hgr3_44
    (try simp only [pS])
    refine wpAnyH_ready (rs:=[2,6]) (by kernel_rfl) (by simp) ?_
    refine AllReadyH.cons (o:=qr3x2) rfl (fun K hK => ?_) (AllReadyH.cons (o:=qr3x6) rfl (fun K hK => ?_) (AllReadyH.nil))
    · unfold qr3x2
      go_simp
      (go_at_call 126;refine (c5 _).mono ?_;rintro e wr3_45 ⟨rfl,hbr3_45⟩)
      (try go_simp)
      have hSr3_45:=below_next hSr3_44 hbr3_45
      replace rr3_44:=rr3_44.still hbr3_45
      refine hK.out _ _ hSr3_45 (fun h => ?_)
      clear h hK K hbr3_45
      (try simp only [pS])
      refine wpAnyH_ready (rs:=[5,6]) (by kernel_rfl) (by simp) ?_
      refine AllReadyH.cons (o:=qr3x5) rfl (fun K hK => ?_) (AllReadyH.cons (o:=qr3x6) rfl (fun K hK => ?_) (AllReadyH.nil))
      · unfold qr3x5
        go_simp
        (go_at_call 126;refine (c6 _).mono ?_;rintro e wr3_46 ⟨rfl,hbr3_46⟩)
        (try go_simp)
        have hSr3_46:=below_next hSr3_45 hbr3_46
        replace rr3_44:=rr3_44.still hbr3_46
        refine hK.out _ _ hSr3_46 (fun h => ?_)
        clear h hK K hbr3_46
        (try simp only [pS])
        refine wpAnyH_ready (rs:=[6]) (by kernel_rfl) (by simp) ?_
        refine AllReadyH.cons (o:=qr3x6) rfl (fun K hK => ?_) (AllReadyH.nil)
        unfold qr3x6
        go_simp
        obtain ⟨wr3_47,gr3_47,hwr3_47,hgr3_47,hbr3_47,rr3_47⟩:=fresh4 wr3_46
        rw [hwr3_47,hgr3_47]
        have hSr3_47:=below_next hSr3_46 hbr3_47
        have Gr3_47:Vr3_.heap.size≤gr3_47:=by have:=hSr3_46.size;omega
        have gr3_44_gr3_47:gr3_44≠gr3_47:=by have:=rr3_44.lt;omega
        replace rr3_44:=rr3_44.still hbr3_47
        refine hK.out _ _ hSr3_47 (fun h => ?_)
        clear h hK K hbr3_47 hwr3_47 hgr3_47
        (try simp only [pS])
        refine wpAnyH_ready (rs:=[8]) (by kernel_rfl) (by simp) ?_
        refine AllReadyH.cons (o:=qr3x8) rfl (fun K hK => ?_) (AllReadyH.nil)
        unfold qr3x8
        rw [if_pos (by rfl)]
        refine num_store _ _ rfl gr3_47 0 da rfl rfl rr3_47 hSr3_47 Gr3_47 (fun wr3_48 r0 hSr3_48 far => ?_)
        replace rr3_44:=far _ _ _ (by omega) rr3_44
        refine hK.out _ _ hSr3_48 (fun h => ?_)
        clear h hK K far rr3_47
        have rr3_47:=r0
        clear r0
        (try dsimp only [Act.put])
        refine wpAnyH_ready (rs:=[9]) (by kernel_rfl) (by simp) ?_
        refine AllReadyH.cons (o:=qr3x9) rfl (fun K hK => ?_) (AllReadyH.nil)
        unfold qr3x9
        rw [if_pos (by rfl)]
        refine num_store _ _ rfl gr3_44 0 cb rfl rfl rr3_44 hSr3_48 Gr3_44 (fun wr3_49 r0 hSr3_49 far => ?_)
        replace rr3_47:=far _ _ _ (by omega) rr3_47
        refine hK.out _ _ hSr3_49 (fun h => ?_)
        clear h hK K far rr3_44
        have rr3_44:=r0
        clear r0
        (try dsimp only [Act.put])
        refine wpAnyH_done (by kernel_rfl) ?_ _
        refine NoPanic.normal ?_
        go_wp2
        go_meet
        case rel=>exact ⟨gr3_47,gr3_44,rfl,rfl,below_next hdrew hSr3_49,Nat.le_trans hdrew.size Gr3_47,Nat.le_trans hdrew.size Gr3_44,rr3_47,rr3_44,by omega⟩
      · unfold qr3x6
        go_simp
        obtain ⟨wr3_50,gr3_50,hwr3_50,hgr3_50,hbr3_50,rr3_50⟩:=fresh4 wr3_45
        rw [hwr3_50,hgr3_50]
        have hSr3_50:=below_next hSr3_45 hbr3_50
        have Gr3_50:Vr3_.heap.size≤gr3_50:=by have:=hSr3_45.size;omega
        have gr3_44_gr3_50:gr3_44≠gr3_50:=by have:=rr3_44.lt;omega
        replace rr3_44:=rr3_44.still hbr3_50
        refine hK.out _ _ hSr3_50 (fun h => ?_)
        clear h hK K hbr3_50 hwr3_50 hgr3_50
        (try simp only [pS])
        refine cl 5 (c6 _) ?_
        (rintro e wr3_51 ⟨rfl,hbr3_51⟩)
        have hSr3_51:=below_next hSr3_50 hbr3_51
        replace rr3_44:=rr3_44.still hbr3_51
        replace rr3_50:=rr3_50.still hbr3_51
        refine ⟨_,rfl,hSr3_51,?_⟩
        clear hbr3_51
        (try simp only [pS])
        refine wpAnyH_ready (rs:=[8]) (by kernel_rfl) (by simp) ?_
        refine AllReadyH.cons (o:=qr3x8) rfl (fun K hK => ?_) (AllReadyH.nil)
        unfold qr3x8
        rw [if_pos (by rfl)]
        refine num_store _ _ rfl gr3_50 0 da rfl rfl rr3_50 hSr3_51 Gr3_50 (fun wr3_52 r0 hSr3_52 far => ?_)
        replace rr3_44:=far _ _ _ (by omega) rr3_44
        refine hK.out _ _ hSr3_52 (fun h => ?_)
        clear h hK K far rr3_50
        have rr3_50:=r0
        clear r0
        (try dsimp only [Act.put])
        refine wpAnyH_ready (rs:=[9]) (by kernel_rfl) (by simp) ?_
        refine AllReadyH.cons (o:=qr3x9) rfl (fun K hK => ?_) (AllReadyH.nil)
        unfold qr3x9
        rw [if_pos (by rfl)]
        refine num_store _ _ rfl gr3_44 0 cb rfl rfl rr3_44 hSr3_52 Gr3_44 (fun wr3_53 r0 hSr3_53 far => ?_)
        replace rr3_50:=far _ _ _ (by omega) rr3_50
        refine hK.out _ _ hSr3_53 (fun h => ?_)
        clear h hK K far rr3_44
        have rr3_44:=r0
        clear r0
        (try dsimp only [Act.put])
        refine wpAnyH_done (by kernel_rfl) ?_ _
        refine NoPanic.normal ?_
        go_wp2
        go_meet
        case rel=>exact ⟨gr3_50,gr3_44,rfl,rfl,below_next hdrew hSr3_53,Nat.le_trans hdrew.size Gr3_50,Nat.le_trans hdrew.size Gr3_44,rr3_50,rr3_44,by omega⟩
    · unfold qr3x6
      go_simp
      obtain ⟨wr3_54,gr3_54,hwr3_54,hgr3_54,hbr3_54,rr3_54⟩:=fresh4 wr3_44
      rw [hwr3_54,hgr3_54]
      have hSr3_54:=below_next hSr3_44 hbr3_54
      have Gr3_54:Vr3_.heap.size≤gr3_54:=by have:=hSr3_44.size;omega
      have gr3_44_gr3_54:gr3_44≠gr3_54:=by have:=rr3_44.lt;omega
      replace rr3_44:=rr3_44.still hbr3_54
      refine hK.out _ _ hSr3_54 (fun h => ?_)
      clear h hK K hbr3_54 hwr3_54 hgr3_54
      (try simp only [pS])
      refine cl 2 (c5 _) ?_
      (rintro e wr3_55 ⟨rfl,hbr3_55⟩)
      have hSr3_55:=below_next hSr3_54 hbr3_55
      replace rr3_44:=rr3_44.still hbr3_55
      replace rr3_54:=rr3_54.still hbr3_55
      refine ⟨_,rfl,hSr3_55,?_⟩
      clear hbr3_55
      (try simp only [pS])
      refine cl 5 (c6 _) ?_
      (rintro e wr3_56 ⟨rfl,hbr3_56⟩)
      have hSr3_56:=below_next hSr3_55 hbr3_56
      replace rr3_44:=rr3_44.still hbr3_56
      replace rr3_54:=rr3_54.still hbr3_56
      refine ⟨_,rfl,hSr3_56,?_⟩
      clear hbr3_56
      (try simp only [pS])
      refine wpAnyH_ready (rs:=[8]) (by kernel_rfl) (by simp) ?_
      refine AllReadyH.cons (o:=qr3x8) rfl (fun K hK => ?_) (AllReadyH.nil)
      unfold qr3x8
      rw [if_pos (by rfl)]
      refine num_store _ _ rfl gr3_54 0 da rfl rfl rr3_54 hSr3_56 Gr3_54 (fun wr3_57 r0 hSr3_57 far => ?_)
      replace rr3_44:=far _ _ _ (by omega) rr3_44
      refine hK.out _ _ hSr3_57 (fun h => ?_)
      clear h hK K far rr3_54
      have rr3_54:=r0
      clear r0
      (try dsimp only [Act.put])
      refine wpAnyH_ready (rs:=[9]) (by kernel_rfl) (by simp) ?_
      refine AllReadyH.cons (o:=qr3x9) rfl (fun K hK => ?_) (AllReadyH.nil)
      unfold qr3x9
      rw [if_pos (by rfl)]
      refine num_store _ _ rfl gr3_44 0 cb rfl rfl rr3_44 hSr3_57 Gr3_44 (fun wr3_58 r0 hSr3_58 far => ?_)
      replace rr3_54:=far _ _ _ (by omega) rr3_54
      refine hK.out _ _ hSr3_58 (fun h => ?_)
      clear h hK K far rr3_44
      have rr3_44:=r0
      clear r0
      (try dsimp only [Act.put])
      refine wpAnyH_done (by kernel_rfl) ?_ _
      refine NoPanic.normal ?_
      go_wp2
      go_meet
      case rel=>exact ⟨gr3_54,gr3_44,rfl,rfl,below_next hdrew hSr3_58,Nat.le_trans hdrew.size Gr3_54,Nat.le_trans hdrew.size Gr3_44,rr3_54,rr3_44,by omega⟩
 case rest =>
 obtain ⟨g8,g9,rfl,rfl,hb8,G8,G9,h8,h9,ne8⟩:=hcut
 replace hp:=hp.still hb8
 replace hq:=hq.still hb8
 replace hu:=hu.still hb8
 replace h4:=h4.still hb8
 replace h5:=h5.still hb8
 replace h6:=h6.still hb8
 replace h7:=h7.still hb8
 obtain ⟨W3,hW3⟩:∃ W,W=wc:=⟨_,rfl⟩
 rw [←hW3]
 rw [←hW3] at hp
 rw [←hW3] at hq
 rw [←hW3] at hu
 rw [←hW3] at h4
 rw [←hW3] at h5
 rw [←hW3] at h6
 rw [←hW3] at h7
 rw [←hW3] at h8
 rw [←hW3] at h9
 rw [←hW3] at hb8
 have lt3:W3.heap.size≤W3.heap.size:=Nat.le_refl _
 clear hW3
 go_wp2
 go_cut [10,11] from 15 (fun s10 s11 wc=>∃ g10 g11,s10 = .pointer (some ⟨g10,0,none⟩)∧s11 = .pointer (some ⟨g11,0,none⟩)∧Below W3.heap.size W3 wc∧W3.heap.size≤g10∧W3.heap.size≤g11∧RW wc g10 0 (c4 pl)∧RW wc g11 0 (c4 mi)∧g10≠g11)
 case first =>
  clear c1 c2 c3 c4h c5 c6 c9 c10 c11 c12 c13 c14 c15 c16 c17 c18 c19
  have hdrew:Below W3.heap.size W3 W3.drew:=(Below.refl _ _).drew
  replace hp:=hp.still hdrew
  replace hq:=hq.still hdrew
  replace hu:=hu.still hdrew
  replace h4:=h4.still hdrew
  replace h5:=h5.still hdrew
  replace h6:=h6.still hdrew
  replace h7:=h7.still hdrew
  replace h8:=h8.still hdrew
  replace h9:=h9.still hdrew
  refine wp_region_noPanic ?_
  refine wp_region_held_drew (S:=fun w'=>Below W3.drew.heap.size W3.drew w') (by kernel_rfl) (Below.refl _ _) (fun hS => ?_)
  generalize W3.drew=Vr4_ at *
  refine tk 0 (numV da) hS (hy:=(ldN h8 8)) (h := ?_)
  (try simp only [pS])
  refine tk 1 (numV cb) hS (hy:=(ldN h9 9)) (h := ?_)
  (try simp only [pS])
  refine tk 3 (numV da) hS (hy:=(ldN h8 8)) (h := ?_)
  (try simp only [pS])
  refine tk 4 (numV cb) hS (hy:=(ldN h9 9)) (h := ?_)
  (try simp only [pS])
  refine wpAnyH_ready (rs:=[2,6,7]) (by kernel_rfl) (by simp) ?_
  refine AllReadyH.cons (o:=qr4x2) rfl (fun K hK => ?_) (AllReadyH.cons (o:=qr4x6) rfl (fun K hK => ?_) (AllReadyH.cons (o:=qr4x7) rfl (fun K hK => ?_) (AllReadyH.nil)))
  · unfold qr4x2
    go_simp
    (go_at_call 154;refine (c7 _).mono ?_;rintro e wr4_1 ⟨rfl,hbr4_1⟩)
    (try go_simp)
    have hSr4_1:=below_next hS hbr4_1
    refine hK.out _ _ hSr4_1 (fun h => ?_)
    clear h hK K hbr4_1
    (try simp only [pS])
    refine wpAnyH_ready (rs:=[5,6,7]) (by kernel_rfl) (by simp) ?_
    refine AllReadyH.cons (o:=qr4x5) rfl (fun K hK => ?_) (AllReadyH.cons (o:=qr4x6) rfl (fun K hK => ?_) (AllReadyH.cons (o:=qr4x7) rfl (fun K hK => ?_) (AllReadyH.nil)))
    · unfold qr4x5
      go_simp
      (go_at_call 77;refine (c8h _).mono ?_;rintro e wr4_2 ⟨rfl,hbr4_2⟩)
      (try go_simp)
      have hSr4_2:=below_next hSr4_1 hbr4_2
      refine hK.out _ _ hSr4_2 (fun h => ?_)
      clear h hK K hbr4_2
      (try simp only [pS])
      refine wpAnyH_ready (rs:=[6,7]) (by kernel_rfl) (by simp) ?_
      refine AllReadyH.cons (o:=qr4x6) rfl (fun K hK => ?_) (AllReadyH.cons (o:=qr4x7) rfl (fun K hK => ?_) (AllReadyH.nil))
      · unfold qr4x6
        go_simp
        obtain ⟨wr4_3,gr4_3,hwr4_3,hgr4_3,hbr4_3,rr4_3⟩:=fresh4 wr4_2
        rw [hwr4_3,hgr4_3]
        have hSr4_3:=below_next hSr4_2 hbr4_3
        have Gr4_3:Vr4_.heap.size≤gr4_3:=by have:=hSr4_2.size;omega
        refine hK.out _ _ hSr4_3 (fun h => ?_)
        clear h hK K hbr4_3 hwr4_3 hgr4_3
        (try simp only [pS])
        refine wpAnyH_ready (rs:=[7]) (by kernel_rfl) (by simp) ?_
        refine AllReadyH.cons (o:=qr4x7) rfl (fun K hK => ?_) (AllReadyH.nil)
        unfold qr4x7
        go_simp
        obtain ⟨wr4_4,gr4_4,hwr4_4,hgr4_4,hbr4_4,rr4_4⟩:=fresh4 wr4_3
        rw [hwr4_4,hgr4_4]
        have hSr4_4:=below_next hSr4_3 hbr4_4
        have Gr4_4:Vr4_.heap.size≤gr4_4:=by have:=hSr4_3.size;omega
        have gr4_3_gr4_4:gr4_3≠gr4_4:=by have:=rr4_3.lt;omega
        replace rr4_3:=rr4_3.still hbr4_4
        refine hK.out _ _ hSr4_4 (fun h => ?_)
        clear h hK K hbr4_4 hwr4_4 hgr4_4
        (try simp only [pS])
        refine wpAnyH_ready (rs:=[8]) (by kernel_rfl) (by simp) ?_
        refine AllReadyH.cons (o:=qr4x8) rfl (fun K hK => ?_) (AllReadyH.nil)
        unfold qr4x8
        rw [if_pos (by rfl)]
        refine num_store _ _ rfl gr4_3 0 pl rfl rfl rr4_3 hSr4_4 Gr4_3 (fun wr4_5 r0 hSr4_5 far => ?_)
        replace rr4_4:=far _ _ _ (by omega) rr4_4
        refine hK.out _ _ hSr4_5 (fun h => ?_)
        clear h hK K far rr4_3
        have rr4_3:=r0
        clear r0
        (try dsimp only [Act.put])
        refine wpAnyH_ready (rs:=[9]) (by kernel_rfl) (by simp) ?_
        refine AllReadyH.cons (o:=qr4x9) rfl (fun K hK => ?_) (AllReadyH.nil)
        unfold qr4x9
        rw [if_pos (by rfl)]
        refine num_store _ _ rfl gr4_4 0 mi rfl rfl rr4_4 hSr4_5 Gr4_4 (fun wr4_6 r0 hSr4_6 far => ?_)
        replace rr4_3:=far _ _ _ (by omega) rr4_3
        refine hK.out _ _ hSr4_6 (fun h => ?_)
        clear h hK K far rr4_4
        have rr4_4:=r0
        clear r0
        (try dsimp only [Act.put])
        refine wpAnyH_done (by kernel_rfl) ?_ _
        refine NoPanic.normal ?_
        go_wp2
        go_meet
        case rel=>exact ⟨gr4_3,gr4_4,rfl,rfl,below_next hdrew hSr4_6,Nat.le_trans hdrew.size Gr4_3,Nat.le_trans hdrew.size Gr4_4,rr4_3,rr4_4,by omega⟩
      · unfold qr4x7
        go_simp
        obtain ⟨wr4_7,gr4_7,hwr4_7,hgr4_7,hbr4_7,rr4_7⟩:=fresh4 wr4_2
        rw [hwr4_7,hgr4_7]
        have hSr4_7:=below_next hSr4_2 hbr4_7
        have Gr4_7:Vr4_.heap.size≤gr4_7:=by have:=hSr4_2.size;omega
        refine hK.out _ _ hSr4_7 (fun h => ?_)
        clear h hK K hbr4_7 hwr4_7 hgr4_7
        (try simp only [pS])
        refine wpAnyH_ready (rs:=[6]) (by kernel_rfl) (by simp) ?_
        refine AllReadyH.cons (o:=qr4x6) rfl (fun K hK => ?_) (AllReadyH.nil)
        unfold qr4x6
        go_simp
        obtain ⟨wr4_8,gr4_8,hwr4_8,hgr4_8,hbr4_8,rr4_8⟩:=fresh4 wr4_7
        rw [hwr4_8,hgr4_8]
        have hSr4_8:=below_next hSr4_7 hbr4_8
        have Gr4_8:Vr4_.heap.size≤gr4_8:=by have:=hSr4_7.size;omega
        have gr4_7_gr4_8:gr4_7≠gr4_8:=by have:=rr4_7.lt;omega
        replace rr4_7:=rr4_7.still hbr4_8
        refine hK.out _ _ hSr4_8 (fun h => ?_)
        clear h hK K hbr4_8 hwr4_8 hgr4_8
        (try simp only [pS])
        refine wpAnyH_ready (rs:=[8]) (by kernel_rfl) (by simp) ?_
        refine AllReadyH.cons (o:=qr4x8) rfl (fun K hK => ?_) (AllReadyH.nil)
        unfold qr4x8
        rw [if_pos (by rfl)]
        refine num_store _ _ rfl gr4_8 0 pl rfl rfl rr4_8 hSr4_8 Gr4_8 (fun wr4_9 r0 hSr4_9 far => ?_)
        replace rr4_7:=far _ _ _ (by omega) rr4_7
        refine hK.out _ _ hSr4_9 (fun h => ?_)
        clear h hK K far rr4_8
        have rr4_8:=r0
        clear r0
        (try dsimp only [Act.put])
        refine wpAnyH_ready (rs:=[9]) (by kernel_rfl) (by simp) ?_
        refine AllReadyH.cons (o:=qr4x9) rfl (fun K hK => ?_) (AllReadyH.nil)
        unfold qr4x9
        rw [if_pos (by rfl)]
        refine num_store _ _ rfl gr4_7 0 mi rfl rfl rr4_7 hSr4_9 Gr4_7 (fun wr4_10 r0 hSr4_10 far => ?_)
        replace rr4_8:=far _ _ _ (by omega) rr4_8
        refine hK.out _ _ hSr4_10 (fun h => ?_)
        clear h hK K far rr4_7
        have rr4_7:=r0
        clear r0
        (try dsimp only [Act.put])
        refine wpAnyH_done (by kernel_rfl) ?_ _
        refine NoPanic.normal ?_
        go_wp2
        go_meet
        case rel=>exact ⟨gr4_8,gr4_7,rfl,rfl,below_next hdrew hSr4_10,Nat.le_trans hdrew.size Gr4_8,Nat.le_trans hdrew.size Gr4_7,rr4_8,rr4_7,by omega⟩
    · unfold qr4x6
      go_simp
      obtain ⟨wr4_11,gr4_11,hwr4_11,hgr4_11,hbr4_11,rr4_11⟩:=fresh4 wr4_1
      rw [hwr4_11,hgr4_11]
      have hSr4_11:=below_next hSr4_1 hbr4_11
      have Gr4_11:Vr4_.heap.size≤gr4_11:=by have:=hSr4_1.size;omega
      refine hK.out _ _ hSr4_11 (fun h => ?_)
      clear h hK K hbr4_11 hwr4_11 hgr4_11
      (try simp only [pS])
      refine wpAnyH_ready (rs:=[5,7]) (by kernel_rfl) (by simp) ?_
      refine AllReadyH.cons (o:=qr4x5) rfl (fun K hK => ?_) (AllReadyH.cons (o:=qr4x7) rfl (fun K hK => ?_) (AllReadyH.nil))
      · unfold qr4x5
        go_simp
        (go_at_call 77;refine (c8h _).mono ?_;rintro e wr4_12 ⟨rfl,hbr4_12⟩)
        (try go_simp)
        have hSr4_12:=below_next hSr4_11 hbr4_12
        replace rr4_11:=rr4_11.still hbr4_12
        refine hK.out _ _ hSr4_12 (fun h => ?_)
        clear h hK K hbr4_12
        (try simp only [pS])
        refine wpAnyH_ready (rs:=[7]) (by kernel_rfl) (by simp) ?_
        refine AllReadyH.cons (o:=qr4x7) rfl (fun K hK => ?_) (AllReadyH.nil)
        unfold qr4x7
        go_simp
        obtain ⟨wr4_13,gr4_13,hwr4_13,hgr4_13,hbr4_13,rr4_13⟩:=fresh4 wr4_12
        rw [hwr4_13,hgr4_13]
        have hSr4_13:=below_next hSr4_12 hbr4_13
        have Gr4_13:Vr4_.heap.size≤gr4_13:=by have:=hSr4_12.size;omega
        have gr4_11_gr4_13:gr4_11≠gr4_13:=by have:=rr4_11.lt;omega
        replace rr4_11:=rr4_11.still hbr4_13
        refine hK.out _ _ hSr4_13 (fun h => ?_)
        clear h hK K hbr4_13 hwr4_13 hgr4_13
        (try simp only [pS])
        refine wpAnyH_ready (rs:=[8]) (by kernel_rfl) (by simp) ?_
        refine AllReadyH.cons (o:=qr4x8) rfl (fun K hK => ?_) (AllReadyH.nil)
        unfold qr4x8
        rw [if_pos (by rfl)]
        refine num_store _ _ rfl gr4_11 0 pl rfl rfl rr4_11 hSr4_13 Gr4_11 (fun wr4_14 r0 hSr4_14 far => ?_)
        replace rr4_13:=far _ _ _ (by omega) rr4_13
        refine hK.out _ _ hSr4_14 (fun h => ?_)
        clear h hK K far rr4_11
        have rr4_11:=r0
        clear r0
        (try dsimp only [Act.put])
        refine wpAnyH_ready (rs:=[9]) (by kernel_rfl) (by simp) ?_
        refine AllReadyH.cons (o:=qr4x9) rfl (fun K hK => ?_) (AllReadyH.nil)
        unfold qr4x9
        rw [if_pos (by rfl)]
        refine num_store _ _ rfl gr4_13 0 mi rfl rfl rr4_13 hSr4_14 Gr4_13 (fun wr4_15 r0 hSr4_15 far => ?_)
        replace rr4_11:=far _ _ _ (by omega) rr4_11
        refine hK.out _ _ hSr4_15 (fun h => ?_)
        clear h hK K far rr4_13
        have rr4_13:=r0
        clear r0
        (try dsimp only [Act.put])
        refine wpAnyH_done (by kernel_rfl) ?_ _
        refine NoPanic.normal ?_
        go_wp2
        go_meet
        case rel=>exact ⟨gr4_11,gr4_13,rfl,rfl,below_next hdrew hSr4_15,Nat.le_trans hdrew.size Gr4_11,Nat.le_trans hdrew.size Gr4_13,rr4_11,rr4_13,by omega⟩
      · unfold qr4x7
        go_simp
        obtain ⟨wr4_16,gr4_16,hwr4_16,hgr4_16,hbr4_16,rr4_16⟩:=fresh4 wr4_11
        rw [hwr4_16,hgr4_16]
        have hSr4_16:=below_next hSr4_11 hbr4_16
        have Gr4_16:Vr4_.heap.size≤gr4_16:=by have:=hSr4_11.size;omega
        have gr4_11_gr4_16:gr4_11≠gr4_16:=by have:=rr4_11.lt;omega
        replace rr4_11:=rr4_11.still hbr4_16
        refine hK.out _ _ hSr4_16 (fun h => ?_)
        clear h hK K hbr4_16 hwr4_16 hgr4_16
        (try simp only [pS])
        refine cl 5 (c8h _) ?_
        (rintro e wr4_17 ⟨rfl,hbr4_17⟩)
        have hSr4_17:=below_next hSr4_16 hbr4_17
        replace rr4_11:=rr4_11.still hbr4_17
        replace rr4_16:=rr4_16.still hbr4_17
        refine ⟨_,rfl,hSr4_17,?_⟩
        clear hbr4_17
        (try simp only [pS])
        refine wpAnyH_ready (rs:=[8]) (by kernel_rfl) (by simp) ?_
        refine AllReadyH.cons (o:=qr4x8) rfl (fun K hK => ?_) (AllReadyH.nil)
        unfold qr4x8
        rw [if_pos (by rfl)]
        refine num_store _ _ rfl gr4_11 0 pl rfl rfl rr4_11 hSr4_17 Gr4_11 (fun wr4_18 r0 hSr4_18 far => ?_)
        replace rr4_16:=far _ _ _ (by omega) rr4_16
        refine hK.out _ _ hSr4_18 (fun h => ?_)
        clear h hK K far rr4_11
        have rr4_11:=r0
        clear r0
        (try dsimp only [Act.put])
        refine wpAnyH_ready (rs:=[9]) (by kernel_rfl) (by simp) ?_
        refine AllReadyH.cons (o:=qr4x9) rfl (fun K hK => ?_) (AllReadyH.nil)
        unfold qr4x9
        rw [if_pos (by rfl)]
        refine num_store _ _ rfl gr4_16 0 mi rfl rfl rr4_16 hSr4_18 Gr4_16 (fun wr4_19 r0 hSr4_19 far => ?_)
        replace rr4_11:=far _ _ _ (by omega) rr4_11
        refine hK.out _ _ hSr4_19 (fun h => ?_)
        clear h hK K far rr4_16
        have rr4_16:=r0
        clear r0
        (try dsimp only [Act.put])
        refine wpAnyH_done (by kernel_rfl) ?_ _
        refine NoPanic.normal ?_
        go_wp2
        go_meet
        case rel=>exact ⟨gr4_11,gr4_16,rfl,rfl,below_next hdrew hSr4_19,Nat.le_trans hdrew.size Gr4_11,Nat.le_trans hdrew.size Gr4_16,rr4_11,rr4_16,by omega⟩
    · unfold qr4x7
      go_simp
      obtain ⟨wr4_20,gr4_20,hwr4_20,hgr4_20,hbr4_20,rr4_20⟩:=fresh4 wr4_1
      rw [hwr4_20,hgr4_20]
      have hSr4_20:=below_next hSr4_1 hbr4_20
      have Gr4_20:Vr4_.heap.size≤gr4_20:=by have:=hSr4_1.size;omega
      refine hK.out _ _ hSr4_20 (fun h => ?_)
      clear h hK K hbr4_20 hwr4_20 hgr4_20
      (try simp only [pS])
      refine wpAnyH_ready (rs:=[5,6]) (by kernel_rfl) (by simp) ?_
      refine AllReadyH.cons (o:=qr4x5) rfl (fun K hK => ?_) (AllReadyH.cons (o:=qr4x6) rfl (fun K hK => ?_) (AllReadyH.nil))
      · unfold qr4x5
        go_simp
        (go_at_call 77;refine (c8h _).mono ?_;rintro e wr4_21 ⟨rfl,hbr4_21⟩)
        (try go_simp)
        have hSr4_21:=below_next hSr4_20 hbr4_21
        replace rr4_20:=rr4_20.still hbr4_21
        refine hK.out _ _ hSr4_21 (fun h => ?_)
        clear h hK K hbr4_21
        (try simp only [pS])
        refine wpAnyH_ready (rs:=[6]) (by kernel_rfl) (by simp) ?_
        refine AllReadyH.cons (o:=qr4x6) rfl (fun K hK => ?_) (AllReadyH.nil)
        unfold qr4x6
        go_simp
        obtain ⟨wr4_22,gr4_22,hwr4_22,hgr4_22,hbr4_22,rr4_22⟩:=fresh4 wr4_21
        rw [hwr4_22,hgr4_22]
        have hSr4_22:=below_next hSr4_21 hbr4_22
        have Gr4_22:Vr4_.heap.size≤gr4_22:=by have:=hSr4_21.size;omega
        have gr4_20_gr4_22:gr4_20≠gr4_22:=by have:=rr4_20.lt;omega
        replace rr4_20:=rr4_20.still hbr4_22
        refine hK.out _ _ hSr4_22 (fun h => ?_)
        clear h hK K hbr4_22 hwr4_22 hgr4_22
        (try simp only [pS])
        refine wpAnyH_ready (rs:=[8]) (by kernel_rfl) (by simp) ?_
        refine AllReadyH.cons (o:=qr4x8) rfl (fun K hK => ?_) (AllReadyH.nil)
        unfold qr4x8
        rw [if_pos (by rfl)]
        refine num_store _ _ rfl gr4_22 0 pl rfl rfl rr4_22 hSr4_22 Gr4_22 (fun wr4_23 r0 hSr4_23 far => ?_)
        replace rr4_20:=far _ _ _ (by omega) rr4_20
        refine hK.out _ _ hSr4_23 (fun h => ?_)
        clear h hK K far rr4_22
        have rr4_22:=r0
        clear r0
        (try dsimp only [Act.put])
        refine wpAnyH_ready (rs:=[9]) (by kernel_rfl) (by simp) ?_
        refine AllReadyH.cons (o:=qr4x9) rfl (fun K hK => ?_) (AllReadyH.nil)
        unfold qr4x9
        rw [if_pos (by rfl)]
        refine num_store _ _ rfl gr4_20 0 mi rfl rfl rr4_20 hSr4_23 Gr4_20 (fun wr4_24 r0 hSr4_24 far => ?_)
        replace rr4_22:=far _ _ _ (by omega) rr4_22
        refine hK.out _ _ hSr4_24 (fun h => ?_)
        clear h hK K far rr4_20
        have rr4_20:=r0
        clear r0
        (try dsimp only [Act.put])
        refine wpAnyH_done (by kernel_rfl) ?_ _
        refine NoPanic.normal ?_
        go_wp2
        go_meet
        case rel=>exact ⟨gr4_22,gr4_20,rfl,rfl,below_next hdrew hSr4_24,Nat.le_trans hdrew.size Gr4_22,Nat.le_trans hdrew.size Gr4_20,rr4_22,rr4_20,by omega⟩
      · unfold qr4x6
        go_simp
        obtain ⟨wr4_25,gr4_25,hwr4_25,hgr4_25,hbr4_25,rr4_25⟩:=fresh4 wr4_20
        rw [hwr4_25,hgr4_25]
        have hSr4_25:=below_next hSr4_20 hbr4_25
        have Gr4_25:Vr4_.heap.size≤gr4_25:=by have:=hSr4_20.size;omega
        have gr4_20_gr4_25:gr4_20≠gr4_25:=by have:=rr4_20.lt;omega
        replace rr4_20:=rr4_20.still hbr4_25
        refine hK.out _ _ hSr4_25 (fun h => ?_)
        clear h hK K hbr4_25 hwr4_25 hgr4_25
        (try simp only [pS])
        refine cl 5 (c8h _) ?_
        (rintro e wr4_26 ⟨rfl,hbr4_26⟩)
        have hSr4_26:=below_next hSr4_25 hbr4_26
        replace rr4_20:=rr4_20.still hbr4_26
        replace rr4_25:=rr4_25.still hbr4_26
        refine ⟨_,rfl,hSr4_26,?_⟩
        clear hbr4_26
        (try simp only [pS])
        refine wpAnyH_ready (rs:=[8]) (by kernel_rfl) (by simp) ?_
        refine AllReadyH.cons (o:=qr4x8) rfl (fun K hK => ?_) (AllReadyH.nil)
        unfold qr4x8
        rw [if_pos (by rfl)]
        refine num_store _ _ rfl gr4_25 0 pl rfl rfl rr4_25 hSr4_26 Gr4_25 (fun wr4_27 r0 hSr4_27 far => ?_)
        replace rr4_20:=far _ _ _ (by omega) rr4_20
        refine hK.out _ _ hSr4_27 (fun h => ?_)
        clear h hK K far rr4_25
        have rr4_25:=r0
        clear r0
        (try dsimp only [Act.put])
        refine wpAnyH_ready (rs:=[9]) (by kernel_rfl) (by simp) ?_
        refine AllReadyH.cons (o:=qr4x9) rfl (fun K hK => ?_) (AllReadyH.nil)
        unfold qr4x9
        rw [if_pos (by rfl)]
        refine num_store _ _ rfl gr4_20 0 mi rfl rfl rr4_20 hSr4_27 Gr4_20 (fun wr4_28 r0 hSr4_28 far => ?_)
        replace rr4_25:=far _ _ _ (by omega) rr4_25
        refine hK.out _ _ hSr4_28 (fun h => ?_)
        clear h hK K far rr4_20
        have rr4_20:=r0
        clear r0
        (try dsimp only [Act.put])
        refine wpAnyH_done (by kernel_rfl) ?_ _
        refine NoPanic.normal ?_
        go_wp2
        go_meet
        case rel=>exact ⟨gr4_25,gr4_20,rfl,rfl,below_next hdrew hSr4_28,Nat.le_trans hdrew.size Gr4_25,Nat.le_trans hdrew.size Gr4_20,rr4_25,rr4_20,by omega⟩
  · unfold qr4x6
    go_simp
    obtain ⟨wr4_29,gr4_29,hwr4_29,hgr4_29,hbr4_29,rr4_29⟩:=fresh4 Vr4_
    rw [hwr4_29,hgr4_29]
    have hSr4_29:=below_next hS hbr4_29
    have Gr4_29:Vr4_.heap.size≤gr4_29:=by have:=hS.size;omega
    refine hK.out _ _ hSr4_29 (fun h => ?_)
    clear h hK K hbr4_29 hwr4_29 hgr4_29
    (try simp only [pS])
    refine wpAnyH_ready (rs:=[2,7]) (by kernel_rfl) (by simp) ?_
    refine AllReadyH.cons (o:=qr4x2) rfl (fun K hK => ?_) (AllReadyH.cons (o:=qr4x7) rfl (fun K hK => ?_) (AllReadyH.nil))
    · unfold qr4x2
      go_simp
      (go_at_call 154;refine (c7 _).mono ?_;rintro e wr4_30 ⟨rfl,hbr4_30⟩)
      (try go_simp)
      have hSr4_30:=below_next hSr4_29 hbr4_30
      replace rr4_29:=rr4_29.still hbr4_30
      refine hK.out _ _ hSr4_30 (fun h => ?_)
      clear h hK K hbr4_30
      (try simp only [pS])
      refine wpAnyH_ready (rs:=[5,7]) (by kernel_rfl) (by simp) ?_
      refine AllReadyH.cons (o:=qr4x5) rfl (fun K hK => ?_) (AllReadyH.cons (o:=qr4x7) rfl (fun K hK => ?_) (AllReadyH.nil))
      · unfold qr4x5
        go_simp
        (go_at_call 77;refine (c8h _).mono ?_;rintro e wr4_31 ⟨rfl,hbr4_31⟩)
        (try go_simp)
        have hSr4_31:=below_next hSr4_30 hbr4_31
        replace rr4_29:=rr4_29.still hbr4_31
        refine hK.out _ _ hSr4_31 (fun h => ?_)
        clear h hK K hbr4_31
        (try simp only [pS])
        refine wpAnyH_ready (rs:=[7]) (by kernel_rfl) (by simp) ?_
        refine AllReadyH.cons (o:=qr4x7) rfl (fun K hK => ?_) (AllReadyH.nil)
        unfold qr4x7
        go_simp
        obtain ⟨wr4_32,gr4_32,hwr4_32,hgr4_32,hbr4_32,rr4_32⟩:=fresh4 wr4_31
        rw [hwr4_32,hgr4_32]
        have hSr4_32:=below_next hSr4_31 hbr4_32
        have Gr4_32:Vr4_.heap.size≤gr4_32:=by have:=hSr4_31.size;omega
        have gr4_29_gr4_32:gr4_29≠gr4_32:=by have:=rr4_29.lt;omega
        replace rr4_29:=rr4_29.still hbr4_32
        refine hK.out _ _ hSr4_32 (fun h => ?_)
        clear h hK K hbr4_32 hwr4_32 hgr4_32
        (try simp only [pS])
        refine wpAnyH_ready (rs:=[8]) (by kernel_rfl) (by simp) ?_
        refine AllReadyH.cons (o:=qr4x8) rfl (fun K hK => ?_) (AllReadyH.nil)
        unfold qr4x8
        rw [if_pos (by rfl)]
        refine num_store _ _ rfl gr4_29 0 pl rfl rfl rr4_29 hSr4_32 Gr4_29 (fun wr4_33 r0 hSr4_33 far => ?_)
        replace rr4_32:=far _ _ _ (by omega) rr4_32
        refine hK.out _ _ hSr4_33 (fun h => ?_)
        clear h hK K far rr4_29
        have rr4_29:=r0
        clear r0
        (try dsimp only [Act.put])
        refine wpAnyH_ready (rs:=[9]) (by kernel_rfl) (by simp) ?_
        refine AllReadyH.cons (o:=qr4x9) rfl (fun K hK => ?_) (AllReadyH.nil)
        unfold qr4x9
        rw [if_pos (by rfl)]
        refine num_store _ _ rfl gr4_32 0 mi rfl rfl rr4_32 hSr4_33 Gr4_32 (fun wr4_34 r0 hSr4_34 far => ?_)
        replace rr4_29:=far _ _ _ (by omega) rr4_29
        refine hK.out _ _ hSr4_34 (fun h => ?_)
        clear h hK K far rr4_32
        have rr4_32:=r0
        clear r0
        (try dsimp only [Act.put])
        refine wpAnyH_done (by kernel_rfl) ?_ _
        refine NoPanic.normal ?_
        go_wp2
        go_meet
        case rel=>exact ⟨gr4_29,gr4_32,rfl,rfl,below_next hdrew hSr4_34,Nat.le_trans hdrew.size Gr4_29,Nat.le_trans hdrew.size Gr4_32,rr4_29,rr4_32,by omega⟩
      · unfold qr4x7
        go_simp
        obtain ⟨wr4_35,gr4_35,hwr4_35,hgr4_35,hbr4_35,rr4_35⟩:=fresh4 wr4_30
        rw [hwr4_35,hgr4_35]
        have hSr4_35:=below_next hSr4_30 hbr4_35
        have Gr4_35:Vr4_.heap.size≤gr4_35:=by have:=hSr4_30.size;omega
        have gr4_29_gr4_35:gr4_29≠gr4_35:=by have:=rr4_29.lt;omega
        replace rr4_29:=rr4_29.still hbr4_35
        refine hK.out _ _ hSr4_35 (fun h => ?_)
        clear h hK K hbr4_35 hwr4_35 hgr4_35
        (try simp only [pS])
        refine cl 5 (c8h _) ?_
        (rintro e wr4_36 ⟨rfl,hbr4_36⟩)
        have hSr4_36:=below_next hSr4_35 hbr4_36
        replace rr4_29:=rr4_29.still hbr4_36
        replace rr4_35:=rr4_35.still hbr4_36
        refine ⟨_,rfl,hSr4_36,?_⟩
        clear hbr4_36
        (try simp only [pS])
        refine wpAnyH_ready (rs:=[8]) (by kernel_rfl) (by simp) ?_
        refine AllReadyH.cons (o:=qr4x8) rfl (fun K hK => ?_) (AllReadyH.nil)
        unfold qr4x8
        rw [if_pos (by rfl)]
        refine num_store _ _ rfl gr4_29 0 pl rfl rfl rr4_29 hSr4_36 Gr4_29 (fun wr4_37 r0 hSr4_37 far => ?_)
        replace rr4_35:=far _ _ _ (by omega) rr4_35
        refine hK.out _ _ hSr4_37 (fun h => ?_)
        clear h hK K far rr4_29
        have rr4_29:=r0
        clear r0
        (try dsimp only [Act.put])
        refine wpAnyH_ready (rs:=[9]) (by kernel_rfl) (by simp) ?_
        refine AllReadyH.cons (o:=qr4x9) rfl (fun K hK => ?_) (AllReadyH.nil)
        unfold qr4x9
        rw [if_pos (by rfl)]
        refine num_store _ _ rfl gr4_35 0 mi rfl rfl rr4_35 hSr4_37 Gr4_35 (fun wr4_38 r0 hSr4_38 far => ?_)
        replace rr4_29:=far _ _ _ (by omega) rr4_29
        refine hK.out _ _ hSr4_38 (fun h => ?_)
        clear h hK K far rr4_35
        have rr4_35:=r0
        clear r0
        (try dsimp only [Act.put])
        refine wpAnyH_done (by kernel_rfl) ?_ _
        refine NoPanic.normal ?_
        go_wp2
        go_meet
        case rel=>exact ⟨gr4_29,gr4_35,rfl,rfl,below_next hdrew hSr4_38,Nat.le_trans hdrew.size Gr4_29,Nat.le_trans hdrew.size Gr4_35,rr4_29,rr4_35,by omega⟩
    · unfold qr4x7
      go_simp
      obtain ⟨wr4_39,gr4_39,hwr4_39,hgr4_39,hbr4_39,rr4_39⟩:=fresh4 wr4_29
      rw [hwr4_39,hgr4_39]
      have hSr4_39:=below_next hSr4_29 hbr4_39
      have Gr4_39:Vr4_.heap.size≤gr4_39:=by have:=hSr4_29.size;omega
      have gr4_29_gr4_39:gr4_29≠gr4_39:=by have:=rr4_29.lt;omega
      replace rr4_29:=rr4_29.still hbr4_39
      refine hK.out _ _ hSr4_39 (fun h => ?_)
      clear h hK K hbr4_39 hwr4_39 hgr4_39
      (try simp only [pS])
      refine cl 2 (c7 _) ?_
      (rintro e wr4_40 ⟨rfl,hbr4_40⟩)
      have hSr4_40:=below_next hSr4_39 hbr4_40
      replace rr4_29:=rr4_29.still hbr4_40
      replace rr4_39:=rr4_39.still hbr4_40
      refine ⟨_,rfl,hSr4_40,?_⟩
      clear hbr4_40
      (try simp only [pS])
      refine cl 5 (c8h _) ?_
      (rintro e wr4_41 ⟨rfl,hbr4_41⟩)
      have hSr4_41:=below_next hSr4_40 hbr4_41
      replace rr4_29:=rr4_29.still hbr4_41
      replace rr4_39:=rr4_39.still hbr4_41
      refine ⟨_,rfl,hSr4_41,?_⟩
      clear hbr4_41
      (try simp only [pS])
      refine wpAnyH_ready (rs:=[8]) (by kernel_rfl) (by simp) ?_
      refine AllReadyH.cons (o:=qr4x8) rfl (fun K hK => ?_) (AllReadyH.nil)
      unfold qr4x8
      rw [if_pos (by rfl)]
      refine num_store _ _ rfl gr4_29 0 pl rfl rfl rr4_29 hSr4_41 Gr4_29 (fun wr4_42 r0 hSr4_42 far => ?_)
      replace rr4_39:=far _ _ _ (by omega) rr4_39
      refine hK.out _ _ hSr4_42 (fun h => ?_)
      clear h hK K far rr4_29
      have rr4_29:=r0
      clear r0
      (try dsimp only [Act.put])
      refine wpAnyH_ready (rs:=[9]) (by kernel_rfl) (by simp) ?_
      refine AllReadyH.cons (o:=qr4x9) rfl (fun K hK => ?_) (AllReadyH.nil)
      unfold qr4x9
      rw [if_pos (by rfl)]
      refine num_store _ _ rfl gr4_39 0 mi rfl rfl rr4_39 hSr4_42 Gr4_39 (fun wr4_43 r0 hSr4_43 far => ?_)
      replace rr4_29:=far _ _ _ (by omega) rr4_29
      refine hK.out _ _ hSr4_43 (fun h => ?_)
      clear h hK K far rr4_39
      have rr4_39:=r0
      clear r0
      (try dsimp only [Act.put])
      refine wpAnyH_done (by kernel_rfl) ?_ _
      refine NoPanic.normal ?_
      go_wp2
      go_meet
      case rel=>exact ⟨gr4_29,gr4_39,rfl,rfl,below_next hdrew hSr4_43,Nat.le_trans hdrew.size Gr4_29,Nat.le_trans hdrew.size Gr4_39,rr4_29,rr4_39,by omega⟩
  · unfold qr4x7
    go_simp
    obtain ⟨wr4_44,gr4_44,hwr4_44,hgr4_44,hbr4_44,rr4_44⟩:=fresh4 Vr4_
    rw [hwr4_44,hgr4_44]
    have hSr4_44:=below_next hS hbr4_44
    have Gr4_44:Vr4_.heap.size≤gr4_44:=by have:=hS.size;omega
    refine hK.out _ _ hSr4_44 (fun h => ?_)
    clear h hK K hbr4_44 hwr4_44 hgr4_44
    (try simp only [pS])
    refine wpAnyH_ready (rs:=[2,6]) (by kernel_rfl) (by simp) ?_
    refine AllReadyH.cons (o:=qr4x2) rfl (fun K hK => ?_) (AllReadyH.cons (o:=qr4x6) rfl (fun K hK => ?_) (AllReadyH.nil))
    · unfold qr4x2
      go_simp
      (go_at_call 154;refine (c7 _).mono ?_;rintro e wr4_45 ⟨rfl,hbr4_45⟩)
      (try go_simp)
      have hSr4_45:=below_next hSr4_44 hbr4_45
      replace rr4_44:=rr4_44.still hbr4_45
      refine hK.out _ _ hSr4_45 (fun h => ?_)
      clear h hK K hbr4_45
      (try simp only [pS])
      refine wpAnyH_ready (rs:=[5,6]) (by kernel_rfl) (by simp) ?_
      refine AllReadyH.cons (o:=qr4x5) rfl (fun K hK => ?_) (AllReadyH.cons (o:=qr4x6) rfl (fun K hK => ?_) (AllReadyH.nil))
      · unfold qr4x5
        go_simp
        (go_at_call 77;refine (c8h _).mono ?_;rintro e wr4_46 ⟨rfl,hbr4_46⟩)
        (try go_simp)
        have hSr4_46:=below_next hSr4_45 hbr4_46
        replace rr4_44:=rr4_44.still hbr4_46
        refine hK.out _ _ hSr4_46 (fun h => ?_)
        clear h hK K hbr4_46
        (try simp only [pS])
        refine wpAnyH_ready (rs:=[6]) (by kernel_rfl) (by simp) ?_
        refine AllReadyH.cons (o:=qr4x6) rfl (fun K hK => ?_) (AllReadyH.nil)
        unfold qr4x6
        go_simp
        obtain ⟨wr4_47,gr4_47,hwr4_47,hgr4_47,hbr4_47,rr4_47⟩:=fresh4 wr4_46
        rw [hwr4_47,hgr4_47]
        have hSr4_47:=below_next hSr4_46 hbr4_47
        have Gr4_47:Vr4_.heap.size≤gr4_47:=by have:=hSr4_46.size;omega
        have gr4_44_gr4_47:gr4_44≠gr4_47:=by have:=rr4_44.lt;omega
        replace rr4_44:=rr4_44.still hbr4_47
        refine hK.out _ _ hSr4_47 (fun h => ?_)
        clear h hK K hbr4_47 hwr4_47 hgr4_47
        (try simp only [pS])
        refine wpAnyH_ready (rs:=[8]) (by kernel_rfl) (by simp) ?_
        refine AllReadyH.cons (o:=qr4x8) rfl (fun K hK => ?_) (AllReadyH.nil)
        unfold qr4x8
        rw [if_pos (by rfl)]
        refine num_store _ _ rfl gr4_47 0 pl rfl rfl rr4_47 hSr4_47 Gr4_47 (fun wr4_48 r0 hSr4_48 far => ?_)
        replace rr4_44:=far _ _ _ (by omega) rr4_44
        refine hK.out _ _ hSr4_48 (fun h => ?_)
        clear h hK K far rr4_47
        have rr4_47:=r0
        clear r0
        (try dsimp only [Act.put])
        refine wpAnyH_ready (rs:=[9]) (by kernel_rfl) (by simp) ?_
        refine AllReadyH.cons (o:=qr4x9) rfl (fun K hK => ?_) (AllReadyH.nil)
        unfold qr4x9
        rw [if_pos (by rfl)]
        refine num_store _ _ rfl gr4_44 0 mi rfl rfl rr4_44 hSr4_48 Gr4_44 (fun wr4_49 r0 hSr4_49 far => ?_)
        replace rr4_47:=far _ _ _ (by omega) rr4_47
        refine hK.out _ _ hSr4_49 (fun h => ?_)
        clear h hK K far rr4_44
        have rr4_44:=r0
        clear r0
        (try dsimp only [Act.put])
        refine wpAnyH_done (by kernel_rfl) ?_ _
        refine NoPanic.normal ?_
        go_wp2
        go_meet
        case rel=>exact ⟨gr4_47,gr4_44,rfl,rfl,below_next hdrew hSr4_49,Nat.le_trans hdrew.size Gr4_47,Nat.le_trans hdrew.size Gr4_44,rr4_47,rr4_44,by omega⟩
      · unfold qr4x6
        go_simp
        obtain ⟨wr4_50,gr4_50,hwr4_50,hgr4_50,hbr4_50,rr4_50⟩:=fresh4 wr4_45
        rw [hwr4_50,hgr4_50]
        have hSr4_50:=below_next hSr4_45 hbr4_50
        have Gr4_50:Vr4_.heap.size≤gr4_50:=by have:=hSr4_45.size;omega
        have gr4_44_gr4_50:gr4_44≠gr4_50:=by have:=rr4_44.lt;omega
        replace rr4_44:=rr4_44.still hbr4_50
        refine hK.out _ _ hSr4_50 (fun h => ?_)
        clear h hK K hbr4_50 hwr4_50 hgr4_50
        (try simp only [pS])
        refine cl 5 (c8h _) ?_
        (rintro e wr4_51 ⟨rfl,hbr4_51⟩)
        have hSr4_51:=below_next hSr4_50 hbr4_51
        replace rr4_44:=rr4_44.still hbr4_51
        replace rr4_50:=rr4_50.still hbr4_51
        refine ⟨_,rfl,hSr4_51,?_⟩
        clear hbr4_51
        (try simp only [pS])
        refine wpAnyH_ready (rs:=[8]) (by kernel_rfl) (by simp) ?_
        refine AllReadyH.cons (o:=qr4x8) rfl (fun K hK => ?_) (AllReadyH.nil)
        unfold qr4x8
        rw [if_pos (by rfl)]
        refine num_store _ _ rfl gr4_50 0 pl rfl rfl rr4_50 hSr4_51 Gr4_50 (fun wr4_52 r0 hSr4_52 far => ?_)
        replace rr4_44:=far _ _ _ (by omega) rr4_44
        refine hK.out _ _ hSr4_52 (fun h => ?_)
        clear h hK K far rr4_50
        have rr4_50:=r0
        clear r0
        (try dsimp only [Act.put])
        refine wpAnyH_ready (rs:=[9]) (by kernel_rfl) (by simp) ?_
        refine AllReadyH.cons (o:=qr4x9) rfl (fun K hK => ?_) (AllReadyH.nil)
        unfold qr4x9
        rw [if_pos (by rfl)]
        refine num_store _ _ rfl gr4_44 0 mi rfl rfl rr4_44 hSr4_52 Gr4_44 (fun wr4_53 r0 hSr4_53 far => ?_)
        replace rr4_50:=far _ _ _ (by omega) rr4_50
        refine hK.out _ _ hSr4_53 (fun h => ?_)
        clear h hK K far rr4_44
        have rr4_44:=r0
        clear r0
        (try dsimp only [Act.put])
        refine wpAnyH_done (by kernel_rfl) ?_ _
        refine NoPanic.normal ?_
        go_wp2
        go_meet
        case rel=>exact ⟨gr4_50,gr4_44,rfl,rfl,below_next hdrew hSr4_53,Nat.le_trans hdrew.size Gr4_50,Nat.le_trans hdrew.size Gr4_44,rr4_50,rr4_44,by omega⟩
    · unfold qr4x6
      go_simp
      obtain ⟨wr4_54,gr4_54,hwr4_54,hgr4_54,hbr4_54,rr4_54⟩:=fresh4 wr4_44
      rw [hwr4_54,hgr4_54]
      have hSr4_54:=below_next hSr4_44 hbr4_54
      have Gr4_54:Vr4_.heap.size≤gr4_54:=by have:=hSr4_44.size;omega
      have gr4_44_gr4_54:gr4_44≠gr4_54:=by have:=rr4_44.lt;omega
      replace rr4_44:=rr4_44.still hbr4_54
      refine hK.out _ _ hSr4_54 (fun h => ?_)
      clear h hK K hbr4_54 hwr4_54 hgr4_54
      (try simp only [pS])
      refine cl 2 (c7 _) ?_
      (rintro e wr4_55 ⟨rfl,hbr4_55⟩)
      have hSr4_55:=below_next hSr4_54 hbr4_55
      replace rr4_44:=rr4_44.still hbr4_55
      replace rr4_54:=rr4_54.still hbr4_55
      refine ⟨_,rfl,hSr4_55,?_⟩
      clear hbr4_55
      (try simp only [pS])
      refine cl 5 (c8h _) ?_
      (rintro e wr4_56 ⟨rfl,hbr4_56⟩)
      have hSr4_56:=below_next hSr4_55 hbr4_56
      replace rr4_44:=rr4_44.still hbr4_56
      replace rr4_54:=rr4_54.still hbr4_56
      refine ⟨_,rfl,hSr4_56,?_⟩
      clear hbr4_56
      (try simp only [pS])
      refine wpAnyH_ready (rs:=[8]) (by kernel_rfl) (by simp) ?_
      refine AllReadyH.cons (o:=qr4x8) rfl (fun K hK => ?_) (AllReadyH.nil)
      unfold qr4x8
      rw [if_pos (by rfl)]
      refine num_store _ _ rfl gr4_54 0 pl rfl rfl rr4_54 hSr4_56 Gr4_54 (fun wr4_57 r0 hSr4_57 far => ?_)
      replace rr4_44:=far _ _ _ (by omega) rr4_44
      refine hK.out _ _ hSr4_57 (fun h => ?_)
      clear h hK K far rr4_54
      have rr4_54:=r0
      clear r0
      (try dsimp only [Act.put])
      refine wpAnyH_ready (rs:=[9]) (by kernel_rfl) (by simp) ?_
      refine AllReadyH.cons (o:=qr4x9) rfl (fun K hK => ?_) (AllReadyH.nil)
      unfold qr4x9
      rw [if_pos (by rfl)]
      refine num_store _ _ rfl gr4_44 0 mi rfl rfl rr4_44 hSr4_57 Gr4_44 (fun wr4_58 r0 hSr4_58 far => ?_)
      replace rr4_54:=far _ _ _ (by omega) rr4_54
      refine hK.out _ _ hSr4_58 (fun h => ?_)
      clear h hK K far rr4_44
      have rr4_44:=r0
      clear r0
      (try dsimp only [Act.put])
      refine wpAnyH_done (by kernel_rfl) ?_ _
      refine NoPanic.normal ?_
      go_wp2
      go_meet
      case rel=>exact ⟨gr4_54,gr4_44,rfl,rfl,below_next hdrew hSr4_58,Nat.le_trans hdrew.size Gr4_54,Nat.le_trans hdrew.size Gr4_44,rr4_54,rr4_44,by omega⟩
 case rest =>
 obtain ⟨g10,g11,rfl,rfl,hb10,G10,G11,h10,h11,ne10⟩:=hcut
 replace hp:=hp.still hb10
 replace hq:=hq.still hb10
 replace hu:=hu.still hb10
 replace h4:=h4.still hb10
 replace h5:=h5.still hb10
 replace h6:=h6.still hb10
 replace h7:=h7.still hb10
 replace h8:=h8.still hb10
 replace h9:=h9.still hb10
 obtain ⟨W4,hW4⟩:∃ W,W=wc:=⟨_,rfl⟩
 rw [←hW4]
 rw [←hW4] at hp
 rw [←hW4] at hq
 rw [←hW4] at hu
 rw [←hW4] at h4
 rw [←hW4] at h5
 rw [←hW4] at h6
 rw [←hW4] at h7
 rw [←hW4] at h8
 rw [←hW4] at h9
 rw [←hW4] at h10
 rw [←hW4] at h11
 rw [←hW4] at hb10
 have lt4:W4.heap.size≤W4.heap.size:=Nat.le_refl _
 clear hW4
 go_wp2
 go_cut [12,13] from 15 (fun s12 s13 wc=>∃ g12 g13,s12 = .pointer (some ⟨g12,0,none⟩)∧s13 = .pointer (some ⟨g13,0,none⟩)∧Below W4.heap.size W4 wc∧W4.heap.size≤g12∧W4.heap.size≤g13∧RW wc g12 0 (c4 aa)∧RW wc g13 0 (c4 bb)∧g12≠g13)
 case first =>
  clear c1 c2 c3 c4h c5 c6 c7 c8h c11 c12 c13 c14 c15 c16 c17 c18 c19
  have hdrew:Below W4.heap.size W4 W4.drew:=(Below.refl _ _).drew
  replace hp:=hp.still hdrew
  replace hq:=hq.still hdrew
  replace hu:=hu.still hdrew
  replace h4:=h4.still hdrew
  replace h5:=h5.still hdrew
  replace h6:=h6.still hdrew
  replace h7:=h7.still hdrew
  replace h8:=h8.still hdrew
  replace h9:=h9.still hdrew
  replace h10:=h10.still hdrew
  replace h11:=h11.still hdrew
  refine wp_region_noPanic ?_
  refine wp_region_held_drew (S:=fun w'=>Below W4.drew.heap.size W4.drew w') (by kernel_rfl) (Below.refl _ _) (fun hS => ?_)
  generalize W4.drew=Vr5_ at *
  refine tk 0 (numV a) hS (hy:=(ldN h4 4)) (h := ?_)
  (try simp only [pS])
  refine tk 1 (numV a) hS (hy:=(ldN h4 4)) (h := ?_)
  (try simp only [pS])
  refine tk 3 (numV b) hS (hy:=(ldN h5 5)) (h := ?_)
  (try simp only [pS])
  refine tk 4 (numV b) hS (hy:=(ldN h5 5)) (h := ?_)
  (try simp only [pS])
  refine wpAnyH_ready (rs:=[2,6,7]) (by kernel_rfl) (by simp) ?_
  refine AllReadyH.cons (o:=qr5x2) rfl (fun K hK => ?_) (AllReadyH.cons (o:=qr5x6) rfl (fun K hK => ?_) (AllReadyH.cons (o:=qr5x7) rfl (fun K hK => ?_) (AllReadyH.nil)))
  · unfold qr5x2
    go_simp
    (go_at_call 126;refine (c9 _).mono ?_;rintro e wr5_1 ⟨rfl,hbr5_1⟩)
    (try go_simp)
    have hSr5_1:=below_next hS hbr5_1
    refine hK.out _ _ hSr5_1 (fun h => ?_)
    clear h hK K hbr5_1
    (try simp only [pS])
    refine wpAnyH_ready (rs:=[5,6,7]) (by kernel_rfl) (by simp) ?_
    refine AllReadyH.cons (o:=qr5x5) rfl (fun K hK => ?_) (AllReadyH.cons (o:=qr5x6) rfl (fun K hK => ?_) (AllReadyH.cons (o:=qr5x7) rfl (fun K hK => ?_) (AllReadyH.nil)))
    · unfold qr5x5
      go_simp
      (go_at_call 126;refine (c10 _).mono ?_;rintro e wr5_2 ⟨rfl,hbr5_2⟩)
      (try go_simp)
      have hSr5_2:=below_next hSr5_1 hbr5_2
      refine hK.out _ _ hSr5_2 (fun h => ?_)
      clear h hK K hbr5_2
      (try simp only [pS])
      refine wpAnyH_ready (rs:=[6,7]) (by kernel_rfl) (by simp) ?_
      refine AllReadyH.cons (o:=qr5x6) rfl (fun K hK => ?_) (AllReadyH.cons (o:=qr5x7) rfl (fun K hK => ?_) (AllReadyH.nil))
      · unfold qr5x6
        go_simp
        obtain ⟨wr5_3,gr5_3,hwr5_3,hgr5_3,hbr5_3,rr5_3⟩:=fresh4 wr5_2
        rw [hwr5_3,hgr5_3]
        have hSr5_3:=below_next hSr5_2 hbr5_3
        have Gr5_3:Vr5_.heap.size≤gr5_3:=by have:=hSr5_2.size;omega
        refine hK.out _ _ hSr5_3 (fun h => ?_)
        clear h hK K hbr5_3 hwr5_3 hgr5_3
        (try simp only [pS])
        refine wpAnyH_ready (rs:=[7]) (by kernel_rfl) (by simp) ?_
        refine AllReadyH.cons (o:=qr5x7) rfl (fun K hK => ?_) (AllReadyH.nil)
        unfold qr5x7
        go_simp
        obtain ⟨wr5_4,gr5_4,hwr5_4,hgr5_4,hbr5_4,rr5_4⟩:=fresh4 wr5_3
        rw [hwr5_4,hgr5_4]
        have hSr5_4:=below_next hSr5_3 hbr5_4
        have Gr5_4:Vr5_.heap.size≤gr5_4:=by have:=hSr5_3.size;omega
        have gr5_3_gr5_4:gr5_3≠gr5_4:=by have:=rr5_3.lt;omega
        replace rr5_3:=rr5_3.still hbr5_4
        refine hK.out _ _ hSr5_4 (fun h => ?_)
        clear h hK K hbr5_4 hwr5_4 hgr5_4
        (try simp only [pS])
        refine wpAnyH_ready (rs:=[8]) (by kernel_rfl) (by simp) ?_
        refine AllReadyH.cons (o:=qr5x8) rfl (fun K hK => ?_) (AllReadyH.nil)
        unfold qr5x8
        rw [if_pos (by rfl)]
        refine num_store _ _ rfl gr5_3 0 aa rfl rfl rr5_3 hSr5_4 Gr5_3 (fun wr5_5 r0 hSr5_5 far => ?_)
        replace rr5_4:=far _ _ _ (by omega) rr5_4
        refine hK.out _ _ hSr5_5 (fun h => ?_)
        clear h hK K far rr5_3
        have rr5_3:=r0
        clear r0
        (try dsimp only [Act.put])
        refine wpAnyH_ready (rs:=[9]) (by kernel_rfl) (by simp) ?_
        refine AllReadyH.cons (o:=qr5x9) rfl (fun K hK => ?_) (AllReadyH.nil)
        unfold qr5x9
        rw [if_pos (by rfl)]
        refine num_store _ _ rfl gr5_4 0 bb rfl rfl rr5_4 hSr5_5 Gr5_4 (fun wr5_6 r0 hSr5_6 far => ?_)
        replace rr5_3:=far _ _ _ (by omega) rr5_3
        refine hK.out _ _ hSr5_6 (fun h => ?_)
        clear h hK K far rr5_4
        have rr5_4:=r0
        clear r0
        (try dsimp only [Act.put])
        refine wpAnyH_done (by kernel_rfl) ?_ _
        refine NoPanic.normal ?_
        go_wp2
        go_meet
        case rel=>exact ⟨gr5_3,gr5_4,rfl,rfl,below_next hdrew hSr5_6,Nat.le_trans hdrew.size Gr5_3,Nat.le_trans hdrew.size Gr5_4,rr5_3,rr5_4,by omega⟩
      · unfold qr5x7
        go_simp
        obtain ⟨wr5_7,gr5_7,hwr5_7,hgr5_7,hbr5_7,rr5_7⟩:=fresh4 wr5_2
        rw [hwr5_7,hgr5_7]
        have hSr5_7:=below_next hSr5_2 hbr5_7
        have Gr5_7:Vr5_.heap.size≤gr5_7:=by have:=hSr5_2.size;omega
        refine hK.out _ _ hSr5_7 (fun h => ?_)
        clear h hK K hbr5_7 hwr5_7 hgr5_7
        (try simp only [pS])
        refine wpAnyH_ready (rs:=[6]) (by kernel_rfl) (by simp) ?_
        refine AllReadyH.cons (o:=qr5x6) rfl (fun K hK => ?_) (AllReadyH.nil)
        unfold qr5x6
        go_simp
        obtain ⟨wr5_8,gr5_8,hwr5_8,hgr5_8,hbr5_8,rr5_8⟩:=fresh4 wr5_7
        rw [hwr5_8,hgr5_8]
        have hSr5_8:=below_next hSr5_7 hbr5_8
        have Gr5_8:Vr5_.heap.size≤gr5_8:=by have:=hSr5_7.size;omega
        have gr5_7_gr5_8:gr5_7≠gr5_8:=by have:=rr5_7.lt;omega
        replace rr5_7:=rr5_7.still hbr5_8
        refine hK.out _ _ hSr5_8 (fun h => ?_)
        clear h hK K hbr5_8 hwr5_8 hgr5_8
        (try simp only [pS])
        refine wpAnyH_ready (rs:=[8]) (by kernel_rfl) (by simp) ?_
        refine AllReadyH.cons (o:=qr5x8) rfl (fun K hK => ?_) (AllReadyH.nil)
        unfold qr5x8
        rw [if_pos (by rfl)]
        refine num_store _ _ rfl gr5_8 0 aa rfl rfl rr5_8 hSr5_8 Gr5_8 (fun wr5_9 r0 hSr5_9 far => ?_)
        replace rr5_7:=far _ _ _ (by omega) rr5_7
        refine hK.out _ _ hSr5_9 (fun h => ?_)
        clear h hK K far rr5_8
        have rr5_8:=r0
        clear r0
        (try dsimp only [Act.put])
        refine wpAnyH_ready (rs:=[9]) (by kernel_rfl) (by simp) ?_
        refine AllReadyH.cons (o:=qr5x9) rfl (fun K hK => ?_) (AllReadyH.nil)
        unfold qr5x9
        rw [if_pos (by rfl)]
        refine num_store _ _ rfl gr5_7 0 bb rfl rfl rr5_7 hSr5_9 Gr5_7 (fun wr5_10 r0 hSr5_10 far => ?_)
        replace rr5_8:=far _ _ _ (by omega) rr5_8
        refine hK.out _ _ hSr5_10 (fun h => ?_)
        clear h hK K far rr5_7
        have rr5_7:=r0
        clear r0
        (try dsimp only [Act.put])
        refine wpAnyH_done (by kernel_rfl) ?_ _
        refine NoPanic.normal ?_
        go_wp2
        go_meet
        case rel=>exact ⟨gr5_8,gr5_7,rfl,rfl,below_next hdrew hSr5_10,Nat.le_trans hdrew.size Gr5_8,Nat.le_trans hdrew.size Gr5_7,rr5_8,rr5_7,by omega⟩
    · unfold qr5x6
      go_simp
      obtain ⟨wr5_11,gr5_11,hwr5_11,hgr5_11,hbr5_11,rr5_11⟩:=fresh4 wr5_1
      rw [hwr5_11,hgr5_11]
      have hSr5_11:=below_next hSr5_1 hbr5_11
      have Gr5_11:Vr5_.heap.size≤gr5_11:=by have:=hSr5_1.size;omega
      refine hK.out _ _ hSr5_11 (fun h => ?_)
      clear h hK K hbr5_11 hwr5_11 hgr5_11
      (try simp only [pS])
      refine wpAnyH_ready (rs:=[5,7]) (by kernel_rfl) (by simp) ?_
      refine AllReadyH.cons (o:=qr5x5) rfl (fun K hK => ?_) (AllReadyH.cons (o:=qr5x7) rfl (fun K hK => ?_) (AllReadyH.nil))
      · unfold qr5x5
        go_simp
        (go_at_call 126;refine (c10 _).mono ?_;rintro e wr5_12 ⟨rfl,hbr5_12⟩)
        (try go_simp)
        have hSr5_12:=below_next hSr5_11 hbr5_12
        replace rr5_11:=rr5_11.still hbr5_12
        refine hK.out _ _ hSr5_12 (fun h => ?_)
        clear h hK K hbr5_12
        (try simp only [pS])
        refine wpAnyH_ready (rs:=[7]) (by kernel_rfl) (by simp) ?_
        refine AllReadyH.cons (o:=qr5x7) rfl (fun K hK => ?_) (AllReadyH.nil)
        unfold qr5x7
        go_simp
        obtain ⟨wr5_13,gr5_13,hwr5_13,hgr5_13,hbr5_13,rr5_13⟩:=fresh4 wr5_12
        rw [hwr5_13,hgr5_13]
        have hSr5_13:=below_next hSr5_12 hbr5_13
        have Gr5_13:Vr5_.heap.size≤gr5_13:=by have:=hSr5_12.size;omega
        have gr5_11_gr5_13:gr5_11≠gr5_13:=by have:=rr5_11.lt;omega
        replace rr5_11:=rr5_11.still hbr5_13
        refine hK.out _ _ hSr5_13 (fun h => ?_)
        clear h hK K hbr5_13 hwr5_13 hgr5_13
        (try simp only [pS])
        refine wpAnyH_ready (rs:=[8]) (by kernel_rfl) (by simp) ?_
        refine AllReadyH.cons (o:=qr5x8) rfl (fun K hK => ?_) (AllReadyH.nil)
        unfold qr5x8
        rw [if_pos (by rfl)]
        refine num_store _ _ rfl gr5_11 0 aa rfl rfl rr5_11 hSr5_13 Gr5_11 (fun wr5_14 r0 hSr5_14 far => ?_)
        replace rr5_13:=far _ _ _ (by omega) rr5_13
        refine hK.out _ _ hSr5_14 (fun h => ?_)
        clear h hK K far rr5_11
        have rr5_11:=r0
        clear r0
        (try dsimp only [Act.put])
        refine wpAnyH_ready (rs:=[9]) (by kernel_rfl) (by simp) ?_
        refine AllReadyH.cons (o:=qr5x9) rfl (fun K hK => ?_) (AllReadyH.nil)
        unfold qr5x9
        rw [if_pos (by rfl)]
        refine num_store _ _ rfl gr5_13 0 bb rfl rfl rr5_13 hSr5_14 Gr5_13 (fun wr5_15 r0 hSr5_15 far => ?_)
        replace rr5_11:=far _ _ _ (by omega) rr5_11
        refine hK.out _ _ hSr5_15 (fun h => ?_)
        clear h hK K far rr5_13
        have rr5_13:=r0
        clear r0
        (try dsimp only [Act.put])
        refine wpAnyH_done (by kernel_rfl) ?_ _
        refine NoPanic.normal ?_
        go_wp2
        go_meet
        case rel=>exact ⟨gr5_11,gr5_13,rfl,rfl,below_next hdrew hSr5_15,Nat.le_trans hdrew.size Gr5_11,Nat.le_trans hdrew.size Gr5_13,rr5_11,rr5_13,by omega⟩
      · unfold qr5x7
        go_simp
        obtain ⟨wr5_16,gr5_16,hwr5_16,hgr5_16,hbr5_16,rr5_16⟩:=fresh4 wr5_11
        rw [hwr5_16,hgr5_16]
        have hSr5_16:=below_next hSr5_11 hbr5_16
        have Gr5_16:Vr5_.heap.size≤gr5_16:=by have:=hSr5_11.size;omega
        have gr5_11_gr5_16:gr5_11≠gr5_16:=by have:=rr5_11.lt;omega
        replace rr5_11:=rr5_11.still hbr5_16
        refine hK.out _ _ hSr5_16 (fun h => ?_)
        clear h hK K hbr5_16 hwr5_16 hgr5_16
        (try simp only [pS])
        refine cl 5 (c10 _) ?_
        (rintro e wr5_17 ⟨rfl,hbr5_17⟩)
        have hSr5_17:=below_next hSr5_16 hbr5_17
        replace rr5_11:=rr5_11.still hbr5_17
        replace rr5_16:=rr5_16.still hbr5_17
        refine ⟨_,rfl,hSr5_17,?_⟩
        clear hbr5_17
        (try simp only [pS])
        refine wpAnyH_ready (rs:=[8]) (by kernel_rfl) (by simp) ?_
        refine AllReadyH.cons (o:=qr5x8) rfl (fun K hK => ?_) (AllReadyH.nil)
        unfold qr5x8
        rw [if_pos (by rfl)]
        refine num_store _ _ rfl gr5_11 0 aa rfl rfl rr5_11 hSr5_17 Gr5_11 (fun wr5_18 r0 hSr5_18 far => ?_)
        replace rr5_16:=far _ _ _ (by omega) rr5_16
        refine hK.out _ _ hSr5_18 (fun h => ?_)
        clear h hK K far rr5_11
        have rr5_11:=r0
        clear r0
        (try dsimp only [Act.put])
        refine wpAnyH_ready (rs:=[9]) (by kernel_rfl) (by simp) ?_
        refine AllReadyH.cons (o:=qr5x9) rfl (fun K hK => ?_) (AllReadyH.nil)
        unfold qr5x9
        rw [if_pos (by rfl)]
        refine num_store _ _ rfl gr5_16 0 bb rfl rfl rr5_16 hSr5_18 Gr5_16 (fun wr5_19 r0 hSr5_19 far => ?_)
        replace rr5_11:=far _ _ _ (by omega) rr5_11
        refine hK.out _ _ hSr5_19 (fun h => ?_)
        clear h hK K far rr5_16
        have rr5_16:=r0
        clear r0
        (try dsimp only [Act.put])
        refine wpAnyH_done (by kernel_rfl) ?_ _
        refine NoPanic.normal ?_
        go_wp2
        go_meet
        case rel=>exact ⟨gr5_11,gr5_16,rfl,rfl,below_next hdrew hSr5_19,Nat.le_trans hdrew.size Gr5_11,Nat.le_trans hdrew.size Gr5_16,rr5_11,rr5_16,by omega⟩
    · unfold qr5x7
      go_simp
      obtain ⟨wr5_20,gr5_20,hwr5_20,hgr5_20,hbr5_20,rr5_20⟩:=fresh4 wr5_1
      rw [hwr5_20,hgr5_20]
      have hSr5_20:=below_next hSr5_1 hbr5_20
      have Gr5_20:Vr5_.heap.size≤gr5_20:=by have:=hSr5_1.size;omega
      refine hK.out _ _ hSr5_20 (fun h => ?_)
      clear h hK K hbr5_20 hwr5_20 hgr5_20
      (try simp only [pS])
      refine wpAnyH_ready (rs:=[5,6]) (by kernel_rfl) (by simp) ?_
      refine AllReadyH.cons (o:=qr5x5) rfl (fun K hK => ?_) (AllReadyH.cons (o:=qr5x6) rfl (fun K hK => ?_) (AllReadyH.nil))
      · unfold qr5x5
        go_simp
        (go_at_call 126;refine (c10 _).mono ?_;rintro e wr5_21 ⟨rfl,hbr5_21⟩)
        (try go_simp)
        have hSr5_21:=below_next hSr5_20 hbr5_21
        replace rr5_20:=rr5_20.still hbr5_21
        refine hK.out _ _ hSr5_21 (fun h => ?_)
        clear h hK K hbr5_21
        (try simp only [pS])
        refine wpAnyH_ready (rs:=[6]) (by kernel_rfl) (by simp) ?_
        refine AllReadyH.cons (o:=qr5x6) rfl (fun K hK => ?_) (AllReadyH.nil)
        unfold qr5x6
        go_simp
        obtain ⟨wr5_22,gr5_22,hwr5_22,hgr5_22,hbr5_22,rr5_22⟩:=fresh4 wr5_21
        rw [hwr5_22,hgr5_22]
        have hSr5_22:=below_next hSr5_21 hbr5_22
        have Gr5_22:Vr5_.heap.size≤gr5_22:=by have:=hSr5_21.size;omega
        have gr5_20_gr5_22:gr5_20≠gr5_22:=by have:=rr5_20.lt;omega
        replace rr5_20:=rr5_20.still hbr5_22
        refine hK.out _ _ hSr5_22 (fun h => ?_)
        clear h hK K hbr5_22 hwr5_22 hgr5_22
        (try simp only [pS])
        refine wpAnyH_ready (rs:=[8]) (by kernel_rfl) (by simp) ?_
        refine AllReadyH.cons (o:=qr5x8) rfl (fun K hK => ?_) (AllReadyH.nil)
        unfold qr5x8
        rw [if_pos (by rfl)]
        refine num_store _ _ rfl gr5_22 0 aa rfl rfl rr5_22 hSr5_22 Gr5_22 (fun wr5_23 r0 hSr5_23 far => ?_)
        replace rr5_20:=far _ _ _ (by omega) rr5_20
        refine hK.out _ _ hSr5_23 (fun h => ?_)
        clear h hK K far rr5_22
        have rr5_22:=r0
        clear r0
        (try dsimp only [Act.put])
        refine wpAnyH_ready (rs:=[9]) (by kernel_rfl) (by simp) ?_
        refine AllReadyH.cons (o:=qr5x9) rfl (fun K hK => ?_) (AllReadyH.nil)
        unfold qr5x9
        rw [if_pos (by rfl)]
        refine num_store _ _ rfl gr5_20 0 bb rfl rfl rr5_20 hSr5_23 Gr5_20 (fun wr5_24 r0 hSr5_24 far => ?_)
        replace rr5_22:=far _ _ _ (by omega) rr5_22
        refine hK.out _ _ hSr5_24 (fun h => ?_)
        clear h hK K far rr5_20
        have rr5_20:=r0
        clear r0
        (try dsimp only [Act.put])
        refine wpAnyH_done (by kernel_rfl) ?_ _
        refine NoPanic.normal ?_
        go_wp2
        go_meet
        case rel=>exact ⟨gr5_22,gr5_20,rfl,rfl,below_next hdrew hSr5_24,Nat.le_trans hdrew.size Gr5_22,Nat.le_trans hdrew.size Gr5_20,rr5_22,rr5_20,by omega⟩
      · unfold qr5x6
        go_simp
        obtain ⟨wr5_25,gr5_25,hwr5_25,hgr5_25,hbr5_25,rr5_25⟩:=fresh4 wr5_20
        rw [hwr5_25,hgr5_25]
        have hSr5_25:=below_next hSr5_20 hbr5_25
        have Gr5_25:Vr5_.heap.size≤gr5_25:=by have:=hSr5_20.size;omega
        have gr5_20_gr5_25:gr5_20≠gr5_25:=by have:=rr5_20.lt;omega
        replace rr5_20:=rr5_20.still hbr5_25
        refine hK.out _ _ hSr5_25 (fun h => ?_)
        clear h hK K hbr5_25 hwr5_25 hgr5_25
        (try simp only [pS])
        refine cl 5 (c10 _) ?_
        (rintro e wr5_26 ⟨rfl,hbr5_26⟩)
        have hSr5_26:=below_next hSr5_25 hbr5_26
        replace rr5_20:=rr5_20.still hbr5_26
        replace rr5_25:=rr5_25.still hbr5_26
        refine ⟨_,rfl,hSr5_26,?_⟩
        clear hbr5_26
        (try simp only [pS])
        refine wpAnyH_ready (rs:=[8]) (by kernel_rfl) (by simp) ?_
        refine AllReadyH.cons (o:=qr5x8) rfl (fun K hK => ?_) (AllReadyH.nil)
        unfold qr5x8
        rw [if_pos (by rfl)]
        refine num_store _ _ rfl gr5_25 0 aa rfl rfl rr5_25 hSr5_26 Gr5_25 (fun wr5_27 r0 hSr5_27 far => ?_)
        replace rr5_20:=far _ _ _ (by omega) rr5_20
        refine hK.out _ _ hSr5_27 (fun h => ?_)
        clear h hK K far rr5_25
        have rr5_25:=r0
        clear r0
        (try dsimp only [Act.put])
        refine wpAnyH_ready (rs:=[9]) (by kernel_rfl) (by simp) ?_
        refine AllReadyH.cons (o:=qr5x9) rfl (fun K hK => ?_) (AllReadyH.nil)
        unfold qr5x9
        rw [if_pos (by rfl)]
        refine num_store _ _ rfl gr5_20 0 bb rfl rfl rr5_20 hSr5_27 Gr5_20 (fun wr5_28 r0 hSr5_28 far => ?_)
        replace rr5_25:=far _ _ _ (by omega) rr5_25
        refine hK.out _ _ hSr5_28 (fun h => ?_)
        clear h hK K far rr5_20
        have rr5_20:=r0
        clear r0
        (try dsimp only [Act.put])
        refine wpAnyH_done (by kernel_rfl) ?_ _
        refine NoPanic.normal ?_
        go_wp2
        go_meet
        case rel=>exact ⟨gr5_25,gr5_20,rfl,rfl,below_next hdrew hSr5_28,Nat.le_trans hdrew.size Gr5_25,Nat.le_trans hdrew.size Gr5_20,rr5_25,rr5_20,by omega⟩
  · unfold qr5x6
    go_simp
    obtain ⟨wr5_29,gr5_29,hwr5_29,hgr5_29,hbr5_29,rr5_29⟩:=fresh4 Vr5_
    rw [hwr5_29,hgr5_29]
    have hSr5_29:=below_next hS hbr5_29
    have Gr5_29:Vr5_.heap.size≤gr5_29:=by have:=hS.size;omega
    refine hK.out _ _ hSr5_29 (fun h => ?_)
    clear h hK K hbr5_29 hwr5_29 hgr5_29
    (try simp only [pS])
    refine wpAnyH_ready (rs:=[2,7]) (by kernel_rfl) (by simp) ?_
    refine AllReadyH.cons (o:=qr5x2) rfl (fun K hK => ?_) (AllReadyH.cons (o:=qr5x7) rfl (fun K hK => ?_) (AllReadyH.nil))
    · unfold qr5x2
      go_simp
      (go_at_call 126;refine (c9 _).mono ?_;rintro e wr5_30 ⟨rfl,hbr5_30⟩)
      (try go_simp)
      have hSr5_30:=below_next hSr5_29 hbr5_30
      replace rr5_29:=rr5_29.still hbr5_30
      refine hK.out _ _ hSr5_30 (fun h => ?_)
      clear h hK K hbr5_30
      (try simp only [pS])
      refine wpAnyH_ready (rs:=[5,7]) (by kernel_rfl) (by simp) ?_
      refine AllReadyH.cons (o:=qr5x5) rfl (fun K hK => ?_) (AllReadyH.cons (o:=qr5x7) rfl (fun K hK => ?_) (AllReadyH.nil))
      · unfold qr5x5
        go_simp
        (go_at_call 126;refine (c10 _).mono ?_;rintro e wr5_31 ⟨rfl,hbr5_31⟩)
        (try go_simp)
        have hSr5_31:=below_next hSr5_30 hbr5_31
        replace rr5_29:=rr5_29.still hbr5_31
        refine hK.out _ _ hSr5_31 (fun h => ?_)
        clear h hK K hbr5_31
        (try simp only [pS])
        refine wpAnyH_ready (rs:=[7]) (by kernel_rfl) (by simp) ?_
        refine AllReadyH.cons (o:=qr5x7) rfl (fun K hK => ?_) (AllReadyH.nil)
        unfold qr5x7
        go_simp
        obtain ⟨wr5_32,gr5_32,hwr5_32,hgr5_32,hbr5_32,rr5_32⟩:=fresh4 wr5_31
        rw [hwr5_32,hgr5_32]
        have hSr5_32:=below_next hSr5_31 hbr5_32
        have Gr5_32:Vr5_.heap.size≤gr5_32:=by have:=hSr5_31.size;omega
        have gr5_29_gr5_32:gr5_29≠gr5_32:=by have:=rr5_29.lt;omega
        replace rr5_29:=rr5_29.still hbr5_32
        refine hK.out _ _ hSr5_32 (fun h => ?_)
        clear h hK K hbr5_32 hwr5_32 hgr5_32
        (try simp only [pS])
        refine wpAnyH_ready (rs:=[8]) (by kernel_rfl) (by simp) ?_
        refine AllReadyH.cons (o:=qr5x8) rfl (fun K hK => ?_) (AllReadyH.nil)
        unfold qr5x8
        rw [if_pos (by rfl)]
        refine num_store _ _ rfl gr5_29 0 aa rfl rfl rr5_29 hSr5_32 Gr5_29 (fun wr5_33 r0 hSr5_33 far => ?_)
        replace rr5_32:=far _ _ _ (by omega) rr5_32
        refine hK.out _ _ hSr5_33 (fun h => ?_)
        clear h hK K far rr5_29
        have rr5_29:=r0
        clear r0
        (try dsimp only [Act.put])
        refine wpAnyH_ready (rs:=[9]) (by kernel_rfl) (by simp) ?_
        refine AllReadyH.cons (o:=qr5x9) rfl (fun K hK => ?_) (AllReadyH.nil)
        unfold qr5x9
        rw [if_pos (by rfl)]
        refine num_store _ _ rfl gr5_32 0 bb rfl rfl rr5_32 hSr5_33 Gr5_32 (fun wr5_34 r0 hSr5_34 far => ?_)
        replace rr5_29:=far _ _ _ (by omega) rr5_29
        refine hK.out _ _ hSr5_34 (fun h => ?_)
        clear h hK K far rr5_32
        have rr5_32:=r0
        clear r0
        (try dsimp only [Act.put])
        refine wpAnyH_done (by kernel_rfl) ?_ _
        refine NoPanic.normal ?_
        go_wp2
        go_meet
        case rel=>exact ⟨gr5_29,gr5_32,rfl,rfl,below_next hdrew hSr5_34,Nat.le_trans hdrew.size Gr5_29,Nat.le_trans hdrew.size Gr5_32,rr5_29,rr5_32,by omega⟩
      · unfold qr5x7
        go_simp
        obtain ⟨wr5_35,gr5_35,hwr5_35,hgr5_35,hbr5_35,rr5_35⟩:=fresh4 wr5_30
        rw [hwr5_35,hgr5_35]
        have hSr5_35:=below_next hSr5_30 hbr5_35
        have Gr5_35:Vr5_.heap.size≤gr5_35:=by have:=hSr5_30.size;omega
        have gr5_29_gr5_35:gr5_29≠gr5_35:=by have:=rr5_29.lt;omega
        replace rr5_29:=rr5_29.still hbr5_35
        refine hK.out _ _ hSr5_35 (fun h => ?_)
        clear h hK K hbr5_35 hwr5_35 hgr5_35
        (try simp only [pS])
        refine cl 5 (c10 _) ?_
        (rintro e wr5_36 ⟨rfl,hbr5_36⟩)
        have hSr5_36:=below_next hSr5_35 hbr5_36
        replace rr5_29:=rr5_29.still hbr5_36
        replace rr5_35:=rr5_35.still hbr5_36
        refine ⟨_,rfl,hSr5_36,?_⟩
        clear hbr5_36
        (try simp only [pS])
        refine wpAnyH_ready (rs:=[8]) (by kernel_rfl) (by simp) ?_
        refine AllReadyH.cons (o:=qr5x8) rfl (fun K hK => ?_) (AllReadyH.nil)
        unfold qr5x8
        rw [if_pos (by rfl)]
        refine num_store _ _ rfl gr5_29 0 aa rfl rfl rr5_29 hSr5_36 Gr5_29 (fun wr5_37 r0 hSr5_37 far => ?_)
        replace rr5_35:=far _ _ _ (by omega) rr5_35
        refine hK.out _ _ hSr5_37 (fun h => ?_)
        clear h hK K far rr5_29
        have rr5_29:=r0
        clear r0
        (try dsimp only [Act.put])
        refine wpAnyH_ready (rs:=[9]) (by kernel_rfl) (by simp) ?_
        refine AllReadyH.cons (o:=qr5x9) rfl (fun K hK => ?_) (AllReadyH.nil)
        unfold qr5x9
        rw [if_pos (by rfl)]
        refine num_store _ _ rfl gr5_35 0 bb rfl rfl rr5_35 hSr5_37 Gr5_35 (fun wr5_38 r0 hSr5_38 far => ?_)
        replace rr5_29:=far _ _ _ (by omega) rr5_29
        refine hK.out _ _ hSr5_38 (fun h => ?_)
        clear h hK K far rr5_35
        have rr5_35:=r0
        clear r0
        (try dsimp only [Act.put])
        refine wpAnyH_done (by kernel_rfl) ?_ _
        refine NoPanic.normal ?_
        go_wp2
        go_meet
        case rel=>exact ⟨gr5_29,gr5_35,rfl,rfl,below_next hdrew hSr5_38,Nat.le_trans hdrew.size Gr5_29,Nat.le_trans hdrew.size Gr5_35,rr5_29,rr5_35,by omega⟩
    · unfold qr5x7
      go_simp
      obtain ⟨wr5_39,gr5_39,hwr5_39,hgr5_39,hbr5_39,rr5_39⟩:=fresh4 wr5_29
      rw [hwr5_39,hgr5_39]
      have hSr5_39:=below_next hSr5_29 hbr5_39
      have Gr5_39:Vr5_.heap.size≤gr5_39:=by have:=hSr5_29.size;omega
      have gr5_29_gr5_39:gr5_29≠gr5_39:=by have:=rr5_29.lt;omega
      replace rr5_29:=rr5_29.still hbr5_39
      refine hK.out _ _ hSr5_39 (fun h => ?_)
      clear h hK K hbr5_39 hwr5_39 hgr5_39
      (try simp only [pS])
      refine cl 2 (c9 _) ?_
      (rintro e wr5_40 ⟨rfl,hbr5_40⟩)
      have hSr5_40:=below_next hSr5_39 hbr5_40
      replace rr5_29:=rr5_29.still hbr5_40
      replace rr5_39:=rr5_39.still hbr5_40
      refine ⟨_,rfl,hSr5_40,?_⟩
      clear hbr5_40
      (try simp only [pS])
      refine cl 5 (c10 _) ?_
      (rintro e wr5_41 ⟨rfl,hbr5_41⟩)
      have hSr5_41:=below_next hSr5_40 hbr5_41
      replace rr5_29:=rr5_29.still hbr5_41
      replace rr5_39:=rr5_39.still hbr5_41
      refine ⟨_,rfl,hSr5_41,?_⟩
      clear hbr5_41
      (try simp only [pS])
      refine wpAnyH_ready (rs:=[8]) (by kernel_rfl) (by simp) ?_
      refine AllReadyH.cons (o:=qr5x8) rfl (fun K hK => ?_) (AllReadyH.nil)
      unfold qr5x8
      rw [if_pos (by rfl)]
      refine num_store _ _ rfl gr5_29 0 aa rfl rfl rr5_29 hSr5_41 Gr5_29 (fun wr5_42 r0 hSr5_42 far => ?_)
      replace rr5_39:=far _ _ _ (by omega) rr5_39
      refine hK.out _ _ hSr5_42 (fun h => ?_)
      clear h hK K far rr5_29
      have rr5_29:=r0
      clear r0
      (try dsimp only [Act.put])
      refine wpAnyH_ready (rs:=[9]) (by kernel_rfl) (by simp) ?_
      refine AllReadyH.cons (o:=qr5x9) rfl (fun K hK => ?_) (AllReadyH.nil)
      unfold qr5x9
      rw [if_pos (by rfl)]
      refine num_store _ _ rfl gr5_39 0 bb rfl rfl rr5_39 hSr5_42 Gr5_39 (fun wr5_43 r0 hSr5_43 far => ?_)
      replace rr5_29:=far _ _ _ (by omega) rr5_29
      refine hK.out _ _ hSr5_43 (fun h => ?_)
      clear h hK K far rr5_39
      have rr5_39:=r0
      clear r0
      (try dsimp only [Act.put])
      refine wpAnyH_done (by kernel_rfl) ?_ _
      refine NoPanic.normal ?_
      go_wp2
      go_meet
      case rel=>exact ⟨gr5_29,gr5_39,rfl,rfl,below_next hdrew hSr5_43,Nat.le_trans hdrew.size Gr5_29,Nat.le_trans hdrew.size Gr5_39,rr5_29,rr5_39,by omega⟩
  · unfold qr5x7
    go_simp
    obtain ⟨wr5_44,gr5_44,hwr5_44,hgr5_44,hbr5_44,rr5_44⟩:=fresh4 Vr5_
    rw [hwr5_44,hgr5_44]
    have hSr5_44:=below_next hS hbr5_44
    have Gr5_44:Vr5_.heap.size≤gr5_44:=by have:=hS.size;omega
    refine hK.out _ _ hSr5_44 (fun h => ?_)
    clear h hK K hbr5_44 hwr5_44 hgr5_44
    (try simp only [pS])
    refine wpAnyH_ready (rs:=[2,6]) (by kernel_rfl) (by simp) ?_
    refine AllReadyH.cons (o:=qr5x2) rfl (fun K hK => ?_) (AllReadyH.cons (o:=qr5x6) rfl (fun K hK => ?_) (AllReadyH.nil))
    · unfold qr5x2
      go_simp
      (go_at_call 126;refine (c9 _).mono ?_;rintro e wr5_45 ⟨rfl,hbr5_45⟩)
      (try go_simp)
      have hSr5_45:=below_next hSr5_44 hbr5_45
      replace rr5_44:=rr5_44.still hbr5_45
      refine hK.out _ _ hSr5_45 (fun h => ?_)
      clear h hK K hbr5_45
      (try simp only [pS])
      refine wpAnyH_ready (rs:=[5,6]) (by kernel_rfl) (by simp) ?_
      refine AllReadyH.cons (o:=qr5x5) rfl (fun K hK => ?_) (AllReadyH.cons (o:=qr5x6) rfl (fun K hK => ?_) (AllReadyH.nil))
      · unfold qr5x5
        go_simp
        (go_at_call 126;refine (c10 _).mono ?_;rintro e wr5_46 ⟨rfl,hbr5_46⟩)
        (try go_simp)
        have hSr5_46:=below_next hSr5_45 hbr5_46
        replace rr5_44:=rr5_44.still hbr5_46
        refine hK.out _ _ hSr5_46 (fun h => ?_)
        clear h hK K hbr5_46
        (try simp only [pS])
        refine wpAnyH_ready (rs:=[6]) (by kernel_rfl) (by simp) ?_
        refine AllReadyH.cons (o:=qr5x6) rfl (fun K hK => ?_) (AllReadyH.nil)
        unfold qr5x6
        go_simp
        obtain ⟨wr5_47,gr5_47,hwr5_47,hgr5_47,hbr5_47,rr5_47⟩:=fresh4 wr5_46
        rw [hwr5_47,hgr5_47]
        have hSr5_47:=below_next hSr5_46 hbr5_47
        have Gr5_47:Vr5_.heap.size≤gr5_47:=by have:=hSr5_46.size;omega
        have gr5_44_gr5_47:gr5_44≠gr5_47:=by have:=rr5_44.lt;omega
        replace rr5_44:=rr5_44.still hbr5_47
        refine hK.out _ _ hSr5_47 (fun h => ?_)
        clear h hK K hbr5_47 hwr5_47 hgr5_47
        (try simp only [pS])
        refine wpAnyH_ready (rs:=[8]) (by kernel_rfl) (by simp) ?_
        refine AllReadyH.cons (o:=qr5x8) rfl (fun K hK => ?_) (AllReadyH.nil)
        unfold qr5x8
        rw [if_pos (by rfl)]
        refine num_store _ _ rfl gr5_47 0 aa rfl rfl rr5_47 hSr5_47 Gr5_47 (fun wr5_48 r0 hSr5_48 far => ?_)
        replace rr5_44:=far _ _ _ (by omega) rr5_44
        refine hK.out _ _ hSr5_48 (fun h => ?_)
        clear h hK K far rr5_47
        have rr5_47:=r0
        clear r0
        (try dsimp only [Act.put])
        refine wpAnyH_ready (rs:=[9]) (by kernel_rfl) (by simp) ?_
        refine AllReadyH.cons (o:=qr5x9) rfl (fun K hK => ?_) (AllReadyH.nil)
        unfold qr5x9
        rw [if_pos (by rfl)]
        refine num_store _ _ rfl gr5_44 0 bb rfl rfl rr5_44 hSr5_48 Gr5_44 (fun wr5_49 r0 hSr5_49 far => ?_)
        replace rr5_47:=far _ _ _ (by omega) rr5_47
        refine hK.out _ _ hSr5_49 (fun h => ?_)
        clear h hK K far rr5_44
        have rr5_44:=r0
        clear r0
        (try dsimp only [Act.put])
        refine wpAnyH_done (by kernel_rfl) ?_ _
        refine NoPanic.normal ?_
        go_wp2
        go_meet
        case rel=>exact ⟨gr5_47,gr5_44,rfl,rfl,below_next hdrew hSr5_49,Nat.le_trans hdrew.size Gr5_47,Nat.le_trans hdrew.size Gr5_44,rr5_47,rr5_44,by omega⟩
      · unfold qr5x6
        go_simp
        obtain ⟨wr5_50,gr5_50,hwr5_50,hgr5_50,hbr5_50,rr5_50⟩:=fresh4 wr5_45
        rw [hwr5_50,hgr5_50]
        have hSr5_50:=below_next hSr5_45 hbr5_50
        have Gr5_50:Vr5_.heap.size≤gr5_50:=by have:=hSr5_45.size;omega
        have gr5_44_gr5_50:gr5_44≠gr5_50:=by have:=rr5_44.lt;omega
        replace rr5_44:=rr5_44.still hbr5_50
        refine hK.out _ _ hSr5_50 (fun h => ?_)
        clear h hK K hbr5_50 hwr5_50 hgr5_50
        (try simp only [pS])
        refine cl 5 (c10 _) ?_
        (rintro e wr5_51 ⟨rfl,hbr5_51⟩)
        have hSr5_51:=below_next hSr5_50 hbr5_51
        replace rr5_44:=rr5_44.still hbr5_51
        replace rr5_50:=rr5_50.still hbr5_51
        refine ⟨_,rfl,hSr5_51,?_⟩
        clear hbr5_51
        (try simp only [pS])
        refine wpAnyH_ready (rs:=[8]) (by kernel_rfl) (by simp) ?_
        refine AllReadyH.cons (o:=qr5x8) rfl (fun K hK => ?_) (AllReadyH.nil)
        unfold qr5x8
        rw [if_pos (by rfl)]
        refine num_store _ _ rfl gr5_50 0 aa rfl rfl rr5_50 hSr5_51 Gr5_50 (fun wr5_52 r0 hSr5_52 far => ?_)
        replace rr5_44:=far _ _ _ (by omega) rr5_44
        refine hK.out _ _ hSr5_52 (fun h => ?_)
        clear h hK K far rr5_50
        have rr5_50:=r0
        clear r0
        (try dsimp only [Act.put])
        refine wpAnyH_ready (rs:=[9]) (by kernel_rfl) (by simp) ?_
        refine AllReadyH.cons (o:=qr5x9) rfl (fun K hK => ?_) (AllReadyH.nil)
        unfold qr5x9
        rw [if_pos (by rfl)]
        refine num_store _ _ rfl gr5_44 0 bb rfl rfl rr5_44 hSr5_52 Gr5_44 (fun wr5_53 r0 hSr5_53 far => ?_)
        replace rr5_50:=far _ _ _ (by omega) rr5_50
        refine hK.out _ _ hSr5_53 (fun h => ?_)
        clear h hK K far rr5_44
        have rr5_44:=r0
        clear r0
        (try dsimp only [Act.put])
        refine wpAnyH_done (by kernel_rfl) ?_ _
        refine NoPanic.normal ?_
        go_wp2
        go_meet
        case rel=>exact ⟨gr5_50,gr5_44,rfl,rfl,below_next hdrew hSr5_53,Nat.le_trans hdrew.size Gr5_50,Nat.le_trans hdrew.size Gr5_44,rr5_50,rr5_44,by omega⟩
    · unfold qr5x6
      go_simp
      obtain ⟨wr5_54,gr5_54,hwr5_54,hgr5_54,hbr5_54,rr5_54⟩:=fresh4 wr5_44
      rw [hwr5_54,hgr5_54]
      have hSr5_54:=below_next hSr5_44 hbr5_54
      have Gr5_54:Vr5_.heap.size≤gr5_54:=by have:=hSr5_44.size;omega
      have gr5_44_gr5_54:gr5_44≠gr5_54:=by have:=rr5_44.lt;omega
      replace rr5_44:=rr5_44.still hbr5_54
      refine hK.out _ _ hSr5_54 (fun h => ?_)
      clear h hK K hbr5_54 hwr5_54 hgr5_54
      (try simp only [pS])
      refine cl 2 (c9 _) ?_
      (rintro e wr5_55 ⟨rfl,hbr5_55⟩)
      have hSr5_55:=below_next hSr5_54 hbr5_55
      replace rr5_44:=rr5_44.still hbr5_55
      replace rr5_54:=rr5_54.still hbr5_55
      refine ⟨_,rfl,hSr5_55,?_⟩
      clear hbr5_55
      (try simp only [pS])
      refine cl 5 (c10 _) ?_
      (rintro e wr5_56 ⟨rfl,hbr5_56⟩)
      have hSr5_56:=below_next hSr5_55 hbr5_56
      replace rr5_44:=rr5_44.still hbr5_56
      replace rr5_54:=rr5_54.still hbr5_56
      refine ⟨_,rfl,hSr5_56,?_⟩
      clear hbr5_56
      (try simp only [pS])
      refine wpAnyH_ready (rs:=[8]) (by kernel_rfl) (by simp) ?_
      refine AllReadyH.cons (o:=qr5x8) rfl (fun K hK => ?_) (AllReadyH.nil)
      unfold qr5x8
      rw [if_pos (by rfl)]
      refine num_store _ _ rfl gr5_54 0 aa rfl rfl rr5_54 hSr5_56 Gr5_54 (fun wr5_57 r0 hSr5_57 far => ?_)
      replace rr5_44:=far _ _ _ (by omega) rr5_44
      refine hK.out _ _ hSr5_57 (fun h => ?_)
      clear h hK K far rr5_54
      have rr5_54:=r0
      clear r0
      (try dsimp only [Act.put])
      refine wpAnyH_ready (rs:=[9]) (by kernel_rfl) (by simp) ?_
      refine AllReadyH.cons (o:=qr5x9) rfl (fun K hK => ?_) (AllReadyH.nil)
      unfold qr5x9
      rw [if_pos (by rfl)]
      refine num_store _ _ rfl gr5_44 0 bb rfl rfl rr5_44 hSr5_57 Gr5_44 (fun wr5_58 r0 hSr5_58 far => ?_)
      replace rr5_54:=far _ _ _ (by omega) rr5_54
      refine hK.out _ _ hSr5_58 (fun h => ?_)
      clear h hK K far rr5_44
      have rr5_44:=r0
      clear r0
      (try dsimp only [Act.put])
      refine wpAnyH_done (by kernel_rfl) ?_ _
      refine NoPanic.normal ?_
      go_wp2
      go_meet
      case rel=>exact ⟨gr5_54,gr5_44,rfl,rfl,below_next hdrew hSr5_58,Nat.le_trans hdrew.size Gr5_54,Nat.le_trans hdrew.size Gr5_44,rr5_54,rr5_44,by omega⟩
 case rest =>
 obtain ⟨g12,g13,rfl,rfl,hb12,G12,G13,h12,h13,ne12⟩:=hcut
 replace hp:=hp.still hb12
 replace hq:=hq.still hb12
 replace hu:=hu.still hb12
 replace h4:=h4.still hb12
 replace h5:=h5.still hb12
 replace h6:=h6.still hb12
 replace h7:=h7.still hb12
 replace h8:=h8.still hb12
 replace h9:=h9.still hb12
 replace h10:=h10.still hb12
 replace h11:=h11.still hb12
 obtain ⟨W5,hW5⟩:∃ W,W=wc:=⟨_,rfl⟩
 rw [←hW5]
 rw [←hW5] at hp
 rw [←hW5] at hq
 rw [←hW5] at hu
 rw [←hW5] at h4
 rw [←hW5] at h5
 rw [←hW5] at h6
 rw [←hW5] at h7
 rw [←hW5] at h8
 rw [←hW5] at h9
 rw [←hW5] at h10
 rw [←hW5] at h11
 rw [←hW5] at h12
 rw [←hW5] at h13
 rw [←hW5] at hb12
 have lt5:W5.heap.size≤W5.heap.size:=Nat.le_refl _
 clear hW5
 go_upto_region 6 with (fail)
 go_cut [14] from 15 (fun s14 wc=>∃ g14,s14 = .pointer (some ⟨g14,0,none⟩)∧Below W5.heap.size W5 wc∧W5.heap.size≤g14∧RW wc g14 0 (c4 ee))
 case first =>
  clear c1 c2 c3 c4h c5 c6 c7 c8h c9 c10 c12 c13 c14 c15 c16 c17 c18 c19
  have r12:=h12.range
  have c11':∀ W,Calls Tryz.prog 77 #[.agg (c4 aa).toArray,.agg (c4 bb).toArray] W fun e w'=>e = .returned (.agg (c4 ee).toArray)∧Below W.heap.size W w':=c11
  clear c11
  have r13:=h13.range
  clear hp hq hu h4 h5 h6 h7 h8 h9 h10 h11 h12 h13
  go_wp2_with (first
   | (refine wpList_load_mid rfl 88 _ rfl g12 0 rfl (c4 aa) _ r12 Tryz.underlying88 rfl info4 ?_)
   | (refine wpList_load_mid rfl 88 _ rfl g13 0 rfl (c4 bb) _ r13 Tryz.underlying88 rfl info4 ?_)
   | (go_at_call 77;refine (c11' _).mono ?_;clear c11' r12 r13;rintro e w6 ⟨rfl,hb6⟩;(have th:=fresh4' w6);(have th':=fresh4t w6 ee))
   | (with_reducible (refine id (?_:wpList _ _ _ _ _ _));refine wpList_store_mid rfl 88 _ _ rfl w6.heap.size 0 (c4 ee).toArray rfl rfl th' (info4a ee) (one4 ee) ?_))
  go_meet
  case rel=>exact ⟨w6.heap.size,rfl,below_setCells hb6.size _ _ _ (hb6.alloc hb6.size _),hb6.size,th.stored (c4 ee) rfl⟩
 case rest =>
 obtain ⟨g14,rfl,hb14,G14,h14⟩:=hcut
 replace hp:=hp.still hb14
 replace hq:=hq.still hb14
 replace hu:=hu.still hb14
 replace h4:=h4.still hb14
 replace h5:=h5.still hb14
 replace h6:=h6.still hb14
 replace h7:=h7.still hb14
 replace h8:=h8.still hb14
 replace h9:=h9.still hb14
 replace h10:=h10.still hb14
 replace h11:=h11.still hb14
 replace h12:=h12.still hb14
 replace h13:=h13.still hb14
 obtain ⟨W6,hW6⟩:∃ W,W=wc:=⟨_,rfl⟩
 rw [←hW6]
 rw [←hW6] at hp hq hu h4 h5 h6 h7 h8 h9 h10 h11 h12 h13 hb14 h14
 clear hW6
 go_wp2
 have hg6:g<W6.heap.size:=hp.lt
 have ne3:g3≠g:=hne3
 have sz:w.heap.size≤W.heap.size:=hbW.size
 have sz1:=hb4.size
 have sz2:=hb6.size
 have sz3:=hb8.size
 have sz4:=hb10.size
 have sz5:=hb12.size
 have n10:g10≠g:=by omega
 have n11:g11≠g:=by omega
 have n12:g12≠g:=by omega
 have n13:g13≠g:=by omega
 have n14:g14≠g:=by omega
 have hbz:Below w.heap.size w W6:=(((((hbW.trans (hb4.mono sz)).trans (hb6.mono (by omega))).trans (hb8.mono (by omega))).trans (hb10.mono (by omega))).trans (hb12.mono (by omega))).trans (hb14.mono (by omega))
 clear sz sz1 sz2 sz3 sz4 sz5 hbW hb4 hb6 hb8 hb10 hb12 hb14 lt1 lt2 lt3 lt4 lt5 G4 G5 G6 G7 G8 G9 G10 G11 G12 G13 G14 ne4 ne6 ne8 ne10 ne12 h4 h5 h6 h7 h8 h9 hne3 c1 c2 c3 c4h c5 c6 c7 c8h c9 c10 c11
 go_cut [] from 15 (fun wc=>Out g 8 8 W6 wc∧RW wc g 0 (c8 xl zl)∧RW wc g 8 (c8 p2 um))
 case first =>
  clear c15 c16 c17 c18 c19
  have hg60:=hg6
  have hdrew:Below W6.heap.size W6 W6.drew:=(Below.refl _ _).drew
  replace hp:=hp.still hdrew
  replace hq:=hq.still hdrew
  replace hu:=hu.still hdrew
  replace h10:=h10.still hdrew
  replace h11:=h11.still hdrew
  refine wp_region_noPanic ?_
  replace hg6:=Nat.lt_of_lt_of_le hg6 hdrew.size
  refine wp_region_held_drew (S:=fun w'=>Out g 8 8 W6.drew w') (by kernel_rfl) (Out.refl _ _ _ _) (fun hS => ?_)
  generalize W6.drew=Vr7_ at *
  refine tg 0 hS ?_
  (try simp only [pS])
  refine tk 1 (numV pl) hS (hy:=(ldO h10 n10 88 10 Tryz.underlying88 info4)) (h := ?_)
  (try simp only [pS])
  refine tk 2 (numV pl) hS (hy:=(ldO h10 n10 88 10 Tryz.underlying88 info4)) (h := ?_)
  (try simp only [pS])
  refine tk 4 (numV u) hS (hy:=(ldO hu ne3 88 3 Tryz.underlying88 info4)) (h := ?_)
  (try simp only [pS])
  refine tk 5 (numV mi) hS (hy:=(ldO h11 n11 88 11 Tryz.underlying88 info4)) (h := ?_)
  (try simp only [pS])
  refine tk 6 (numV mi) hS (hy:=(ldO h11 n11 88 11 Tryz.underlying88 info4)) (h := ?_)
  (try simp only [pS])
  refine cl 3 (c12 _) ?_
  (rintro e wr7_2 ⟨rfl,hbr7_2⟩)
  have hSr7_2:=hS.trans (Out.of_below hbr7_2 hg6)
  replace hg6:=Nat.lt_of_lt_of_le hg6 hbr7_2.size
  replace hp:=hp.still hbr7_2
  replace hq:=hq.still hbr7_2
  refine ⟨_,rfl,hSr7_2,?_⟩
  clear hbr7_2
  (try simp only [pS])
  refine cl 7 (c13 _) ?_
  (rintro e wr7_3 ⟨rfl,hbr7_3⟩)
  have hSr7_3:=hSr7_2.trans (Out.of_below hbr7_3 hg6)
  replace hg6:=Nat.lt_of_lt_of_le hg6 hbr7_3.size
  replace hp:=hp.still hbr7_3
  replace hq:=hq.still hbr7_3
  refine ⟨_,rfl,hSr7_3,?_⟩
  clear hbr7_3
  (try simp only [pS])
  refine cl 8 (c14 _) ?_
  (rintro e wr7_4 ⟨rfl,hbr7_4⟩)
  have hSr7_4:=hSr7_3.trans (Out.of_below hbr7_4 hg6)
  replace hg6:=Nat.lt_of_lt_of_le hg6 hbr7_4.size
  replace hp:=hp.still hbr7_4
  replace hq:=hq.still hbr7_4
  refine ⟨_,rfl,hSr7_4,?_⟩
  clear hbr7_4
  (try simp only [pS])
  refine tk 9 (ratV p2 um) hSr7_4 (hy:=(yields_build2 (by rfl) 146 0 1 _ _ rfl (numV p2) (numV um) rfl rfl _ (built8 p2 um))) (h := ?_)
  (try simp only [pS])
  refine tg 10 hSr7_4 ?_
  (try simp only [pS])
  refine tg 11 hSr7_4 ?_
  (try simp only [pS])
  refine wpAnyH_ready (rs:=[12]) (by kernel_rfl) (by simp) ?_
  refine AllReadyH.cons (o:=oS (Op.store 146 (oT 67) (oT 65)) "climb.go:40" #[jD 11,jD 9,jC 8,jP 0,jP 1,jP 2,jP 3,jP 4,jP 5,jP 6,jP 7,jP 8,jP 9]) rfl (fun K hK => ?_) (AllReadyH.nil)
  rw [if_pos (by rfl)]
  refine wp_store_mid 146 _ _ rfl g 8 (c8 p2 um).toArray rfl rfl hq.there info8 (one8 _ _) ?_
  have hSr7_7:=hSr7_4.trans (Out.setCells wr7_4 (c8 p2 um) (Nat.le_refl _) (Nat.le_refl _))
  replace hq:=hq.stored (c8 p2 um) rfl
  replace hp:=hp.far g 8 (c8 p2 um) (by simp [c8,c4])
  obtain ⟨wr7_7,hwr7_7⟩:∃ W,wr7_4.setCells g 8 (c8 p2 um)=W:=⟨_,rfl⟩
  rw [hwr7_7] at hp
  rw [hwr7_7] at hq
  rw [hwr7_7] at hSr7_7
  rw [show wr7_4.setCells g 8 (c8 p2 um).toArray.toList=wr7_7 from hwr7_7]
  refine hK.out _ _ hSr7_7 (fun h => ?_)
  clear h hK K hwr7_7
  (try dsimp only [Act.put])
  refine wpAnyH_done (by kernel_rfl) ?_ _
  refine NoPanic.normal ?_
  go_wp2
  go_meet
  case rel=>exact ⟨(Out.of_below hdrew hg60).trans hSr7_7,hp,hq⟩
 case rest =>
 obtain ⟨o7,hp7,hq7⟩:=hcut
 replace h12:=h12.out o7 n12
 replace h13:=h13.out o7 n13
 replace h14:=h14.out o7 n14
 clear hp hq hu h10 h11 c12 c13 c14
 obtain ⟨W7,hW7⟩:∃ W,W=wc:=⟨_,rfl⟩
 rw [←hW7]
 rw [←hW7] at o7 hp7 hq7 h12 h13 h14
 clear hW7
 have hg7:g<W7.heap.size:=hp7.lt
 have hg70:=hg7
 go_wp2
 have hdrew:Below W7.heap.size W7 W7.drew:=(Below.refl _ _).drew
 replace hp7:=hp7.still hdrew
 replace hq7:=hq7.still hdrew
 replace h12:=h12.still hdrew
 replace h13:=h13.still hdrew
 replace h14:=h14.still hdrew
 refine wp_region_noPanic ?_
 replace hg7:=Nat.lt_of_lt_of_le hg7 hdrew.size
 refine wp_region_held_drew (S:=fun w'=>Out g 0 8 W7.drew w') (by kernel_rfl) (Out.refl _ _ _ _) (fun hS => ?_)
 generalize W7.drew=Vr8_ at *
 refine tg 0 hS ?_
 (try simp only [pS])
 refine tk 1 (numV aa) hS (hy:=(ldO h12 n12 88 12 Tryz.underlying88 info4)) (h := ?_)
 (try simp only [pS])
 refine tk 2 (numV bb) hS (hy:=(ldO h13 n13 88 13 Tryz.underlying88 info4)) (h := ?_)
 (try simp only [pS])
 refine tk 4 (numV ee) hS (hy:=(ldO h14 n14 88 14 Tryz.underlying88 info4)) (h := ?_)
 (try simp only [pS])
 refine tk 5 (numV aa) hS (hy:=(ldO h12 n12 88 12 Tryz.underlying88 info4)) (h := ?_)
 (try simp only [pS])
 refine tk 7 (numV ee) hS (hy:=(ldO h14 n14 88 14 Tryz.underlying88 info4)) (h := ?_)
 (try simp only [pS])
 refine cl 3 (c15 _) ?_
 (rintro e wr8_2 ⟨rfl,hbr8_2⟩)
 have hSr8_2:=hS.trans (Out.of_below hbr8_2 hg7)
 replace hg7:=Nat.lt_of_lt_of_le hg7 hbr8_2.size
 replace hp7:=hp7.still hbr8_2
 replace hq7:=hq7.still hbr8_2
 refine ⟨_,rfl,hSr8_2,?_⟩
 clear hbr8_2
 (try simp only [pS])
 refine cl 6 (c16 _) ?_
 (rintro e wr8_3 ⟨rfl,hbr8_3⟩)
 have hSr8_3:=hSr8_2.trans (Out.of_below hbr8_3 hg7)
 replace hg7:=Nat.lt_of_lt_of_le hg7 hbr8_3.size
 replace hp7:=hp7.still hbr8_3
 replace hq7:=hq7.still hbr8_3
 refine ⟨_,rfl,hSr8_3,?_⟩
 clear hbr8_3
 (try simp only [pS])
 refine cl 8 (c17 _) ?_
 (rintro e wr8_4 ⟨rfl,hbr8_4⟩)
 have hSr8_4:=hSr8_3.trans (Out.of_below hbr8_4 hg7)
 replace hg7:=Nat.lt_of_lt_of_le hg7 hbr8_4.size
 replace hp7:=hp7.still hbr8_4
 replace hq7:=hq7.still hbr8_4
 refine ⟨_,rfl,hSr8_4,?_⟩
 clear hbr8_4
 (try simp only [pS])
 refine cl 9 (c18 _) ?_
 (rintro e wr8_5 ⟨rfl,hbr8_5⟩)
 have hSr8_5:=hSr8_4.trans (Out.of_below hbr8_5 hg7)
 replace hg7:=Nat.lt_of_lt_of_le hg7 hbr8_5.size
 replace hp7:=hp7.still hbr8_5
 replace hq7:=hq7.still hbr8_5
 refine ⟨_,rfl,hSr8_5,?_⟩
 clear hbr8_5
 (try simp only [pS])
 refine cl 10 (c19 _) ?_
 (rintro e wr8_6 ⟨rfl,hbr8_6⟩)
 have hSr8_6:=hSr8_5.trans (Out.of_below hbr8_6 hg7)
 replace hg7:=Nat.lt_of_lt_of_le hg7 hbr8_6.size
 replace hp7:=hp7.still hbr8_6
 replace hq7:=hq7.still hbr8_6
 refine ⟨_,rfl,hSr8_6,?_⟩
 clear hbr8_6
 (try simp only [pS])
 refine tk 11 (ratV ab ea) hSr8_6 (hy:=(yields_build2 (by rfl) 146 0 1 _ _ rfl (numV ab) (numV ea) rfl rfl _ (built8 ab ea))) (h := ?_)
 (try simp only [pS])
 refine tg 12 hSr8_6 ?_
 (try simp only [pS])
 refine tg 13 hSr8_6 ?_
 (try simp only [pS])
 refine wpAnyH_ready (rs:=[14]) (by kernel_rfl) (by simp) ?_
 refine AllReadyH.cons (o:=oS (Op.store 146 (oT 81) (oT 79)) "climb.go:41" #[jD 13,jD 11,jC 10,jP 0,jP 1,jP 2,jP 3,jP 4,jP 5,jP 6,jP 7,jP 8,jP 9,jP 10,jP 11]) rfl (fun K hK => ?_) (AllReadyH.nil)
 rw [if_pos (by rfl)]
 refine wp_store_mid 146 _ _ rfl g 0 (c8 ab ea).toArray rfl rfl hp7.there info8 (one8 _ _) ?_
 have hSr8_9:=hSr8_6.trans (Out.setCells wr8_6 (c8 ab ea) (Nat.le_refl _) (Nat.le_refl _))
 replace hp7:=hp7.stored (c8 ab ea) rfl
 replace hq7:=hq7.far g 0 (c8 ab ea) (by simp [c8,c4])
 obtain ⟨wr8_9,hwr8_9⟩:∃ W,wr8_6.setCells g 0 (c8 ab ea)=W:=⟨_,rfl⟩
 rw [hwr8_9] at hp7
 rw [hwr8_9] at hq7
 rw [hwr8_9] at hSr8_9
 rw [show wr8_6.setCells g 0 (c8 ab ea).toArray.toList=wr8_9 from hwr8_9]
 refine hK.out _ _ hSr8_9 (fun h => ?_)
 clear h hK K hwr8_9
 (try dsimp only [Act.put])
 refine wpAnyH_done (by kernel_rfl) ?_ _
 refine NoPanic.normal ?_
 clear c15 c16 c17 c18 c19
 have fin:=(((Out.of_below (b:=g) (o:=0) (n:=16) hbz hgl).trans (o7.wide (by decide) (by decide))).trans ((Out.of_below (b:=g) (o:=0) (n:=16) hdrew hg70))).trans (Out.wide (p:=0) (m:=16) hSr8_9 (by decide) (by decide))
 go_wp2
 exact bodyPost_end (results_none Tryz.results125 _ _ _) rfl ⟨rfl,fin,hp7,hq7⟩
end Go.Proofs.YtcgkajlehdgpoaaGreatDoor
