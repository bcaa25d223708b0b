/- What the proof stands on: A8Blc, A8RI, A8RS, G9Math, G9Byt, G9Pad, G9RF, G9RH, G9RU, G9RG, ZE. -/
import Derived.Test.YtcgkajlehdgpoaaGreatDoorA8NxtM
import Derived.Test.YtcgkajlehdgpoaaGreatDoorBaseM
import Derived.Test.YtcgkajlehdgpoaaGreatDoorHHmacM
import Derived.Test.YtcgkajlehdgpoaaGreatDoorLPubM
namespace Go.Proofs.YtcgkajlehdgpoaaGreatDoor
open Go.RowKit
abbrev qb46:Oper:=oS (Op.store 169 (oT 7) (oT 25)) "aes.go:27" #[jD 5,jD 4,jC 4,jP 0,jP 1,jP 2,jP 3,jP 4,jP 5]
abbrev qb45:Oper:=oN 7 (Op.alloc 169) 0 "aes.go:27" #[]
abbrev qb44:Oper:=oN 25 (cF1 140 #[oT 22,oT 24] #[169,169]) 169 "aes.go:27" #[jD 1,jD 3,jC 1]
abbrev qb41:Oper:=oN 22 (cF1 139 #[oT 21] #[22]) 169 "aes.go:27" #[jD 0]
abbrev qb85:Oper:=oS (Op.store 169 (oT 7) (oT 36)) "aes.go:29" #[jD 4,jC 4,jP 0,jP 1,jP 2,jP 3,jP 4]
abbrev qb84:Oper:=oN 36 (cF1 140 #[oT 34,oT 35] #[169,169]) 169 "aes.go:29" #[jD 2,jD 3,jC 2]
abbrev qb82:Oper:=oN 34 (cF1 141 #[oT 32,oT 33] #[169,200]) 169 "aes.go:29" #[jD 0,jD 1]
abbrev qb81:Oper:=oN 33 (Op.buildSlice 200 3 #[(0,Operand.func 142),(1,Operand.func 143),(2,Operand.func 144)]) 200 "aes.go:29" #[]
abbrev qb80:Oper:=oN 32 (Op.load 169 (oT 7)) 169 "aes.go:29" #[]
abbrev qbx6:Oper:=oS (Op.store 169 (oT 7) (oT 43)) "aes.go:31" #[jD 5,jC 5,jP 0,jP 1,jP 2,jP 3,jP 4,jP 5]
abbrev qbx5:Oper:=oN 43 (cF1 140 #[oT 40,oT 42] #[169,169]) 169 "aes.go:31" #[jD 2,jD 4,jC 2]
abbrev qbx2:Oper:=oN 40 (cF1 141 #[oT 38,oT 39] #[169,200]) 169 "aes.go:31" #[jD 0,jD 1]
abbrev qbx1:Oper:=oN 39 (Op.buildSlice 200 2 #[(0,Operand.func 142),(1,Operand.func 143)]) 200 "aes.go:31" #[]
abbrev qbx0:Oper:=oN 38 (Op.load 169 (oT 7)) 169 "aes.go:31" #[]
theorem RowAt.still {K:IntKind} {w w':World} {g o n:Nat} {X:Nat→Nat} (h:RowAt K w g o n X) (hb:Below w.heap.size w w'):RowAt K w' g o n X:=fun j hj=>⟨(hb.cell (p:=⟨g,o+j,none⟩) (block_lt_of_cell (h j hj).1)).trans (h j hj).1,(hb.frozen (p:=⟨g,o+j,none⟩) (block_lt_of_cell (h j hj).1)).trans (h j hj).2⟩
set_option maxRecDepth 20000 in
set_option maxHeartbeats 8000000 in
theorem block_good (v u:Value) (ks bs:Nat→Nat) (hks:∀ j,ks j<256) (hbB:B16 bs) (w:World) (hv:BytesIn w v 16 ks) (hu:BytesIn w u 16 bs) :
 Calls Tryz.prog 118 #[v,u] w fun e w'=>∃ g,e = .returned (.tuple #[.slice (some ⟨g,0,none⟩) 16 16,.int .i64 0])∧RowAt .u8 w' g 0 16 (blkN (kyN ks) bs)∧Below w.heap.size w w':=by
 have hz:=zeroK
 have cs:=squareOf_16 v ks w hv
 have cr:=roundKeys_any ks hks
 have hK:=kyN_lt hks
 obtain ⟨xk,ck,rfl,-,-,-⟩:=hv.src
 obtain ⟨xb,cb,rfl,-,-,-⟩:=hu.src
 unfold kyV sqV at cr
 obtain ⟨K,hKe⟩:∃ K,K=kyN ks:=⟨_,rfl⟩
 rw [←hKe] at cr hK ⊢
 have hj2:=infoKA K
 have hjo:=oneU 176 K
 have hst:∀ W:World,(W.alloc (.cells (zb 176) 170)).there W.heap.size 0 (ints .u8 176 K).toArray.size∧RowAt .u8 ((W.alloc (.cells (zb 176) 170)).setCells W.heap.size 0 (ints .u8 176 K)) W.heap.size 0 176 K∧Below W.heap.size W ((W.alloc (.cells (zb 176) 170)).setCells W.heap.size 0 (ints .u8 176 K)):=fun W=>by
  have h:=RowAt.zero W 176 170
  exact ⟨by rw [ints_size];exact h.there,h.stored,below_setCells (Nat.le_refl _) _ _ _ ((Below.refl _ _).alloc (Nat.le_refl _) _)⟩
 have Hst:=Hid.mk' hst
 obtain ⟨LK,hLK⟩:∃ LK,LK=ints .u8 176 K:=⟨_,rfl⟩
 rw [←hLK] at cr hj2 hjo Hst
 clear hKe hLK hst hv hks
 obtain ⟨Z,hZe⟩:∃ Z,Z=blkN K bs:=⟨_,rfl⟩
 rw [←hZe]
 have HZ:=Hid.mk' hZe
 clear hZe
 go_enter Tryz.func118,Tryz.ntmps118
 go_upto_region 4 with (first
  | (go_at_call 139;refine cs.mono ?_;clear cs;rintro e w1 ⟨rfl,hb1⟩;(have cr1:=cr w1);clear cr)
  | (go_at_call 138;refine cr1.mono ?_;clear cr1;rintro e w2 ⟨rfl,hb2⟩;(obtain ⟨hth,hKy,hb3⟩:=Hst.out w2);(have b:=below_next (below_next hb1 hb2) hb3);clear hb1 hb2)
  | (with_reducible (refine id (?_:wpList _ _ _ _ _ _));refine wpList_store_mid rfl 170 _ _ rfl w2.heap.size 0 LK.toArray rfl rfl hth hj2 hjo ?_))
 dsimp only [Act.put]
 have hgk:w2.heap.size<((w2.alloc (.cells (zb 176) 170)).setCells w2.heap.size 0 LK).heap.size:=block_lt_of_cell (hKy 0 (by decide)).1
 clear hth hb3 Hst hj2 hjo hz
 generalize (w2.alloc (.cells (zb 176) 170)).setCells w2.heap.size 0 LK=U at *
 generalize w2.heap.size=gk at *
 go_cut [7] from 10 (fun s7 wc=>∃ gs,s7 = .pointer (some ⟨gs,0,none⟩)∧RowAt .u8 wc gs 0 16 (addN K 0 bs)∧U.heap.size≤gs∧RowAt .u8 wc gk 0 176 K∧Below w.heap.size w wc)
 case first =>
  have hdrew:Below U.heap.size U U.drew:=(Below.refl _ _).drew
  replace hKy:=hKy.still hdrew
  refine wp_region_noPanic ?_
  refine wp_region_held_drew (S:=fun w'=>Below U.drew.heap.size U.drew w') (by kernel_rfl) (Below.refl _ _) (fun hS => ?_)
  generalize U.drew=Vb4 at *
  refine tk 0 (.slice xb 16 cb) hS (hy:=(yR)) (h := ?_)
  (try simp only [pS])
  refine tk 2 (pA gk 0) hS (hy:=(yR)) (h := ?_)
  (try simp only [pS])
  refine tk 3 (.agg (ints .u8 16 (fun j=>K (16*0+j))).toArray) hS (hy:=(ldH (key_at hKy 0 (by decide)) 169 23 Tryz.underlying169 (infoS _))) (h := ?_)
  (try simp only [pS])
  refine dag_root (fun G hG0 => ?_)
  have hG:=Hid.mk' hG0
  clear hG0
  obtain ⟨F,hF0⟩:∃ F:Value→Value→Value→Act,∀ v7 v22 v25,F v7 v22 v25={ tmps:=#[.slice xk 16 ck,.slice xb 16 cb,undef,undef,.slice none 0 0,.int .i64 0,pA gk 0,v7,undef,undef,.slice xk 16 ck,.int .i64 16,.bool false,.bool false,.slice xb 16 cb,.int .i64 16,.bool false,.bool false,.slice xk 16 ck,.agg (ints .u8 16 (ks)).toArray,.agg LK.toArray,.slice xb 16 cb,v22,pA gk 0,.agg (ints .u8 16 (fun j=>K (16*0+j))).toArray,v25,undef,undef,undef,undef,undef,undef,undef,undef,undef,undef,undef,undef,undef,undef,undef,undef,undef,undef,undef],defers:=[] }:=⟨_,fun _ _ _=>rfl⟩
  have hF:=Hid.mk' hF0
  clear hF0
  have stb40:Hid (∀ (cur:World) (g5:Nat),Below Vb4.heap.size Vb4 cur→RW cur g5 0 (ints .u8 16 (addN K 0 bs))→Vb4.heap.size≤g5→G 0 #[true,true,true,true,true,true,true] (F (pA g5 0) (.agg (ints .u8 16 (bs)).toArray) (.agg (ints .u8 16 (addN K 0 bs)).toArray)) cur):=Hid.mk' (by
   intro cur g5 hS r5 G5
   rw [hF.out,hG.out]
   refine wpAnyH_done (by kernel_rfl) ?_ _
   refine NoPanic.normal ?_
   go_wp2
   go_meet
   case rel=>exact ⟨g5,rfl,rowAt_of r5,Nat.le_trans hdrew.size G5,hKy.still hS,below_next (below_next b hdrew) hS⟩)
  have stb41:Hid (∀ (cur:World) (g5:Nat),Below Vb4.heap.size Vb4 cur→RW cur g5 0 (ints .u8 16 (fun _=>0))→Vb4.heap.size≤g5→G 1 #[true,true,true,true,true,true,false] (F (pA g5 0) (.agg (ints .u8 16 (bs)).toArray) (.agg (ints .u8 16 (addN K 0 bs)).toArray)) cur):=Hid.mk' (by
   intro cur g5 hS r5 G5
   rw [hF.out,hG.out]
   refine wpAnyH_ready (rs:=[6]) (by kernel_rfl) (by simp) ?_
   refine aT qb46 169 7 25 (ints .u8 16 (addN K 0 bs)) r5 (by rw [ints_len,ints_len]) (below_setCells G5 _ _ _ hS) (infoSA _) (oneU 16 _) (fun rr=>dagW hG (stb40.out _ g5 (below_setCells G5 _ _ _ hS) rr G5) (hF.out _ _ _)) ?_
   exact AllReadyH.nil)
  have stb42:Hid (∀ (cur:World),Below Vb4.heap.size Vb4 cur→G 2 #[true,true,true,true,true,false,false] (F undef (.agg (ints .u8 16 (bs)).toArray) (.agg (ints .u8 16 (addN K 0 bs)).toArray)) cur):=Hid.mk' (by
   intro cur  hS 
   rw [hF.out,hG.out]
   clear stb40
   refine wpAnyH_ready (rs:=[5]) (by kernel_rfl) (by simp) ?_
   refine aG qb45 (fun g=>pA g 0) (ints .u8 16 (fun _=>0)) 169 (fun u hb=>below_next hS hb) (fun w1 g5 lg hb rr=>dagW hG (stb41.out w1 g5 (below_next hS hb) rr (Nat.le_trans hS.size lg)) (hF.out _ _ _)) ?_
   exact AllReadyH.nil)
  have stb43:Hid (∀ (cur:World) (g5:Nat),Below Vb4.heap.size Vb4 cur→RW cur g5 0 (ints .u8 16 (fun _=>0))→Vb4.heap.size≤g5→G 2 #[true,true,true,true,false,true,false] (F (pA g5 0) (.agg (ints .u8 16 (bs)).toArray) undef) cur):=Hid.mk' (by
   intro cur g5 hS r5 G5
   rw [hF.out,hG.out]
   clear stb40 stb42
   refine wpAnyH_ready (rs:=[4]) (by kernel_rfl) (by simp) ?_
   refine arC qb44 (plus_key bs K 0 hbB hK cur) (fun e w1 ⟨he,hb⟩=>⟨_,he,below_next hS hb,dagW hG (stb41.out w1 g5 (below_next hS hb) (r5.still hb) G5) (hF.out _ _ _)⟩) ?_
   exact AllReadyH.nil)
  have stb44:Hid (∀ (cur:World),Below Vb4.heap.size Vb4 cur→G 3 #[true,true,true,true,false,false,false] (F undef (.agg (ints .u8 16 (bs)).toArray) undef) cur):=Hid.mk' (by
   intro cur  hS 
   rw [hF.out,hG.out]
   clear stb40 stb41
   refine wpAnyH_ready (rs:=[4,5]) (by kernel_rfl) (by simp) ?_
   refine arC qb44 (plus_key bs K 0 hbB hK cur) (fun e w1 ⟨he,hb⟩=>⟨_,he,below_next hS hb,dagW hG (stb42.out w1  (below_next hS hb) ) (hF.out _ _ _)⟩) ?_
   refine aG qb45 (fun g=>pA g 0) (ints .u8 16 (fun _=>0)) 169 (fun u hb=>below_next hS hb) (fun w1 g5 lg hb rr=>dagW hG (stb43.out w1 g5 (below_next hS hb) rr (Nat.le_trans hS.size lg)) (hF.out _ _ _)) ?_
   exact AllReadyH.nil)
  have stb45:Hid (∀ (cur:World) (g5:Nat),Below Vb4.heap.size Vb4 cur→RW cur g5 0 (ints .u8 16 (fun _=>0))→Vb4.heap.size≤g5→G 3 #[true,false,true,true,false,true,false] (F (pA g5 0) undef undef) cur):=Hid.mk' (by
   intro cur g5 hS r5 G5
   rw [hF.out,hG.out]
   clear stb40 stb41 stb42 stb44
   refine wpAnyH_ready (rs:=[1]) (by kernel_rfl) (by simp) ?_
   refine arC qb41 (squareOf_16 _ bs cur (hu.keep (below_next (below_next b hdrew) hS))) (fun e w1 ⟨he,hb⟩=>⟨_,he,below_next hS hb,dagW hG (stb43.out w1 g5 (below_next hS hb) (r5.still hb) G5) (hF.out _ _ _)⟩) ?_
   exact AllReadyH.nil)
  have stb46:Hid (∀ (cur:World),Below Vb4.heap.size Vb4 cur→G 4 #[true,false,true,true,false,false,false] (F undef undef undef) cur):=Hid.mk' (by
   intro cur  hS 
   rw [hF.out,hG.out]
   clear stb40 stb41 stb42 stb43
   refine wpAnyH_ready (rs:=[1,5]) (by kernel_rfl) (by simp) ?_
   refine arC qb41 (squareOf_16 _ bs cur (hu.keep (below_next (below_next b hdrew) hS))) (fun e w1 ⟨he,hb⟩=>⟨_,he,below_next hS hb,dagW hG (stb44.out w1  (below_next hS hb) ) (hF.out _ _ _)⟩) ?_
   refine aG qb45 (fun g=>pA g 0) (ints .u8 16 (fun _=>0)) 169 (fun u hb=>below_next hS hb) (fun w1 g5 lg hb rr=>dagW hG (stb45.out w1 g5 (below_next hS hb) rr (Nat.le_trans hS.size lg)) (hF.out _ _ _)) ?_
   exact AllReadyH.nil)
  rw [hG.out]
  exact dagW hG (stb46.out Vb4 hS ) (hF.out _ _ _)
 case rest =>
 obtain ⟨gs,rfl,hs0,hgs,hKy0,b0⟩:=hcut
 have ngk:gk<gs:=Nat.lt_of_lt_of_le hgk hgs
 have wgs:w.heap.size≤gs:=Nat.le_trans b.size hgs
 clear hKy b hu hgk hgs
 obtain ⟨B,hBe⟩:∃ B,B=blkS K bs:=⟨_,rfl⟩
 have hBB:∀ r,B16 (B r):=fun r=>by rw [hBe];exact blkS_B hbB hK r
 have hB0:addN K 0 bs=B 0:=by rw [hBe];rfl
 have hBs:∀ r,addN K (r+1) (colN mT (rowN 1 (thrN boxN (B r))))=B (r+1):=fun r=>by rw [hBe];rfl
 have hBn:addN K 10 (rowN 1 (thrN boxN (B 9)))=blkN K bs:=by rw [hBe];rfl
 rw [hB0] at hs0
 have hz:=zeroS
 have sz0:=block_lt_of_cell (hs0 0 (by decide)).1
 have HBs:=Hid.mk' hBs
 have HBn:=Hid.mk' hBn
 clear hBe hB0 hBs hBn
 go_wp2
 go_loopw [28] (fun i wr=>∃ k:Nat,k≤9∧i = .int .i64 k∧RowAt .u8 wr gs 0 16 (B k)∧RowAt .u8 wr gk 0 176 K∧Below w.heap.size w wr) (fun i _=>9 - (intOf i).toNat)
 case atStart=>exact ⟨0,Nat.zero_le _,rfl,hs0,hKy0,b0⟩
 case round =>
  clear hs0 hKy0 b0 sz0
  obtain ⟨k,hk,rfl,hs,hKy,b⟩:=hrel
  have sz:=block_lt_of_cell (hs 0 (by decide)).1
  by_cases hlt:k<9
  · have hPr:=(key_at hKy (k+1) (by omega)).range
    rw [show 16*(k+1)=16+k*16 by omega] at hPr
    have q1:(0:Int)≤(k:Int)∧(k:Int)<9:=by omega
    have hi1:=infoS (fun j=>K (16+k*16+j))
    have hj2:=infoSA (fun j=>K (16+k*16+j))
    have hjo:=oneU 16 (fun j=>K (16+k*16+j))
    have hT:=RowAt.zero wr 16 169
    have hth:(wr.alloc (.cells (zb 16) 169)).there wr.heap.size 0 (ints .u8 16 (fun j=>K (16+k*16+j))).toArray.size:=by rw [ints_size];exact hT.there
    have hL9:=(hT.stored (L:=fun j=>K (16+k*16+j))).rw (by decide)
    have hb2:Below wr.heap.size wr ((wr.alloc (.cells (zb 16) 169)).setCells wr.heap.size 0 (ints .u8 16 (fun j=>K (16+k*16+j)))):=below_setCells (Nat.le_refl _) _ _ _ ((Below.refl _ _).alloc (Nat.le_refl _) _)
    replace hs:=(hs.still hb2).rw (by decide)
    replace hKy:=hKy.still hb2
    replace b:=below_next b hb2
    have c1:=fun g W h=>thr3 (B k) (hBB k) g W h
    have c2:=fun W=>plus_key (colN mT (rowN 1 (thrN boxN (B k)))) K (k+1) (colT_B (rowN_B (box_B (hBB k)) 1)) hK W
    rw [HBs.out k,show 16*(k+1)=16+k*16 by omega] at c2
    generalize colN mT (rowN 1 (thrN boxN (B k)))=X2 at *
    generalize hLL:ints .u8 16 (fun j=>K (16+k*16+j))=LL at *
    go_upto_region 8 with (first
     | (refine wpList_load_mid rfl 169 _ rfl gk (16+k*16) rfl LL _ hPr Tryz.underlying169 rfl hi1 ?_)
     | (with_reducible (refine id (?_:wpList _ _ _ _ _ _));refine wpList_store_mid rfl 169 _ _ rfl wr.heap.size 0 LL.toArray rfl rfl hth hj2 hjo ?_))
    dsimp only [Act.put]
    have n9:wr.heap.size≠gs:=fun h=>Nat.lt_irrefl _ (h ▸ sz)
    clear hT hth hb2 hPr hj2 hjo hLL hz sz HBs HBn
    generalize (wr.alloc (.cells (zb 16) 169)).setCells wr.heap.size 0 LL=U8 at *
    generalize wr.heap.size=g9 at *
    have hdrew:Below U8.heap.size U8 U8.drew:=(Below.refl _ _).drew
    replace hs:=hs.still hdrew
    replace hKy:=hKy.still hdrew
    replace hL9:=hL9.still hdrew
    refine wp_region_noPanic ?_
    refine wp_region_held_drew (S:=fun w'=>Out gs 0 16 U8.drew w') (by kernel_rfl) (Out.refl _ _ _ _) (fun hS => ?_)
    generalize U8.drew=Vb8 at *
    refine tk 3 (.agg LL.toArray) hS (hy:=(ldO hL9 n9 169 9 Tryz.underlying169 hi1)) (h := ?_)
    (try simp only [pS])
    refine dag_root (fun G hG0 => ?_)
    have hG:=Hid.mk' hG0
    clear hG0
    obtain ⟨F,hF0⟩:∃ F:Value→Value→Value→Value→Act,∀ v32 v33 v34 v36,F v32 v33 v34 v36={ tmps:=#[.slice xk 16 ck,.slice xb 16 cb,undef,undef,.slice none 0 0,.int .i64 0,pA gk 0,pA gs 0,undef,pA g9 0,u10,u11,u12,u13,u14,u15,u16,u17,u18,u19,u20,u21,u22,u23,u24,u25,.slice (some ⟨gk,16,none⟩) 9 10,.int .i64 9,.int .i64 k,.bool true,pA gk (16+k*16),.agg LL.toArray,v32,v33,v34,.agg LL.toArray,v36,u37,u38,u39,u40,u41,u42,u43,u44],defers:=[] }:=⟨_,fun _ _ _ _=>rfl⟩
    have hF:=Hid.mk' hF0
    clear hF0
    have stb80:Hid (∀ (cur:World) (g1:Nat),Out gs 0 16 Vb8 cur→RW cur gs 0 (ints .u8 16 (B (k+1)))→Vb8.heap.size≤g1→G 0 #[true,true,true,true,true,true] (F (.agg (ints .u8 16 (B k)).toArray) (.slice (some ⟨g1,0,none⟩) 3 3) (.agg (ints .u8 16 (X2)).toArray) (.agg (ints .u8 16 (B (k+1))).toArray)) cur):=Hid.mk' (by
     intro cur g1 hS ro G1
     rw [hF.out,hG.out]
     refine wpAnyH_done (by kernel_rfl) ?_ _
     refine NoPanic.normal ?_
     go_wp2
     go_roundw
     case rel=>exact ⟨k+1,by omega,by go_num,rowAt_of ro,hS.row hKy (Nat.ne_of_lt ngk),(below_next b hdrew).trans (hS.below wgs (below_next b hdrew).size)⟩
     case measure=>simp [intOf];omega)
    have stb81:Hid (∀ (cur:World) (g1:Nat),Out gs 0 16 Vb8 cur→RW cur gs 0 (ints .u8 16 (B k))→Vb8.heap.size≤g1→G 1 #[true,true,true,true,true,false] (F (.agg (ints .u8 16 (B k)).toArray) (.slice (some ⟨g1,0,none⟩) 3 3) (.agg (ints .u8 16 (X2)).toArray) (.agg (ints .u8 16 (B (k+1))).toArray)) cur):=Hid.mk' (by
     intro cur g1 hS ro G1
     rw [hF.out,hG.out]
     refine wpAnyH_ready (rs:=[5]) (by kernel_rfl) (by simp) ?_
     refine aT qb85 169 7 36 (ints .u8 16 (B (k+1))) ro (by rw [ints_len,ints_len]) (hS.trans (Out.setCells _ _ (Nat.le_refl _) (by rw [ints_len];exact Nat.le_refl _))) (infoSA _) (oneU 16 _) (fun rr=>dagW hG (stb80.out _ g1 (hS.trans (Out.setCells _ _ (Nat.le_refl _) (by rw [ints_len];exact Nat.le_refl _))) rr G1) (hF.out _ _ _ _)) ?_
     exact AllReadyH.nil)
    have stb82:Hid (∀ (cur:World) (g1:Nat),Out gs 0 16 Vb8 cur→RW cur gs 0 (ints .u8 16 (B k))→Vb8.heap.size≤g1→G 2 #[true,true,true,true,false,false] (F (.agg (ints .u8 16 (B k)).toArray) (.slice (some ⟨g1,0,none⟩) 3 3) (.agg (ints .u8 16 (X2)).toArray) u36) cur):=Hid.mk' (by
     intro cur g1 hS ro G1
     rw [hF.out,hG.out]
     clear stb80
     refine wpAnyH_ready (rs:=[4]) (by kernel_rfl) (by simp) ?_
     refine arC qb84 (c2 cur) (fun e w1 ⟨he,hb⟩=>⟨_,he,hS.trans (Out.of_below hb ro.lt),dagW hG (stb81.out w1 g1 (hS.trans (Out.of_below hb ro.lt)) (ro.still hb) G1) (hF.out _ _ _ _)⟩) ?_
     exact AllReadyH.nil)
    have stb83:Hid (∀ (cur:World) (g1:Nat),Out gs 0 16 Vb8 cur→RW cur gs 0 (ints .u8 16 (B k))→RW cur g1 0 ([fnV 142,fnV 143,fnV 144])→Vb8.heap.size≤g1→G 3 #[true,true,false,true,false,false] (F (.agg (ints .u8 16 (B k)).toArray) (.slice (some ⟨g1,0,none⟩) 3 3) u34 u36) cur):=Hid.mk' (by
     intro cur g1 hS ro r1 G1
     rw [hF.out,hG.out]
     clear stb80 stb81
     refine wpAnyH_ready (rs:=[2]) (by kernel_rfl) (by simp) ?_
     refine arC qb82 (c1 _ cur r1) (fun e w1 ⟨he,hb⟩=>⟨_,he,hS.trans (Out.of_below hb ro.lt),dagW hG (stb82.out w1 g1 (hS.trans (Out.of_below hb ro.lt)) (ro.still hb) G1) (hF.out _ _ _ _)⟩) ?_
     exact AllReadyH.nil)
    have stb84:Hid (∀ (cur:World),Out gs 0 16 Vb8 cur→RW cur gs 0 (ints .u8 16 (B k))→G 4 #[true,false,false,true,false,false] (F (.agg (ints .u8 16 (B k)).toArray) u33 u34 u36) cur):=Hid.mk' (by
     intro cur  hS ro
     rw [hF.out,hG.out]
     clear stb80 stb81 stb82
     refine wpAnyH_ready (rs:=[1]) (by kernel_rfl) (by simp) ?_
     refine aG qb81 (fun g => .slice (some ⟨g,0,none⟩) 3 3) ([fnV 142,fnV 143,fnV 144]) 173 (fun u hb=>hS.trans (Out.of_below hb ro.lt)) (fun w1 g1 lg hb rr=>dagW hG (stb83.out w1 g1 (hS.trans (Out.of_below hb ro.lt)) (ro.still hb) rr (Nat.le_trans hS.size lg)) (hF.out _ _ _ _)) ?_
     exact AllReadyH.nil)
    have stb85:Hid (∀ (cur:World) (g1:Nat),Out gs 0 16 Vb8 cur→RW cur gs 0 (ints .u8 16 (B k))→RW cur g1 0 ([fnV 142,fnV 143,fnV 144])→Vb8.heap.size≤g1→G 4 #[false,true,false,true,false,false] (F u32 (.slice (some ⟨g1,0,none⟩) 3 3) u34 u36) cur):=Hid.mk' (by
     intro cur g1 hS ro r1 G1
     rw [hF.out,hG.out]
     clear stb80 stb81 stb82 stb84
     refine wpAnyH_ready (rs:=[0]) (by kernel_rfl) (by simp) ?_
     refine aL qb80 169 7 ro hS Tryz.underlying169 (infoS _) (dagW hG (stb83.out cur g1 hS ro r1 G1) (hF.out _ _ _ _)) ?_
     exact AllReadyH.nil)
    have stb86:Hid (∀ (cur:World),Out gs 0 16 Vb8 cur→RW cur gs 0 (ints .u8 16 (B k))→G 5 #[false,false,false,true,false,false] (F u32 u33 u34 u36) cur):=Hid.mk' (by
     intro cur  hS ro
     rw [hF.out,hG.out]
     clear stb80 stb81 stb82 stb83
     refine wpAnyH_ready (rs:=[0,1]) (by kernel_rfl) (by simp) ?_
     refine aL qb80 169 7 ro hS Tryz.underlying169 (infoS _) (dagW hG (stb84.out cur  hS ro) (hF.out _ _ _ _)) ?_
     refine aG qb81 (fun g => .slice (some ⟨g,0,none⟩) 3 3) ([fnV 142,fnV 143,fnV 144]) 173 (fun u hb=>hS.trans (Out.of_below hb ro.lt)) (fun w1 g1 lg hb rr=>dagW hG (stb85.out w1 g1 (hS.trans (Out.of_below hb ro.lt)) (ro.still hb) rr (Nat.le_trans hS.size lg)) (hF.out _ _ _ _)) ?_
     exact AllReadyH.nil)
    rw [hG.out]
    exact dagW hG (stb86.out Vb8 hS hs) (hF.out _ _ _ _)
  · obtain rfl:k=9:=by omega
    have n9:gk≠gs:=Nat.ne_of_lt ngk
    replace hs:=hs.rw (by decide)
    have c1:=fun g W h=>thr2 (B 9) (hBB 9) g W h
    have c2:=fun W=>plus_key (rowN 1 (thrN boxN (B 9))) K 10 (rowN_B (box_B (hBB 9)) 1) hK W
    rw [HBn.out,←HZ.out] at c2
    generalize rowN 1 (thrN boxN (B 9))=X2 at *
    clear hz sz HBs HBn
    go_upto_region 10 with (fail)
    have hdrew:Below wr.heap.size wr wr.drew:=(Below.refl _ _).drew
    replace hs:=hs.still hdrew
    replace hKy:=hKy.still hdrew
    refine wp_region_noPanic ?_
    refine wp_region_held_drew (S:=fun w'=>Out gs 0 16 wr.drew w') (by kernel_rfl) (Out.refl _ _ _ _) (fun hS => ?_)
    generalize wr.drew=Vbx at *
    refine tk 3 (pA gk 160) hS (hy:=(yR)) (h := ?_)
    (try simp only [pS])
    refine tk 4 (.agg (ints .u8 16 (fun j=>K (16*10+j))).toArray) hS (hy:=(ldO (key_at hKy 10 (by decide)) n9 169 41 Tryz.underlying169 (infoS _))) (h := ?_)
    (try simp only [pS])
    refine dag_root (fun G hG0 => ?_)
    have hG:=Hid.mk' hG0
    clear hG0
    obtain ⟨F,hF0⟩:∃ F:Value→Value→Value→Value→Act,∀ v38 v39 v40 v43,F v38 v39 v40 v43={ tmps:=#[.slice xk 16 ck,.slice xb 16 cb,undef,undef,.slice none 0 0,.int .i64 0,pA gk 0,pA gs 0,undef,u9,u10,u11,u12,u13,u14,u15,u16,u17,u18,u19,u20,u21,u22,u23,u24,u25,.slice (some ⟨gk,16,none⟩) 9 10,.int .i64 9,.int .i64 9,.bool false,u30,u31,u32,u33,u34,u35,u36,u37,v38,v39,v40,pA gk 160,.agg (ints .u8 16 (fun j=>K (16*10+j))).toArray,v43,u44],defers:=[] }:=⟨_,fun _ _ _ _=>rfl⟩
    have hF:=Hid.mk' hF0
    clear hF0
    have stbx0:Hid (∀ (cur:World) (g1:Nat),Out gs 0 16 Vbx cur→RW cur gs 0 (ints .u8 16 (Z))→Vbx.heap.size≤g1→G 0 #[true,true,true,true,true,true,true] (F (.agg (ints .u8 16 (B 9)).toArray) (.slice (some ⟨g1,0,none⟩) 2 2) (.agg (ints .u8 16 (X2)).toArray) (.agg (ints .u8 16 (Z)).toArray)) cur):=Hid.mk' (by
     intro cur g1 hS ro G1
     rw [hF.out,hG.out]
     refine wpAnyH_done (by kernel_rfl) ?_ _
     refine NoPanic.normal ?_
     go_wp2
     go_ret2
     exact ⟨gs,rfl,rowAt_of ro,(below_next b hdrew).trans (hS.below wgs (below_next b hdrew).size)⟩)
    have stbx1:Hid (∀ (cur:World) (g1:Nat),Out gs 0 16 Vbx cur→RW cur gs 0 (ints .u8 16 (B 9))→Vbx.heap.size≤g1→G 1 #[true,true,true,true,true,true,false] (F (.agg (ints .u8 16 (B 9)).toArray) (.slice (some ⟨g1,0,none⟩) 2 2) (.agg (ints .u8 16 (X2)).toArray) (.agg (ints .u8 16 (Z)).toArray)) cur):=Hid.mk' (by
     intro cur g1 hS ro G1
     rw [hF.out,hG.out]
     refine wpAnyH_ready (rs:=[6]) (by kernel_rfl) (by simp) ?_
     refine aT qbx6 169 7 43 (ints .u8 16 (Z)) ro (by rw [ints_len,ints_len]) (hS.trans (Out.setCells _ _ (Nat.le_refl _) (by rw [ints_len];exact Nat.le_refl _))) (infoSA _) (oneU 16 _) (fun rr=>dagW hG (stbx0.out _ g1 (hS.trans (Out.setCells _ _ (Nat.le_refl _) (by rw [ints_len];exact Nat.le_refl _))) rr G1) (hF.out _ _ _ _)) ?_
     exact AllReadyH.nil)
    have stbx2:Hid (∀ (cur:World) (g1:Nat),Out gs 0 16 Vbx cur→RW cur gs 0 (ints .u8 16 (B 9))→Vbx.heap.size≤g1→G 2 #[true,true,true,true,true,false,false] (F (.agg (ints .u8 16 (B 9)).toArray) (.slice (some ⟨g1,0,none⟩) 2 2) (.agg (ints .u8 16 (X2)).toArray) u43) cur):=Hid.mk' (by
     intro cur g1 hS ro G1
     rw [hF.out,hG.out]
     clear stbx0
     refine wpAnyH_ready (rs:=[5]) (by kernel_rfl) (by simp) ?_
     refine arC qbx5 (c2 cur) (fun e w1 ⟨he,hb⟩=>⟨_,he,hS.trans (Out.of_below hb ro.lt),dagW hG (stbx1.out w1 g1 (hS.trans (Out.of_below hb ro.lt)) (ro.still hb) G1) (hF.out _ _ _ _)⟩) ?_
     exact AllReadyH.nil)
    have stbx3:Hid (∀ (cur:World) (g1:Nat),Out gs 0 16 Vbx cur→RW cur gs 0 (ints .u8 16 (B 9))→RW cur g1 0 ([fnV 142,fnV 143])→Vbx.heap.size≤g1→G 3 #[true,true,false,true,true,false,false] (F (.agg (ints .u8 16 (B 9)).toArray) (.slice (some ⟨g1,0,none⟩) 2 2) u40 u43) cur):=Hid.mk' (by
     intro cur g1 hS ro r1 G1
     rw [hF.out,hG.out]
     clear stbx0 stbx1
     refine wpAnyH_ready (rs:=[2]) (by kernel_rfl) (by simp) ?_
     refine arC qbx2 (c1 _ cur r1) (fun e w1 ⟨he,hb⟩=>⟨_,he,hS.trans (Out.of_below hb ro.lt),dagW hG (stbx2.out w1 g1 (hS.trans (Out.of_below hb ro.lt)) (ro.still hb) G1) (hF.out _ _ _ _)⟩) ?_
     exact AllReadyH.nil)
    have stbx4:Hid (∀ (cur:World),Out gs 0 16 Vbx cur→RW cur gs 0 (ints .u8 16 (B 9))→G 4 #[true,false,false,true,true,false,false] (F (.agg (ints .u8 16 (B 9)).toArray) u39 u40 u43) cur):=Hid.mk' (by
     intro cur  hS ro
     rw [hF.out,hG.out]
     clear stbx0 stbx1 stbx2
     refine wpAnyH_ready (rs:=[1]) (by kernel_rfl) (by simp) ?_
     refine aG qbx1 (fun g => .slice (some ⟨g,0,none⟩) 2 2) ([fnV 142,fnV 143]) 173 (fun u hb=>hS.trans (Out.of_below hb ro.lt)) (fun w1 g1 lg hb rr=>dagW hG (stbx3.out w1 g1 (hS.trans (Out.of_below hb ro.lt)) (ro.still hb) rr (Nat.le_trans hS.size lg)) (hF.out _ _ _ _)) ?_
     exact AllReadyH.nil)
    have stbx5:Hid (∀ (cur:World) (g1:Nat),Out gs 0 16 Vbx cur→RW cur gs 0 (ints .u8 16 (B 9))→RW cur g1 0 ([fnV 142,fnV 143])→Vbx.heap.size≤g1→G 4 #[false,true,false,true,true,false,false] (F u38 (.slice (some ⟨g1,0,none⟩) 2 2) u40 u43) cur):=Hid.mk' (by
     intro cur g1 hS ro r1 G1
     rw [hF.out,hG.out]
     clear stbx0 stbx1 stbx2 stbx4
     refine wpAnyH_ready (rs:=[0]) (by kernel_rfl) (by simp) ?_
     refine aL qbx0 169 7 ro hS Tryz.underlying169 (infoS _) (dagW hG (stbx3.out cur g1 hS ro r1 G1) (hF.out _ _ _ _)) ?_
     exact AllReadyH.nil)
    have stbx6:Hid (∀ (cur:World),Out gs 0 16 Vbx cur→RW cur gs 0 (ints .u8 16 (B 9))→G 5 #[false,false,false,true,true,false,false] (F u38 u39 u40 u43) cur):=Hid.mk' (by
     intro cur  hS ro
     rw [hF.out,hG.out]
     clear stbx0 stbx1 stbx2 stbx3
     refine wpAnyH_ready (rs:=[0,1]) (by kernel_rfl) (by simp) ?_
     refine aL qbx0 169 7 ro hS Tryz.underlying169 (infoS _) (dagW hG (stbx4.out cur  hS ro) (hF.out _ _ _ _)) ?_
     refine aG qbx1 (fun g => .slice (some ⟨g,0,none⟩) 2 2) ([fnV 142,fnV 143]) 173 (fun u hb=>hS.trans (Out.of_below hb ro.lt)) (fun w1 g1 lg hb rr=>dagW hG (stbx5.out w1 g1 (hS.trans (Out.of_below hb ro.lt)) (ro.still hb) rr (Nat.le_trans hS.size lg)) (hF.out _ _ _ _)) ?_
     exact AllReadyH.nil)
    rw [hG.out]
    exact dagW hG (stbx6.out Vbx hS hs) (hF.out _ _ _ _)
end Go.Proofs.YtcgkajlehdgpoaaGreatDoor
namespace Go.Proofs.YtcgkajlehdgpoaaGreatDoor
open Go.RowKit
def RowS (w:World) (v:Value) (n:Nat) (X:Nat→Nat):Prop:=∃ g cap,v = .slice (some ⟨g,0,none⟩) n cap∧n≤cap∧RowAt .u8 w g 0 n X
theorem RowS.still {w w':World} {v:Value} {n:Nat} {X:Nat→Nat} (h:RowS w v n X) (hb:Below w.heap.size w w'):RowS w' v n X:=by
 obtain ⟨g,cap,rfl,hc,hr⟩:=h
 exact ⟨g,cap,rfl,hc,hr.still hb⟩
theorem RowS.bytes {w:World} {v:Value} {n:Nat} {X:Nat→Nat} (h:RowS w v n X) (hn:0<n):BytesIn w v n X:=by
 obtain ⟨g,cap,rfl,hc,hr⟩:=h
 exact rowB hr hn hc
end Go.Proofs.YtcgkajlehdgpoaaGreatDoor
namespace Go.Proofs.YtcgkajlehdgpoaaGreatDoor
open Go.RowKit
def RowF (base:Nat) (w:World) (v:Value) (n:Nat) (X:Nat→Nat):Prop:=∃ g cap,v = .slice (some ⟨g,0,none⟩) n cap∧base≤g∧n≤cap∧RowAt .u8 w g 0 n X
theorem RowF.row {base:Nat} {w:World} {v:Value} {n:Nat} {X:Nat→Nat} (h:RowF base w v n X):RowS w v n X:=by
 obtain ⟨g,cap,e,_,hc,hr⟩:=h
 exact ⟨g,cap,e,hc,hr⟩
theorem RowF.mono {base base':Nat} {w:World} {v:Value} {n:Nat} {X:Nat→Nat} (h:RowF base w v n X) (hb:base'≤base):RowF base' w v n X:=by
 obtain ⟨g,cap,e,h1,hc,hr⟩:=h
 exact ⟨g,cap,e,Nat.le_trans hb h1,hc,hr⟩
end Go.Proofs.YtcgkajlehdgpoaaGreatDoor
namespace Go.Proofs.YtcgkajlehdgpoaaGreatDoor
abbrev V8:=BitVec 128
abbrev vZ:V8:=BitVec.ofNat 128 0
abbrev v1:V8:=BitVec.ofNat 128 1
abbrev vC:V8:=BitVec.ofNat 128 135
def gX (v:V8):V8:=(v <<< 1) ^^^ (if v.msb then vC else vZ)
def gXp:Nat→V8→V8
 | 0,a=>a
 | i+1,a=>gX (gXp i a)
def gT (b:V8):Nat→V8→V8
 | 0,_=>vZ
 | i+1,a=>gT b i a ^^^ (if b.getLsbD i then gXp i a else vZ)
def gTm (a b:V8):V8:=gT b 128 a
end Go.Proofs.YtcgkajlehdgpoaaGreatDoor
namespace Go.Proofs.YtcgkajlehdgpoaaGreatDoor
def gbitN (X:Nat→Nat) (i:Nat):Bool:=(X (i / 8)).testBit (7 - i%8)
def tvN (X:Nat→Nat):Nat→V8
 | 0=>vZ
 | i+1=>tvN X i ^^^ (if gbitN X i then BitVec.twoPow 128 i else vZ)
def toV (X:Nat→Nat):V8:=tvN X 128
theorem tvN_bit (X:Nat→Nat) (j:Nat):∀ i,i≤128→(tvN X i).getLsbD j=(decide (j<i) && gbitN X j)
 | 0,_=>by
  show (vZ:V8).getLsbD j=_
  simp
 | i+1,hi=>by
  show (tvN X i ^^^ (if gbitN X i then BitVec.twoPow 128 i else vZ)).getLsbD j=_
  rw [BitVec.getLsbD_xor,tvN_bit X j i (by omega)]
  by_cases h:gbitN X i
  · rw [if_pos h,BitVec.getLsbD_twoPow]
    by_cases e:i=j
    · subst e
      simp [h]
      omega
    · have:decide (i=j)=false:=decide_eq_false e
      simp only [this,Bool.and_false,Bool.xor_false]
      congr 1
      exact decide_eq_decide.2 ⟨fun h=>by omega,fun h=>by omega⟩
  · rw [if_neg h]
    by_cases e:i=j
    · subst e
      simp [h]
    · simp only [BitVec.getLsbD_zero,Bool.xor_false]
      congr 1
      exact decide_eq_decide.2 ⟨fun h=>by omega,fun h=>by omega⟩
theorem toV_bit (X:Nat→Nat) (j:Nat) (hj:j<128):(toV X).getLsbD j=gbitN X j:=by
 unfold toV
 rw [tvN_bit X j 128 (Nat.le_refl _),decide_eq_true hj,Bool.true_and]
theorem toV_S {X Y:Nat→Nat} (h:S16 X Y):toV X=toV Y:=by
 apply BitVec.eq_of_getLsbD_eq
 intro j hj
 rw [toV_bit X j hj,toV_bit Y j hj]
 unfold gbitN
 rw [h (j / 8) (by omega)]
theorem toV_xor (X Y:Nat→Nat):toV (fun j=>X j ^^^ Y j)=toV X ^^^ toV Y:=by
 apply BitVec.eq_of_getLsbD_eq
 intro j hj
 rw [BitVec.getLsbD_xor,toV_bit _ j hj,toV_bit X j hj,toV_bit Y j hj]
 unfold gbitN
 rw [Nat.testBit_xor]
def byB (v:V8) (j:Nat):Nat→Nat
 | 0=>0
 | t+1=>byB v j t ||| (if v.getLsbD (8*j+(7 - t)) then 2 ^ t else 0)
def byV (v:V8) (j:Nat):Nat:=byB v j 8
theorem byB_bit (v:V8) (j t:Nat):∀ n,(byB v j n).testBit t=(decide (t<n) && v.getLsbD (8*j+(7 - t)))
 | 0=>by simp [byB]
 | n+1=>by
  show (byB v j n ||| (if v.getLsbD (8*j+(7 - n)) then 2 ^ n else 0)).testBit t=_
  rw [Nat.testBit_or,byB_bit v j t n]
  by_cases e:t=n
  · subst e
    by_cases h:v.getLsbD (8*j+(7 - t))
    · rw [if_pos h,Nat.testBit_two_pow_self];simp [h]
    · rw [if_neg h];simp [h]
  · have e1:(if v.getLsbD (8*j+(7 - n))=true then 2 ^ n else 0).testBit t=false:=by
     split
     · rw [Nat.testBit_two_pow];simp;omega
     · simp
    rw [e1,Bool.or_false]
    congr 1
    exact decide_eq_decide.2 ⟨fun h=>by omega,fun h=>by omega⟩
theorem byB_lt (v:V8) (j:Nat):∀ n,byB v j n<2 ^ n
 | 0=>(by decide:0<1)
 | n+1=>by
  show (byB v j n ||| (if v.getLsbD (8*j+(7 - n)) then 2 ^ n else 0))<2 ^ (n+1)
  refine Nat.or_lt_two_pow (Nat.lt_trans (byB_lt v j n) (Nat.pow_lt_pow_right (by decide) (by omega))) ?_
  split
  · exact Nat.pow_lt_pow_right (by decide) (by omega)
  · exact Nat.two_pow_pos _
theorem byV_lt (v:V8) (j:Nat):byV v j<256:=byB_lt v j 8
theorem byV_toV {X:Nat→Nat} (hX:B16 X):S16 (byV (toV X)) X:=fun j hj=>by
 apply Nat.eq_of_testBit_eq
 intro t
 unfold byV
 rw [byB_bit]
 by_cases h:t<8
 · rw [decide_eq_true h,Bool.true_and,toV_bit X _ (by omega)]
   unfold gbitN
   rw [show (8*j+(7 - t)) / 8=j by omega,show 7 - (8*j+(7 - t))%8=t by omega]
 · rw [decide_eq_false h,Bool.false_and]
   exact (Nat.testBit_lt_two_pow (Nat.lt_of_lt_of_le (hX j hj) (Nat.pow_le_pow_right (n:=2) (by decide) (show 8≤t by omega)))).symm
theorem toV_byV (v:V8):toV (byV v)=v:=by
 apply BitVec.eq_of_getLsbD_eq
 intro i hi
 rw [toV_bit _ i hi]
 unfold gbitN byV
 rw [byB_bit,decide_eq_true (by omega),Bool.true_and]
 congr 1
 omega
theorem toV_inj {X Y:Nat→Nat} (hX:B16 X) (hY:B16 Y) (h:toV X=toV Y):S16 X Y:=((byV_toV hX).symm.trans (by rw [h];exact fun _ _=>rfl)).trans (byV_toV hY)
theorem c135':∀ i,i<128→8≤i→(vC:V8).getLsbD i=false:=by decide +kernel
theorem gX_bit (v:V8) (i:Nat) (hi:i<128):(gX v).getLsbD i=((decide (0<i) && v.getLsbD (i - 1)) ^^ (v.getLsbD 127 && (vC:V8).getLsbD i)):=by
 unfold gX
 rw [BitVec.getLsbD_xor,BitVec.getLsbD_shiftLeft]
 have hm:v.msb=v.getLsbD 127:=rfl
 rw [hm]
 have e1:(decide (i<128) && !decide (i<1) && v.getLsbD (i - 1))=(decide (0<i) && v.getLsbD (i - 1)):=by
  rw [decide_eq_true hi,Bool.true_and]
  congr 1
  by_cases h:i<1
  · rw [decide_eq_true h,decide_eq_false (by omega)];rfl
  · rw [decide_eq_false h,decide_eq_true (by omega)];rfl
 rw [e1]
 congr 1
 by_cases h:v.getLsbD 127
 · rw [if_pos h,h,Bool.true_and]
 · rw [if_neg h,eq_false_of_ne_true h,Bool.false_and]
   exact BitVec.getLsbD_zero
def tmN (a b:Nat→Nat) (j:Nat):Nat:=byV (gTm (toV a) (toV b)) j
theorem tmN_lt (a b:Nat→Nat) (j:Nat):tmN a b j<256:=byV_lt _ j
theorem toV_zero:toV (fun _=>0)=vZ:=by
 apply BitVec.eq_of_getLsbD_eq
 intro j hj
 rw [toV_bit _ j hj]
 simp [gbitN]
end Go.Proofs.YtcgkajlehdgpoaaGreatDoor
namespace Go.Proofs.YtcgkajlehdgpoaaGreatDoor
def pad (n:Nat):Nat:=(n+15) / 16*16
def gpadN (n:Nat) (X:Nat→Nat) (j:Nat):Nat:=if j<n then X j else 0
theorem padN_lt {n:Nat} {X:Nat→Nat} (h:∀ j,X j<256) (j:Nat):gpadN n X j<256:=by
 unfold gpadN
 split
 · exact h j
 · decide
def be4 (n j:Nat):Nat:=n / 2 ^ (8*(3 - j))%256
def lnN (n j:Nat):Nat:=if j<4 then 0 else be4 (8*n) (j - 4)
theorem be4_lt (n j:Nat):be4 n j<256:=Nat.mod_lt _ (by decide)
end Go.Proofs.YtcgkajlehdgpoaaGreatDoor
namespace Go.Proofs.YtcgkajlehdgpoaaGreatDoor
open Go.RowKit
theorem Own.bytesOf {base:Nat} {w:World} {v:Value} {n:Nat} {X:Nat→Nat} (h:Own base w v n X):BytesIn w v n X:=by
 rcases h.form with ⟨rfl,rfl⟩ | ⟨g,cap,rfl,_,hg,hc,hr⟩
 · exact .inl ⟨none,rfl,rfl⟩
 · exact .inr ⟨g,0,cap,rfl,hg,hc,fun j hj=>(hr j hj).1⟩
def ctN (nonce:Nat→Nat) (n j:Nat):Nat:=if j<12 then nonce j else be4 n (j - 12)
theorem ctN_B {nonce:Nat→Nat} (h:∀ j,nonce j<256) (n:Nat):B16 (ctN nonce n):=fun j _=>by
 unfold ctN
 split
 · exact h j
 · exact be4_lt _ _
def ctB (ks nonce:Nat→Nat) (n:Nat):Nat→Nat:=blkN (kyN ks) (ctN nonce n)
theorem ctB_B {ks nonce:Nat→Nat} (hk:∀ j,ks j<256) (h:∀ j,nonce j<256) (n:Nat):B16 (ctB ks nonce n):=blkN_B (ctN_B h n) (kyN_lt hk)
end Go.Proofs.YtcgkajlehdgpoaaGreatDoor
namespace Go.Proofs.YtcgkajlehdgpoaaGreatDoor
open Go.RowKit
def hsS (h X:Nat→Nat):Nat→Nat→Nat
 | 0=>fun _=>0
 | k+1=>tmN (fun j=>hsS h X k j ^^^ X (16*k+j)) h
def hsN (h:Nat→Nat) (n:Nat) (X:Nat→Nat):Nat→Nat:=hsS h (gpadN n X) (pad n / 16)
theorem hsS_lt (h X:Nat→Nat) (k j:Nat):hsS h X k j<256:=by
 cases k with
 | zero=>exact (by decide:0<256)
 | succ k=>exact tmN_lt _ _ j
end Go.Proofs.YtcgkajlehdgpoaaGreatDoor
namespace Go.Proofs.YtcgkajlehdgpoaaGreatDoor
open Go.RowKit
def trN (ks nn X:Nat→Nat) (j:Nat):Nat:=X j ^^^ ctB ks nn (2+j / 16) (j%16)
theorem trN_lt {ks nn X:Nat→Nat} (hk:∀ j,ks j<256) (hn:∀ j,nn j<256) (hX:∀ j,X j<256) (j:Nat):trN ks nn X j<256:=xor_byte (hX j) (ctB_B hk hn _ _ (by omega))
end Go.Proofs.YtcgkajlehdgpoaaGreatDoor
namespace Go.Proofs.YtcgkajlehdgpoaaGreatDoor
open Go.RowKit
def auN (ml:Nat) (M:Nat→Nat) (dl:Nat) (D:Nat→Nat):Nat→Nat:=cat (pad ml+pad dl+8) (cat (pad ml+pad dl) (cat (pad ml) (gpadN ml M) (gpadN dl D)) (lnN ml)) (lnN dl)
def h0N (ks:Nat→Nat):Nat→Nat:=blkN (kyN ks) (fun _=>0)
def tgN (ks nn:Nat→Nat) (ml:Nat) (M:Nat→Nat) (dl:Nat) (D:Nat→Nat) (j:Nat):Nat:=ctB ks nn 1 j ^^^ hsN (h0N ks) (pad ml+pad dl+16) (auN ml M dl D) j
theorem hsN_lt (h:Nat→Nat) (n:Nat) (X:Nat→Nat) (j:Nat):hsN h n X j<256:=hsS_lt _ _ _ j
def slN (ks nn:Nat→Nat) (ml:Nat) (M:Nat→Nat) (n:Nat) (X:Nat→Nat):Nat→Nat:=cat n (trN ks nn X) (tgN ks nn ml M n (trN ks nn X))
end Go.Proofs.YtcgkajlehdgpoaaGreatDoor
namespace Go.Proofs.YtcgkajlehdgpoaaGreatDoor
open Go.RowKit Go.Shelf
def OnlyN (Q:Exit→Act→World→Prop):Exit→Act→World→Prop
 | .normal,a,w=>Q .normal a w
 | _,_,_=>False
theorem OnlyN.normal {Q:Exit→Act→World→Prop} {a:Act} {w:World} (h:Q .normal a w):OnlyN Q .normal a w:=h
theorem OnlyN.imp {Q:Exit→Act→World→Prop}:∀ (e:Exit) (a:Act) (w:World),OnlyN Q e a w→Q e a w:=fun e a w h=>by
 cases e <;> first | exact h | exact (h:False).elim
theorem OnlyN.stays {Q:Exit→Act→World→Prop}:¬LetsOut (OnlyN Q):=fun ⟨_,_,h⟩=>h
def noDefer (ops:Array Oper):Bool:=ops.toList.all fun o=>match o.op with | .defer _=>false | _=>true
section
variable {P:Program} {md:Region.Mode} {ops:Array Oper} {Q:Exit→Act→World→Prop} {S:World→Prop} {fuel:Nat} {listed:Array Bool} {a:Act} {w:World}
theorem upon_in {l n:Nat} {o:Oper} {K:Act→World→Prop}:∀ {r:Result Next},o.upon P a K Q r→o.uponIn (Fence.wide.inRound l) n P a K Q r
 | .ok (.value _) _,h=>h
 | .ok .skip _,h=>h
 | .ok (.defer _) _,h=>h
 | .ok (.enter _ _) _,h=>⟨(fun hd=>by cases hd),CallsIn.inRound l (callsIn_wide.2 h)⟩
 | .ok (.row _ _) _,h=>⟨(fun hd=>by cases hd),fun c cs _=>let ⟨v,w',r,s⟩:=h c cs;⟨v,w',r,stepsIn_wide.2 s⟩⟩
 | .ok (.round ..) _,h=>(h:False).elim
 | .halt (.panic _) _,h=>h
theorem any_in {l n:Nat} (hd:noDefer ops=true) (hQ:¬LetsOut Q):∀ (fuel:Nat) (listed:Array Bool) (a:Act) (w:World),wpAny P md ops Q fuel listed a w→wpAnyIn (Fence.wide.inRound l) n P md ops Q fuel listed a w
 | 0,_,_,_,h=>h
 | fuel+1,listed,a,w,h=>⟨h.1,fun i hi=>by
  have hi':=h.2 i hi
  unfold wpOp at hi'
  unfold wpOpIn
  split
  · rename_i heq
    rw [heq] at hi'
    exact any_in hd hQ fuel _ a w hi'
  · rename_i o heq
    rw [heq] at hi'
    dsimp only at hi'
    split
    · rename_i hw
      rw [if_pos hw] at hi'
      have h1:=hi'.resolve_right fun h=>hQ h.2
      refine ⟨fun _ _=>trivial,?_⟩
      have hnd:∀ c,o.op ≠ .defer c:=fun c e=>by
       have hm:o∈ops.toList:=by
        rw [←Array.getElem?_toList] at heq
        exact List.mem_of_getElem? heq
       have:=List.all_eq_true.1 hd o hm
       rw [e] at this
       cases this
      rw [Oper.semAt_plain (Fence.wide.inRound l) _ o hnd]
      exact upon_in (Oper.wp_mono (fun a w h=>any_in hd hQ fuel _ a w h) h1)
    · rename_i hw
      rw [if_neg hw] at hi'
      exact ⟨fun _ _=>trivial,any_in hd hQ fuel _ _ w hi'⟩⟩
theorem wpIn_held {l n id:Nat} (hm:P.follows .mixedOrders=true) (hd:noDefer ops=true) (hS:S w.drew) (h:S w.drew→wpAnyH P .any ops (OnlyN Q) S ops.size (Array.replicate ops.size false) a w.drew):(Code.region id ops true).wpIn (Fence.wide.inRound l) n P Q a w :=
 wpIn_mono (wpIn_region_any hm (any_in hd OnlyN.stays _ _ _ _ (wpAny_of_held _ _ _ _ (h hS)))) OnlyN.imp
theorem tlO (i:Nat) {V:World} {oi:Oper} {g off k b p n:Nat} {cs:List Value} (r:RW V g off cs) (hne:g≠b) (hS:Out b p n V w) (ty:Nat) {d:TypeDesc} (hu:P.underlying ty=some d) (hin:(P.info? ty).map (·.size)=some cs.length)
 (h:wpAnyH P md ops Q (fun u=>Out b p n V u) fuel (listed.setIfInBounds i true) (a.put oi.dst (.agg cs.toArray)) w) (hi:ops.toList[i]? = some oi:=by rfl) (ho:oi.op = .load ty (.tmp k):=by rfl)
 (hd:d.isRow=true:=by rfl) (hw:Region.wanted oi (yielded ops a.tmps)=true:=by rfl) (hx:a.eval (.tmp k) = .pointer (some ⟨g,off,none⟩):=by rfl)
 (hQ:∀ c b w,Q (.panic c) (b.put oi.dst (.agg cs.toArray)) w→Q (.panic c) b w:=by exact fun _ _ _ h=>h) (hs:Region.noSelect ops=true:=by kernel_rfl) (hf:Region.free md ops listed i=true:=by kernel_rfl) (hr:(Region.ready md ops listed).contains i=true:=by kernel_rfl):wpAnyH P md ops Q (fun u=>Out b p n V u) (fuel+1) listed a w :=
 tkH i oi _ hS (ldO r hne ty k hu hin hd hw ho hx) h hQ (at_list hi) hs hf hr
theorem lo (i:Nat) {oi:Oper} (ty k:Nat) {g off:Nat} {cs:List Value} {d:TypeDesc} (r:RW w g off cs) (hS:S w) (hu:P.underlying ty=some d) (hin:(P.info? ty).map (·.size)=some cs.length) (h:wpAnyH P md ops Q S fuel (listed.setIfInBounds i true) (a.put oi.dst (.agg cs.toArray)) w)
 (hi:ops.toList[i]? = some oi:=by rfl) (hr:Region.ready md ops listed=[i]:=by kernel_rfl) (hd:d.isRow=true:=by rfl) (ho:oi.op = .load ty (.tmp k):=by rfl) (hx:a.eval (.tmp k) = .pointer (some ⟨g,off,none⟩):=by rfl) (hw:Region.wanted oi (yielded ops a.tmps)=true:=by rfl):wpAnyH P md ops Q S (fuel+1) listed a w :=
 wpAnyH_ready hr (by simp) (aL oi ty k r hS hu hin h AllReadyH.nil hd ho hx (at_list hi) hw)
theorem so (i:Nat) {oi:Oper} (ty x y:Nat) {g off:Nat} {cs:List Value} (ds:List Value) (r:RW w g off cs) (hl:ds.length=cs.length) (hk:S (w.setCells g off ds)) (hin:(P.info? ty).map (·.size)=some ds.toArray.size) (h1:ds.toArray.all (·.oneCell')=true) (h:RW (w.setCells g off ds) g off ds→wpAnyH P md ops Q S fuel (listed.setIfInBounds i true) (a.put oi.dst undef) (w.setCells g off ds))
 (hi:ops.toList[i]? = some oi:=by rfl) (hr:Region.ready md ops listed=[i]:=by kernel_rfl) (ho:oi.op = .store ty (.tmp x) (.tmp y):=by rfl) (hx:a.eval (.tmp x) = .pointer (some ⟨g,off,none⟩):=by rfl) (hy:a.eval (.tmp y) = .agg ds.toArray:=by rfl) (hw:Region.wanted oi (yielded ops a.tmps)=true:=by rfl):wpAnyH P md ops Q S (fuel+1) listed a w :=
 wpAnyH_ready hr (by simp) (aT oi ty x y ds r hl hk hin h1 h AllReadyH.nil ho hx hy (at_list hi) hw)
end
end Go.Proofs.YtcgkajlehdgpoaaGreatDoor
