/- What the proof stands on: A8Blc, A8RI, A8RB, A8RS, A8RK. -/
import Derived.Test.YtplnmmokafomaaaA8Op3M
namespace Go.Proofs.Ytplnmmokafomaaa
open Go.RowKit
abbrev qb46:Oper:=oS (Op.store 42 (oT 7) (oT 25)) "aes.go:27" #[jD 5,jD 4,jC 4,jP 0,jP 1,jP 2,jP 3,jP 4,jP 5]
abbrev qb45:Oper:=oN 7 (Op.alloc 42) 0 "aes.go:27" #[]
abbrev qb44:Oper:=oN 25 (cF1 26 #[oT 22,oT 24] #[42,42]) 42 "aes.go:27" #[jD 1,jD 3,jC 1]
abbrev qb41:Oper:=oN 22 (cF1 24 #[oT 21] #[25]) 42 "aes.go:27" #[jD 0]
abbrev qb85:Oper:=oS (Op.store 42 (oT 7) (oT 36)) "aes.go:29" #[jD 4,jC 4,jP 0,jP 1,jP 2,jP 3,jP 4]
abbrev qb84:Oper:=oN 36 (cF1 26 #[oT 34,oT 35] #[42,42]) 42 "aes.go:29" #[jD 2,jD 3,jC 2]
abbrev qb82:Oper:=oN 34 (cF1 27 #[oT 32,oT 33] #[42,56]) 42 "aes.go:29" #[jD 0,jD 1]
abbrev qb81:Oper:=oN 33 (Op.buildSlice 56 3 #[(0,Operand.func 28),(1,Operand.func 29),(2,Operand.func 30)]) 56 "aes.go:29" #[]
abbrev qb80:Oper:=oN 32 (Op.load 42 (oT 7)) 42 "aes.go:29" #[]
abbrev qbx6:Oper:=oS (Op.store 42 (oT 7) (oT 43)) "aes.go:31" #[jD 5,jC 5,jP 0,jP 1,jP 2,jP 3,jP 4,jP 5]
abbrev qbx5:Oper:=oN 43 (cF1 26 #[oT 40,oT 42] #[42,42]) 42 "aes.go:31" #[jD 2,jD 4,jC 2]
abbrev qbx2:Oper:=oN 40 (cF1 27 #[oT 38,oT 39] #[42,56]) 42 "aes.go:31" #[jD 0,jD 1]
abbrev qbx1:Oper:=oN 39 (Op.buildSlice 56 2 #[(0,Operand.func 28),(1,Operand.func 29)]) 56 "aes.go:31" #[]
abbrev qbx0:Oper:=oN 38 (Op.load 42 (oT 7)) 42 "aes.go:31" #[]
theorem RowAt.still {K:IntKind} {w w':World} {g o n:Nat} {X:Nat→Nat} (h:RowAt K w g o n X) (hb:Below w.heap.size w w'):RowAt K w' g o n X:=fun j hj=>⟨(hb.cell (p:=⟨g,o+j,none⟩) (block_lt_of_cell (h j hj).1)).trans (h j hj).1,(hb.frozen (p:=⟨g,o+j,none⟩) (block_lt_of_cell (h j hj).1)).trans (h j hj).2⟩
set_option maxRecDepth 20000 in
set_option maxHeartbeats 8000000 in
theorem block_good (v u:Value) (ks bs:Nat→Nat) (hks:∀ j,ks j<256) (hbB:B16 bs) (w:World) (hv:BytesIn w v 16 ks) (hu:BytesIn w u 16 bs) :
 Calls Try.prog 16 #[v,u] w fun e w'=>∃ g,e = .returned (.tuple #[.slice (some ⟨g,0,none⟩) 16 16,.int .i64 0])∧RowAt .u8 w' g 0 16 (blkN (kyN ks) bs)∧Below w.heap.size w w':=by
 have hz:=zeroK
 have cs:=squareOf_16 v ks w hv
 have cr:=roundKeys_any ks hks
 have hK:=kyN_lt hks
 obtain ⟨xk,ck,rfl,-,-,-⟩:=hv.src
 obtain ⟨xb,cb,rfl,-,-,-⟩:=hu.src
 unfold kyV sqV at cr
 obtain ⟨K,hKe⟩:∃ K,K=kyN ks:=⟨_,rfl⟩
 rw [←hKe] at cr hK ⊢
 have hj2:=infoKA K
 have hjo:=oneU 176 K
 have hst:∀ W:World,(W.alloc (.cells (zb 176) 43)).there W.heap.size 0 (ints .u8 176 K).toArray.size∧RowAt .u8 ((W.alloc (.cells (zb 176) 43)).setCells W.heap.size 0 (ints .u8 176 K)) W.heap.size 0 176 K∧Below W.heap.size W ((W.alloc (.cells (zb 176) 43)).setCells W.heap.size 0 (ints .u8 176 K)):=fun W=>by
  have h:=RowAt.zero W 176 43
  exact ⟨by rw [ints_size];exact h.there,h.stored,below_setCells (Nat.le_refl _) _ _ _ ((Below.refl _ _).alloc (Nat.le_refl _) _)⟩
 have Hst:=Hid.mk' hst
 obtain ⟨LK,hLK⟩:∃ LK,LK=ints .u8 176 K:=⟨_,rfl⟩
 rw [←hLK] at cr hj2 hjo Hst
 clear hKe hLK hst hv hks
 obtain ⟨Z,hZe⟩:∃ Z,Z=blkN K bs:=⟨_,rfl⟩
 rw [←hZe]
 have HZ:=Hid.mk' hZe
 clear hZe
 go_enter Try.func16,Try.ntmps16
 go_upto_region 4 with (first
  | (go_at_call 24;refine cs.mono ?_;clear cs;rintro e w1 ⟨rfl,hb1⟩;(have cr1:=cr w1);clear cr)
  | (go_at_call 23;refine cr1.mono ?_;clear cr1;rintro e w2 ⟨rfl,hb2⟩;(obtain ⟨hth,hKy,hb3⟩:=Hst.out w2);(have b:=below_next (below_next hb1 hb2) hb3);clear hb1 hb2)
  | (with_reducible (refine id (?_:wpList _ _ _ _ _ _));refine wpList_store_mid rfl 43 _ _ rfl w2.heap.size 0 LK.toArray rfl rfl hth hj2 hjo ?_))
 dsimp only [Act.put]
 have hgk:w2.heap.size<((w2.alloc (.cells (zb 176) 43)).setCells w2.heap.size 0 LK).heap.size:=block_lt_of_cell (hKy 0 (by decide)).1
 clear hth hb3 Hst hj2 hjo hz
 generalize (w2.alloc (.cells (zb 176) 43)).setCells w2.heap.size 0 LK=U at *
 generalize w2.heap.size=gk at *
 go_cut [7] from 10 (fun s7 wc=>∃ gs,s7 = .pointer (some ⟨gs,0,none⟩)∧RowAt .u8 wc gs 0 16 (addN K 0 bs)∧U.heap.size≤gs∧RowAt .u8 wc gk 0 176 K∧Below w.heap.size w wc)
 case first =>
  have hdrew:Below U.heap.size U U.drew:=(Below.refl _ _).drew
  replace hKy:=hKy.still hdrew
  refine wp_region_noPanic ?_
  refine wp_region_held_drew (S:=fun w'=>Below U.drew.heap.size U.drew w') (by kernel_rfl) (Below.refl _ _) (fun hS => ?_)
  generalize U.drew=Vb4 at *
  refine tk 0 (.slice xb 16 cb) hS (hy:=(yR)) (h := ?_)
  (try simp only [pS])
  refine tk 2 (pA gk 0) hS (hy:=(yR)) (h := ?_)
  (try simp only [pS])
  refine tk 3 (.agg (ints .u8 16 (fun j=>K (16*0+j))).toArray) hS (hy:=(ldH (key_at hKy 0 (by decide)) 42 23 Try.underlying42 (infoS _))) (h := ?_)
  (try simp only [pS])
  refine dag_root (fun G hG0 => ?_)
  have hG:=Hid.mk' hG0
  clear hG0
  obtain ⟨F,hF0⟩:∃ F:Value→Value→Value→Act,∀ v7 v22 v25,F v7 v22 v25={ tmps:=#[.slice xk 16 ck,.slice xb 16 cb,undef,undef,.slice none 0 0,.int .i64 0,pA gk 0,v7,undef,undef,.slice xk 16 ck,.int .i64 16,.bool false,.bool false,.slice xb 16 cb,.int .i64 16,.bool false,.bool false,.slice xk 16 ck,.agg (ints .u8 16 (ks)).toArray,.agg LK.toArray,.slice xb 16 cb,v22,pA gk 0,.agg (ints .u8 16 (fun j=>K (16*0+j))).toArray,v25,undef,undef,undef,undef,undef,undef,undef,undef,undef,undef,undef,undef,undef,undef,undef,undef,undef,undef,undef],defers:=[] }:=⟨_,fun _ _ _=>rfl⟩
  have hF:=Hid.mk' hF0
  clear hF0
  have stb40:Hid (∀ (cur:World) (g5:Nat),Below Vb4.heap.size Vb4 cur→RW cur g5 0 (ints .u8 16 (addN K 0 bs))→Vb4.heap.size≤g5→G 0 #[true,true,true,true,true,true,true] (F (pA g5 0) (.agg (ints .u8 16 (bs)).toArray) (.agg (ints .u8 16 (addN K 0 bs)).toArray)) cur):=Hid.mk' (by
   intro cur g5 hS r5 G5
   rw [hF.out,hG.out]
   refine wpAnyH_done (by kernel_rfl) ?_ _
   refine NoPanic.normal ?_
   go_wp2
   go_meet
   case rel=>exact ⟨g5,rfl,rowAt_of r5,Nat.le_trans hdrew.size G5,hKy.still hS,below_next (below_next b hdrew) hS⟩)
  have stb41:Hid (∀ (cur:World) (g5:Nat),Below Vb4.heap.size Vb4 cur→RW cur g5 0 (ints .u8 16 (fun _=>0))→Vb4.heap.size≤g5→G 1 #[true,true,true,true,true,true,false] (F (pA g5 0) (.agg (ints .u8 16 (bs)).toArray) (.agg (ints .u8 16 (addN K 0 bs)).toArray)) cur):=Hid.mk' (by
   intro cur g5 hS r5 G5
   rw [hF.out,hG.out]
   refine wpAnyH_ready (rs:=[6]) (by kernel_rfl) (by simp) ?_
   refine aT qb46 42 7 25 (ints .u8 16 (addN K 0 bs)) r5 (by rw [ints_len,ints_len]) (below_setCells G5 _ _ _ hS) (infoSA _) (oneU 16 _) (fun rr=>dagW hG (stb40.out _ g5 (below_setCells G5 _ _ _ hS) rr G5) (hF.out _ _ _)) ?_
   exact AllReadyH.nil)
  have stb42:Hid (∀ (cur:World),Below Vb4.heap.size Vb4 cur→G 2 #[true,true,true,true,true,false,false] (F undef (.agg (ints .u8 16 (bs)).toArray) (.agg (ints .u8 16 (addN K 0 bs)).toArray)) cur):=Hid.mk' (by
   intro cur  hS 
   rw [hF.out,hG.out]
   clear stb40
   refine wpAnyH_ready (rs:=[5]) (by kernel_rfl) (by simp) ?_
   refine aG qb45 (fun g=>pA g 0) (ints .u8 16 (fun _=>0)) 42 (fun u hb=>below_next hS hb) (fun w1 g5 lg hb rr=>dagW hG (stb41.out w1 g5 (below_next hS hb) rr (Nat.le_trans hS.size lg)) (hF.out _ _ _)) ?_
   exact AllReadyH.nil)
  have stb43:Hid (∀ (cur:World) (g5:Nat),Below Vb4.heap.size Vb4 cur→RW cur g5 0 (ints .u8 16 (fun _=>0))→Vb4.heap.size≤g5→G 2 #[true,true,true,true,false,true,false] (F (pA g5 0) (.agg (ints .u8 16 (bs)).toArray) undef) cur):=Hid.mk' (by
   intro cur g5 hS r5 G5
   rw [hF.out,hG.out]
   clear stb40 stb42
   refine wpAnyH_ready (rs:=[4]) (by kernel_rfl) (by simp) ?_
   refine arC qb44 (plus_key bs K 0 hbB hK cur) (fun e w1 ⟨he,hb⟩=>⟨_,he,below_next hS hb,dagW hG (stb41.out w1 g5 (below_next hS hb) (r5.still hb) G5) (hF.out _ _ _)⟩) ?_
   exact AllReadyH.nil)
  have stb44:Hid (∀ (cur:World),Below Vb4.heap.size Vb4 cur→G 3 #[true,true,true,true,false,false,false] (F undef (.agg (ints .u8 16 (bs)).toArray) undef) cur):=Hid.mk' (by
   intro cur  hS 
   rw [hF.out,hG.out]
   clear stb40 stb41
   refine wpAnyH_ready (rs:=[4,5]) (by kernel_rfl) (by simp) ?_
   refine arC qb44 (plus_key bs K 0 hbB hK cur) (fun e w1 ⟨he,hb⟩=>⟨_,he,below_next hS hb,dagW hG (stb42.out w1  (below_next hS hb) ) (hF.out _ _ _)⟩) ?_
   refine aG qb45 (fun g=>pA g 0) (ints .u8 16 (fun _=>0)) 42 (fun u hb=>below_next hS hb) (fun w1 g5 lg hb rr=>dagW hG (stb43.out w1 g5 (below_next hS hb) rr (Nat.le_trans hS.size lg)) (hF.out _ _ _)) ?_
   exact AllReadyH.nil)
  have stb45:Hid (∀ (cur:World) (g5:Nat),Below Vb4.heap.size Vb4 cur→RW cur g5 0 (ints .u8 16 (fun _=>0))→Vb4.heap.size≤g5→G 3 #[true,false,true,true,false,true,false] (F (pA g5 0) undef undef) cur):=Hid.mk' (by
   intro cur g5 hS r5 G5
   rw [hF.out,hG.out]
   clear stb40 stb41 stb42 stb44
   refine wpAnyH_ready (rs:=[1]) (by kernel_rfl) (by simp) ?_
   refine arC qb41 (squareOf_16 _ bs cur (hu.keep (below_next (below_next b hdrew) hS))) (fun e w1 ⟨he,hb⟩=>⟨_,he,below_next hS hb,dagW hG (stb43.out w1 g5 (below_next hS hb) (r5.still hb) G5) (hF.out _ _ _)⟩) ?_
   exact AllReadyH.nil)
  have stb46:Hid (∀ (cur:World),Below Vb4.heap.size Vb4 cur→G 4 #[true,false,true,true,false,false,false] (F undef undef undef) cur):=Hid.mk' (by
   intro cur  hS 
   rw [hF.out,hG.out]
   clear stb40 stb41 stb42 stb43
   refine wpAnyH_ready (rs:=[1,5]) (by kernel_rfl) (by simp) ?_
   refine arC qb41 (squareOf_16 _ bs cur (hu.keep (below_next (below_next b hdrew) hS))) (fun e w1 ⟨he,hb⟩=>⟨_,he,below_next hS hb,dagW hG (stb44.out w1  (below_next hS hb) ) (hF.out _ _ _)⟩) ?_
   refine aG qb45 (fun g=>pA g 0) (ints .u8 16 (fun _=>0)) 42 (fun u hb=>below_next hS hb) (fun w1 g5 lg hb rr=>dagW hG (stb45.out w1 g5 (below_next hS hb) rr (Nat.le_trans hS.size lg)) (hF.out _ _ _)) ?_
   exact AllReadyH.nil)
  rw [hG.out]
  exact dagW hG (stb46.out Vb4 hS ) (hF.out _ _ _)
 case rest =>
 obtain ⟨gs,rfl,hs0,hgs,hKy0,b0⟩:=hcut
 have ngk:gk<gs:=Nat.lt_of_lt_of_le hgk hgs
 have wgs:w.heap.size≤gs:=Nat.le_trans b.size hgs
 clear hKy b hu hgk hgs
 obtain ⟨B,hBe⟩:∃ B,B=blkS K bs:=⟨_,rfl⟩
 have hBB:∀ r,B16 (B r):=fun r=>by rw [hBe];exact blkS_B hbB hK r
 have hB0:addN K 0 bs=B 0:=by rw [hBe];rfl
 have hBs:∀ r,addN K (r+1) (colN mT (rowN 1 (thrN boxN (B r))))=B (r+1):=fun r=>by rw [hBe];rfl
 have hBn:addN K 10 (rowN 1 (thrN boxN (B 9)))=blkN K bs:=by rw [hBe];rfl
 rw [hB0] at hs0
 have hz:=zeroS
 have sz0:=block_lt_of_cell (hs0 0 (by decide)).1
 have HBs:=Hid.mk' hBs
 have HBn:=Hid.mk' hBn
 clear hBe hB0 hBs hBn
 go_wp2
 go_loopw [28] (fun i wr=>∃ k:Nat,k≤9∧i = .int .i64 k∧RowAt .u8 wr gs 0 16 (B k)∧RowAt .u8 wr gk 0 176 K∧Below w.heap.size w wr) (fun i _=>9 - (intOf i).toNat)
 case atStart=>exact ⟨0,Nat.zero_le _,rfl,hs0,hKy0,b0⟩
 case round =>
  clear hs0 hKy0 b0 sz0
  obtain ⟨k,hk,rfl,hs,hKy,b⟩:=hrel
  have sz:=block_lt_of_cell (hs 0 (by decide)).1
  by_cases hlt:k<9
  · have hPr:=(key_at hKy (k+1) (by omega)).range
    rw [show 16*(k+1)=16+k*16 by omega] at hPr
    have q1:(0:Int)≤(k:Int)∧(k:Int)<9:=by omega
    have hi1:=infoS (fun j=>K (16+k*16+j))
    have hj2:=infoSA (fun j=>K (16+k*16+j))
    have hjo:=oneU 16 (fun j=>K (16+k*16+j))
    have hT:=RowAt.zero wr 16 42
    have hth:(wr.alloc (.cells (zb 16) 42)).there wr.heap.size 0 (ints .u8 16 (fun j=>K (16+k*16+j))).toArray.size:=by rw [ints_size];exact hT.there
    have hL9:=(hT.stored (L:=fun j=>K (16+k*16+j))).rw (by decide)
    have hb2:Below wr.heap.size wr ((wr.alloc (.cells (zb 16) 42)).setCells wr.heap.size 0 (ints .u8 16 (fun j=>K (16+k*16+j)))):=below_setCells (Nat.le_refl _) _ _ _ ((Below.refl _ _).alloc (Nat.le_refl _) _)
    replace hs:=(hs.still hb2).rw (by decide)
    replace hKy:=hKy.still hb2
    replace b:=below_next b hb2
    have c1:=fun g W h=>thr3 (B k) (hBB k) g W h
    have c2:=fun W=>plus_key (colN mT (rowN 1 (thrN boxN (B k)))) K (k+1) (colT_B (rowN_B (box_B (hBB k)) 1)) hK W
    rw [HBs.out k,show 16*(k+1)=16+k*16 by omega] at c2
    generalize colN mT (rowN 1 (thrN boxN (B k)))=X2 at *
    generalize hLL:ints .u8 16 (fun j=>K (16+k*16+j))=LL at *
    go_upto_region 8 with (first
     | (refine wpList_load_mid rfl 42 _ rfl gk (16+k*16) rfl LL _ hPr Try.underlying42 rfl hi1 ?_)
     | (with_reducible (refine id (?_:wpList _ _ _ _ _ _));refine wpList_store_mid rfl 42 _ _ rfl wr.heap.size 0 LL.toArray rfl rfl hth hj2 hjo ?_))
    dsimp only [Act.put]
    have n9:wr.heap.size≠gs:=fun h=>Nat.lt_irrefl _ (h ▸ sz)
    clear hT hth hb2 hPr hj2 hjo hLL hz sz HBs HBn
    generalize (wr.alloc (.cells (zb 16) 42)).setCells wr.heap.size 0 LL=U8 at *
    generalize wr.heap.size=g9 at *
    have hdrew:Below U8.heap.size U8 U8.drew:=(Below.refl _ _).drew
    replace hs:=hs.still hdrew
    replace hKy:=hKy.still hdrew
    replace hL9:=hL9.still hdrew
    refine wp_region_noPanic ?_
    refine wp_region_held_drew (S:=fun w'=>Out gs 0 16 U8.drew w') (by kernel_rfl) (Out.refl _ _ _ _) (fun hS => ?_)
    generalize U8.drew=Vb8 at *
    refine tk 3 (.agg LL.toArray) hS (hy:=(ldO hL9 n9 42 9 Try.underlying42 hi1)) (h := ?_)
    (try simp only [pS])
    refine dag_root (fun G hG0 => ?_)
    have hG:=Hid.mk' hG0
    clear hG0
    obtain ⟨F,hF0⟩:∃ F:Value→Value→Value→Value→Act,∀ v32 v33 v34 v36,F v32 v33 v34 v36={ tmps:=#[.slice xk 16 ck,.slice xb 16 cb,undef,undef,.slice none 0 0,.int .i64 0,pA gk 0,pA gs 0,undef,pA g9 0,u10,u11,u12,u13,u14,u15,u16,u17,u18,u19,u20,u21,u22,u23,u24,u25,.slice (some ⟨gk,16,none⟩) 9 10,.int .i64 9,.int .i64 k,.bool true,pA gk (16+k*16),.agg LL.toArray,v32,v33,v34,.agg LL.toArray,v36,u37,u38,u39,u40,u41,u42,u43,u44],defers:=[] }:=⟨_,fun _ _ _ _=>rfl⟩
    have hF:=Hid.mk' hF0
    clear hF0
    have stb80:Hid (∀ (cur:World) (g1:Nat),Out gs 0 16 Vb8 cur→RW cur gs 0 (ints .u8 16 (B (k+1)))→Vb8.heap.size≤g1→G 0 #[true,true,true,true,true,true] (F (.agg (ints .u8 16 (B k)).toArray) (.slice (some ⟨g1,0,none⟩) 3 3) (.agg (ints .u8 16 (X2)).toArray) (.agg (ints .u8 16 (B (k+1))).toArray)) cur):=Hid.mk' (by
     intro cur g1 hS ro G1
     rw [hF.out,hG.out]
     refine wpAnyH_done (by kernel_rfl) ?_ _
     refine NoPanic.normal ?_
     go_wp2
     go_roundw
     case rel=>exact ⟨k+1,by omega,by go_num,rowAt_of ro,hS.row hKy (Nat.ne_of_lt ngk),(below_next b hdrew).trans (hS.below wgs (below_next b hdrew).size)⟩
     case measure=>simp [intOf];omega)
    have stb81:Hid (∀ (cur:World) (g1:Nat),Out gs 0 16 Vb8 cur→RW cur gs 0 (ints .u8 16 (B k))→Vb8.heap.size≤g1→G 1 #[true,true,true,true,true,false] (F (.agg (ints .u8 16 (B k)).toArray) (.slice (some ⟨g1,0,none⟩) 3 3) (.agg (ints .u8 16 (X2)).toArray) (.agg (ints .u8 16 (B (k+1))).toArray)) cur):=Hid.mk' (by
     intro cur g1 hS ro G1
     rw [hF.out,hG.out]
     refine wpAnyH_ready (rs:=[5]) (by kernel_rfl) (by simp) ?_
     refine aT qb85 42 7 36 (ints .u8 16 (B (k+1))) ro (by rw [ints_len,ints_len]) (hS.trans (Out.setCells _ _ (Nat.le_refl _) (by rw [ints_len];exact Nat.le_refl _))) (infoSA _) (oneU 16 _) (fun rr=>dagW hG (stb80.out _ g1 (hS.trans (Out.setCells _ _ (Nat.le_refl _) (by rw [ints_len];exact Nat.le_refl _))) rr G1) (hF.out _ _ _ _)) ?_
     exact AllReadyH.nil)
    have stb82:Hid (∀ (cur:World) (g1:Nat),Out gs 0 16 Vb8 cur→RW cur gs 0 (ints .u8 16 (B k))→Vb8.heap.size≤g1→G 2 #[true,true,true,true,false,false] (F (.agg (ints .u8 16 (B k)).toArray) (.slice (some ⟨g1,0,none⟩) 3 3) (.agg (ints .u8 16 (X2)).toArray) u36) cur):=Hid.mk' (by
     intro cur g1 hS ro G1
     rw [hF.out,hG.out]
     clear stb80
     refine wpAnyH_ready (rs:=[4]) (by kernel_rfl) (by simp) ?_
     refine arC qb84 (c2 cur) (fun e w1 ⟨he,hb⟩=>⟨_,he,hS.trans (Out.of_below hb ro.lt),dagW hG (stb81.out w1 g1 (hS.trans (Out.of_below hb ro.lt)) (ro.still hb) G1) (hF.out _ _ _ _)⟩) ?_
     exact AllReadyH.nil)
    have stb83:Hid (∀ (cur:World) (g1:Nat),Out gs 0 16 Vb8 cur→RW cur gs 0 (ints .u8 16 (B k))→RW cur g1 0 ([fnV 28,fnV 29,fnV 30])→Vb8.heap.size≤g1→G 3 #[true,true,false,true,false,false] (F (.agg (ints .u8 16 (B k)).toArray) (.slice (some ⟨g1,0,none⟩) 3 3) u34 u36) cur):=Hid.mk' (by
     intro cur g1 hS ro r1 G1
     rw [hF.out,hG.out]
     clear stb80 stb81
     refine wpAnyH_ready (rs:=[2]) (by kernel_rfl) (by simp) ?_
     refine arC qb82 (c1 _ cur r1) (fun e w1 ⟨he,hb⟩=>⟨_,he,hS.trans (Out.of_below hb ro.lt),dagW hG (stb82.out w1 g1 (hS.trans (Out.of_below hb ro.lt)) (ro.still hb) G1) (hF.out _ _ _ _)⟩) ?_
     exact AllReadyH.nil)
    have stb84:Hid (∀ (cur:World),Out gs 0 16 Vb8 cur→RW cur gs 0 (ints .u8 16 (B k))→G 4 #[true,false,false,true,false,false] (F (.agg (ints .u8 16 (B k)).toArray) u33 u34 u36) cur):=Hid.mk' (by
     intro cur  hS ro
     rw [hF.out,hG.out]
     clear stb80 stb81 stb82
     refine wpAnyH_ready (rs:=[1]) (by kernel_rfl) (by simp) ?_
     refine aG qb81 (fun g => .slice (some ⟨g,0,none⟩) 3 3) ([fnV 28,fnV 29,fnV 30]) 47 (fun u hb=>hS.trans (Out.of_below hb ro.lt)) (fun w1 g1 lg hb rr=>dagW hG (stb83.out w1 g1 (hS.trans (Out.of_below hb ro.lt)) (ro.still hb) rr (Nat.le_trans hS.size lg)) (hF.out _ _ _ _)) ?_
     exact AllReadyH.nil)
    have stb85:Hid (∀ (cur:World) (g1:Nat),Out gs 0 16 Vb8 cur→RW cur gs 0 (ints .u8 16 (B k))→RW cur g1 0 ([fnV 28,fnV 29,fnV 30])→Vb8.heap.size≤g1→G 4 #[false,true,false,true,false,false] (F u32 (.slice (some ⟨g1,0,none⟩) 3 3) u34 u36) cur):=Hid.mk' (by
     intro cur g1 hS ro r1 G1
     rw [hF.out,hG.out]
     clear stb80 stb81 stb82 stb84
     refine wpAnyH_ready (rs:=[0]) (by kernel_rfl) (by simp) ?_
     refine aL qb80 42 7 ro hS Try.underlying42 (infoS _) (dagW hG (stb83.out cur g1 hS ro r1 G1) (hF.out _ _ _ _)) ?_
     exact AllReadyH.nil)
    have stb86:Hid (∀ (cur:World),Out gs 0 16 Vb8 cur→RW cur gs 0 (ints .u8 16 (B k))→G 5 #[false,false,false,true,false,false] (F u32 u33 u34 u36) cur):=Hid.mk' (by
     intro cur  hS ro
     rw [hF.out,hG.out]
     clear stb80 stb81 stb82 stb83
     refine wpAnyH_ready (rs:=[0,1]) (by kernel_rfl) (by simp) ?_
     refine aL qb80 42 7 ro hS Try.underlying42 (infoS _) (dagW hG (stb84.out cur  hS ro) (hF.out _ _ _ _)) ?_
     refine aG qb81 (fun g => .slice (some ⟨g,0,none⟩) 3 3) ([fnV 28,fnV 29,fnV 30]) 47 (fun u hb=>hS.trans (Out.of_below hb ro.lt)) (fun w1 g1 lg hb rr=>dagW hG (stb85.out w1 g1 (hS.trans (Out.of_below hb ro.lt)) (ro.still hb) rr (Nat.le_trans hS.size lg)) (hF.out _ _ _ _)) ?_
     exact AllReadyH.nil)
    rw [hG.out]
    exact dagW hG (stb86.out Vb8 hS hs) (hF.out _ _ _ _)
  · obtain rfl:k=9:=by omega
    have n9:gk≠gs:=Nat.ne_of_lt ngk
    replace hs:=hs.rw (by decide)
    have c1:=fun g W h=>thr2 (B 9) (hBB 9) g W h
    have c2:=fun W=>plus_key (rowN 1 (thrN boxN (B 9))) K 10 (rowN_B (box_B (hBB 9)) 1) hK W
    rw [HBn.out,←HZ.out] at c2
    generalize rowN 1 (thrN boxN (B 9))=X2 at *
    clear hz sz HBs HBn
    go_upto_region 10 with (fail)
    have hdrew:Below wr.heap.size wr wr.drew:=(Below.refl _ _).drew
    replace hs:=hs.still hdrew
    replace hKy:=hKy.still hdrew
    refine wp_region_noPanic ?_
    refine wp_region_held_drew (S:=fun w'=>Out gs 0 16 wr.drew w') (by kernel_rfl) (Out.refl _ _ _ _) (fun hS => ?_)
    generalize wr.drew=Vbx at *
    refine tk 3 (pA gk 160) hS (hy:=(yR)) (h := ?_)
    (try simp only [pS])
    refine tk 4 (.agg (ints .u8 16 (fun j=>K (16*10+j))).toArray) hS (hy:=(ldO (key_at hKy 10 (by decide)) n9 42 41 Try.underlying42 (infoS _))) (h := ?_)
    (try simp only [pS])
    refine dag_root (fun G hG0 => ?_)
    have hG:=Hid.mk' hG0
    clear hG0
    obtain ⟨F,hF0⟩:∃ F:Value→Value→Value→Value→Act,∀ v38 v39 v40 v43,F v38 v39 v40 v43={ tmps:=#[.slice xk 16 ck,.slice xb 16 cb,undef,undef,.slice none 0 0,.int .i64 0,pA gk 0,pA gs 0,undef,u9,u10,u11,u12,u13,u14,u15,u16,u17,u18,u19,u20,u21,u22,u23,u24,u25,.slice (some ⟨gk,16,none⟩) 9 10,.int .i64 9,.int .i64 9,.bool false,u30,u31,u32,u33,u34,u35,u36,u37,v38,v39,v40,pA gk 160,.agg (ints .u8 16 (fun j=>K (16*10+j))).toArray,v43,u44],defers:=[] }:=⟨_,fun _ _ _ _=>rfl⟩
    have hF:=Hid.mk' hF0
    clear hF0
    have stbx0:Hid (∀ (cur:World) (g1:Nat),Out gs 0 16 Vbx cur→RW cur gs 0 (ints .u8 16 (Z))→Vbx.heap.size≤g1→G 0 #[true,true,true,true,true,true,true] (F (.agg (ints .u8 16 (B 9)).toArray) (.slice (some ⟨g1,0,none⟩) 2 2) (.agg (ints .u8 16 (X2)).toArray) (.agg (ints .u8 16 (Z)).toArray)) cur):=Hid.mk' (by
     intro cur g1 hS ro G1
     rw [hF.out,hG.out]
     refine wpAnyH_done (by kernel_rfl) ?_ _
     refine NoPanic.normal ?_
     go_wp2
     go_ret2
     exact ⟨gs,rfl,rowAt_of ro,(below_next b hdrew).trans (hS.below wgs (below_next b hdrew).size)⟩)
    have stbx1:Hid (∀ (cur:World) (g1:Nat),Out gs 0 16 Vbx cur→RW cur gs 0 (ints .u8 16 (B 9))→Vbx.heap.size≤g1→G 1 #[true,true,true,true,true,true,false] (F (.agg (ints .u8 16 (B 9)).toArray) (.slice (some ⟨g1,0,none⟩) 2 2) (.agg (ints .u8 16 (X2)).toArray) (.agg (ints .u8 16 (Z)).toArray)) cur):=Hid.mk' (by
     intro cur g1 hS ro G1
     rw [hF.out,hG.out]
     refine wpAnyH_ready (rs:=[6]) (by kernel_rfl) (by simp) ?_
     refine aT qbx6 42 7 43 (ints .u8 16 (Z)) ro (by rw [ints_len,ints_len]) (hS.trans (Out.setCells _ _ (Nat.le_refl _) (by rw [ints_len];exact Nat.le_refl _))) (infoSA _) (oneU 16 _) (fun rr=>dagW hG (stbx0.out _ g1 (hS.trans (Out.setCells _ _ (Nat.le_refl _) (by rw [ints_len];exact Nat.le_refl _))) rr G1) (hF.out _ _ _ _)) ?_
     exact AllReadyH.nil)
    have stbx2:Hid (∀ (cur:World) (g1:Nat),Out gs 0 16 Vbx cur→RW cur gs 0 (ints .u8 16 (B 9))→Vbx.heap.size≤g1→G 2 #[true,true,true,true,true,false,false] (F (.agg (ints .u8 16 (B 9)).toArray) (.slice (some ⟨g1,0,none⟩) 2 2) (.agg (ints .u8 16 (X2)).toArray) u43) cur):=Hid.mk' (by
     intro cur g1 hS ro G1
     rw [hF.out,hG.out]
     clear stbx0
     refine wpAnyH_ready (rs:=[5]) (by kernel_rfl) (by simp) ?_
     refine arC qbx5 (c2 cur) (fun e w1 ⟨he,hb⟩=>⟨_,he,hS.trans (Out.of_below hb ro.lt),dagW hG (stbx1.out w1 g1 (hS.trans (Out.of_below hb ro.lt)) (ro.still hb) G1) (hF.out _ _ _ _)⟩) ?_
     exact AllReadyH.nil)
    have stbx3:Hid (∀ (cur:World) (g1:Nat),Out gs 0 16 Vbx cur→RW cur gs 0 (ints .u8 16 (B 9))→RW cur g1 0 ([fnV 28,fnV 29])→Vbx.heap.size≤g1→G 3 #[true,true,false,true,true,false,false] (F (.agg (ints .u8 16 (B 9)).toArray) (.slice (some ⟨g1,0,none⟩) 2 2) u40 u43) cur):=Hid.mk' (by
     intro cur g1 hS ro r1 G1
     rw [hF.out,hG.out]
     clear stbx0 stbx1
     refine wpAnyH_ready (rs:=[2]) (by kernel_rfl) (by simp) ?_
     refine arC qbx2 (c1 _ cur r1) (fun e w1 ⟨he,hb⟩=>⟨_,he,hS.trans (Out.of_below hb ro.lt),dagW hG (stbx2.out w1 g1 (hS.trans (Out.of_below hb ro.lt)) (ro.still hb) G1) (hF.out _ _ _ _)⟩) ?_
     exact AllReadyH.nil)
    have stbx4:Hid (∀ (cur:World),Out gs 0 16 Vbx cur→RW cur gs 0 (ints .u8 16 (B 9))→G 4 #[true,false,false,true,true,false,false] (F (.agg (ints .u8 16 (B 9)).toArray) u39 u40 u43) cur):=Hid.mk' (by
     intro cur  hS ro
     rw [hF.out,hG.out]
     clear stbx0 stbx1 stbx2
     refine wpAnyH_ready (rs:=[1]) (by kernel_rfl) (by simp) ?_
     refine aG qbx1 (fun g => .slice (some ⟨g,0,none⟩) 2 2) ([fnV 28,fnV 29]) 47 (fun u hb=>hS.trans (Out.of_below hb ro.lt)) (fun w1 g1 lg hb rr=>dagW hG (stbx3.out w1 g1 (hS.trans (Out.of_below hb ro.lt)) (ro.still hb) rr (Nat.le_trans hS.size lg)) (hF.out _ _ _ _)) ?_
     exact AllReadyH.nil)
    have stbx5:Hid (∀ (cur:World) (g1:Nat),Out gs 0 16 Vbx cur→RW cur gs 0 (ints .u8 16 (B 9))→RW cur g1 0 ([fnV 28,fnV 29])→Vbx.heap.size≤g1→G 4 #[false,true,false,true,true,false,false] (F u38 (.slice (some ⟨g1,0,none⟩) 2 2) u40 u43) cur):=Hid.mk' (by
     intro cur g1 hS ro r1 G1
     rw [hF.out,hG.out]
     clear stbx0 stbx1 stbx2 stbx4
     refine wpAnyH_ready (rs:=[0]) (by kernel_rfl) (by simp) ?_
     refine aL qbx0 42 7 ro hS Try.underlying42 (infoS _) (dagW hG (stbx3.out cur g1 hS ro r1 G1) (hF.out _ _ _ _)) ?_
     exact AllReadyH.nil)
    have stbx6:Hid (∀ (cur:World),Out gs 0 16 Vbx cur→RW cur gs 0 (ints .u8 16 (B 9))→G 5 #[false,false,false,true,true,false,false] (F u38 u39 u40 u43) cur):=Hid.mk' (by
     intro cur  hS ro
     rw [hF.out,hG.out]
     clear stbx0 stbx1 stbx2 stbx3
     refine wpAnyH_ready (rs:=[0,1]) (by kernel_rfl) (by simp) ?_
     refine aL qbx0 42 7 ro hS Try.underlying42 (infoS _) (dagW hG (stbx4.out cur  hS ro) (hF.out _ _ _ _)) ?_
     refine aG qbx1 (fun g => .slice (some ⟨g,0,none⟩) 2 2) ([fnV 28,fnV 29]) 47 (fun u hb=>hS.trans (Out.of_below hb ro.lt)) (fun w1 g1 lg hb rr=>dagW hG (stbx5.out w1 g1 (hS.trans (Out.of_below hb ro.lt)) (ro.still hb) rr (Nat.le_trans hS.size lg)) (hF.out _ _ _ _)) ?_
     exact AllReadyH.nil)
    rw [hG.out]
    exact dagW hG (stbx6.out Vbx hS hs) (hF.out _ _ _ _)
end Go.Proofs.Ytplnmmokafomaaa
namespace Go.Proofs.Ytplnmmokafomaaa
open Go.RowKit
def RowS (w:World) (v:Value) (n:Nat) (X:Nat→Nat):Prop:=∃ g cap,v = .slice (some ⟨g,0,none⟩) n cap∧n≤cap∧RowAt .u8 w g 0 n X
theorem RowS.still {w w':World} {v:Value} {n:Nat} {X:Nat→Nat} (h:RowS w v n X) (hb:Below w.heap.size w w'):RowS w' v n X:=by
 obtain ⟨g,cap,rfl,hc,hr⟩:=h
 exact ⟨g,cap,rfl,hc,hr.still hb⟩
theorem RowS.bytes {w:World} {v:Value} {n:Nat} {X:Nat→Nat} (h:RowS w v n X) (hn:0<n):BytesIn w v n X:=by
 obtain ⟨g,cap,rfl,hc,hr⟩:=h
 exact rowB hr hn hc
set_option maxRecDepth 20000 in
set_option maxHeartbeats 4000000 in
theorem inverses_any (w:World) :
 Calls Try.prog 38 #[] w fun e w'=>∃ v,e = .returned v∧RowS w' v 256 invN∧Below w.heap.size w w':=by
 have hpw:=pw_all
 have hp0:pwN 0=1:=by kernel_rfl
 have hinv:=inv_all
 have hun:∀ i,invF (i+1)=upd (invF i) (pwN i) (pwN ((255 - i)%255)):=fun _=>rfl
 have hz0:invF 0=fun _=>0:=rfl
 have ct:=fun i (hi:i<255) W=>rtimes_any (pwN i) 3 (pw_all i hi).1 (by decide) W
 generalize pwN=P at *
 generalize invF=V at *
 go_enter Try.func38,Try.ntmps38
 go_wp2
 go_loopw [1,2,3] (fun o x i wr=>∃ k:Nat,k≤255∧x = .int .u8 (P (k%255))∧i = .int .i64 k∧Own w.heap.size wr o k P∧Below w.heap.size w wr) (fun _ _ i _=>255 - (intOf i).toNat)
 case atStart=>exact ⟨0,Nat.zero_le _,by rw [show 0%255=0 from rfl,hp0];rfl,rfl,Own.nil _ _ _,Below.refl _ _⟩
 case round =>
  obtain ⟨k,hk,rfl,rfl,own,b⟩:=hrel
  by_cases hlt:k<255
  · have c1:=ct k hlt
    obtain ⟨hp,hn⟩:=hpw k hlt
    rw [hn] at c1
    rw [show k%255=k by omega] at *
    have hs:=b.size
    have HP:∀ y:Int,y=(P k:Int)→y=(P k:Int):=fun _ h=>h
    clear hpw hinv hun hz0 ct hn hp0
    go_wp2_with (first
     | (at_builtin;refine wpList_append_next rfl (.tmp 10) (.tmp 12) rfl w.heap.size _ k P _ rfl own rfl rfl (by omega) hs ?_;intro v2 w2 own2 hb2;(have b2:=b.trans hb2);clear own)
     | (go_at_call 41;refine (c1 _).mono ?_;clear c1;rintro e w3 ⟨rfl,hw3⟩;subst hw3))
    go_roundw
    case rel=>exact ⟨k+1,by omega,rfl,by go_num,own2,b2⟩
    case measure=>simp [intOf];omega
  · obtain rfl:k=255:=by omega
    obtain ⟨g,cap,hv,hg,hgl,hcap,hrow⟩:=own.form.resolve_left (fun h=>by omega)
    subst hv
    have hmk:=make_bytes wr 256 256 rfl (by decide)
    have hb1:Below wr.heap.size wr (wr.alloc (.cells (zb 256) 5)):=(Below.refl _ _).alloc (Nat.le_refl _) _
    have hT0:=RowAt.zero wr 256 5
    rw [←hz0] at hT0
    replace hrow:=hrow.still hb1
    replace b:=below_next b hb1
    have hwg:w.heap.size≤wr.heap.size:=Nat.le_trans hg (Nat.le_of_lt hgl)
    generalize wr.alloc (.cells (zb 256) 5)=U at *
    generalize wr.heap.size=G at *
    clear hb1 own ct hp0 hz0
    go_wp2_with (rw [hmk])
    go_loopw [5] (fun i wq=>∃ k:Nat,k≤255∧i = .int .i64 k∧RowAt .u8 wq g 0 255 P∧RowAt .u8 wq G 0 256 (V k)∧Below w.heap.size w wq) (fun i _=>255 - (intOf i).toNat)
    case atStart=>exact ⟨0,Nat.zero_le _,rfl,hrow,hT0,b⟩
    case round =>
     clear hrow hT0 b hmk
     obtain ⟨k,hk,rfl,hrow,hT,b⟩:=hrel
     by_cases hlt:k<255
     · obtain ⟨hp,-⟩:=hpw k hlt
       obtain ⟨r1,-⟩:=hrow k hlt
       obtain ⟨r2,-⟩:=hrow ((255 - k)%255) (by omega)
       obtain ⟨r3,f3⟩:=hT (P k) hp
       rw [Nat.zero_add] at r1 r2 r3 f3
       have hs:=hT.set (i:=P k) hp (v:=(P ((255 - k)%255):Int)) (u:=P ((255 - k)%255)) rfl
       rw [Nat.zero_add,←hun] at hs
       have q1:(-(k:Int)%255).toNat=(255 - k)%255:=by omega
       have q2:(0:Int)≤-(k:Int)%255∧-(k:Int)%255<255:=by omega
       have q3:(P k:Int)<256:=by omega
       have ng:¬G=g:=by omega
       have ng2:¬g=G:=by omega
       have m1:k+1≤255:=by omega
       clear hpw hinv hun
       go_wp2
       go_region
       go_wp2
       go_roundw
       case rel=>exact ⟨k+1,m1,by go_num,(hrow.far (by show G≠g;omega) _).drew,hs.drew,(b.setCell (by show w.heap.size≤G;omega) _).drew⟩
       case measure=>simp [intOf];omega
     · obtain rfl:k=255:=by omega
       have hT':=hT.congr (fun j hj=>(hinv j hj).1)
       clear hpw hinv hun hT
       go_wp2
       go_ret
       exact ⟨_,rfl,⟨G,256,rfl,Nat.le_refl _,hT'⟩,b⟩
end Go.Proofs.Ytplnmmokafomaaa
namespace Go.Proofs.Ytplnmmokafomaaa
open Go.RowKit
theorem boxF_lt (y:Nat) (hy:y<256):∀ n,n≤4→boxF y n<256
 | 0,_=>xor_byte hy (by decide)
 | n+1,h=>by
  show boxF y n ^^^ (y*2 ^ (n+1)%256 ||| y / 2 ^ (8 - (n+1)))<256
  exact xor_byte (boxF_lt y hy n (by omega)) (Nat.or_lt_two_pow (n:=8) (Nat.mod_lt _ (by decide)) (Nat.lt_of_le_of_lt (Nat.div_le_self _ _) hy))
set_option maxRecDepth 20000 in
set_option maxHeartbeats 4000000 in
theorem rboxes_any (w:World) :
 Calls Try.prog 22 #[] w fun e w'=>∃ v,e = .returned v∧RowS w' v 256 boxN∧Below w.heap.size w w':=by
 have ci:=inverses_any w
 have hinv:=fun x hx=>(inv_all x hx).2
 have hbox:=boxF_all
 have hbl:=boxF_lt
 have hb0:∀ y,boxF y 0=y ^^^ 99:=fun _=>rfl
 have hbs:∀ y n,boxF y (n+1)=boxF y n ^^^ (y*2 ^ (n+1)%256 ||| y / 2 ^ (8 - (n+1))):=fun _ _=>rfl
 generalize invN=I at *
 generalize boxN=F at *
 generalize boxF=Y at *
 go_enter Try.func22,Try.ntmps22
 go_wp2_with (go_at_call 38;refine ci.mono ?_;clear ci;rintro e w1 ⟨v1,rfl,⟨g,cap,rfl,hcap,hr1⟩,b1⟩)
 go_loopw [2,3] (fun o i wr=>∃ k:Nat,k≤256∧i = .int .i64 k∧Own w1.heap.size wr o k F∧Below w1.heap.size w1 wr) (fun _ i _=>256 - (intOf i).toNat)
 case atStart=>exact ⟨0,Nat.zero_le _,rfl,Own.nil _ _ _,Below.refl _ _⟩
 case round =>
  obtain ⟨k,hk,rfl,own,b⟩:=hrel
  have hr:=hr1.still b
  by_cases hlt:k<256
  · obtain ⟨rk,-⟩:=hr k hlt
    rw [Nat.zero_add] at rk
    have hy:=hinv k hlt
    have hfin:=hbox k hlt
    have hl:=hbl (I k) hy
    have hs:=hbs (I k)
    have h0:=hb0 (I k)
    have q0:=u8_xor_nat (I k) 99 hy (by decide)
    rw [←h0] at q0
    replace q0:bits .xor .u8 ((I k:Nat):Int) 99=((Y (I k) 0:Nat):Int):=q0
    have hsz:=b.size
    have hrange:(0:Int)≤(k:Int)∧(k:Int)<256:=by omega
    generalize I k=y at *
    obtain ⟨B,hB⟩:∃ B,B=Y y:=⟨_,rfl⟩
    rw [←hB] at hfin hl hs h0 q0
    have HS:=Hid.mk' hs
    have HF:=Hid.mk' hfin
    clear hB hinv hbox hbl hb0 hbs hs h0 hfin
    go_wp2
    go_loopw [5,6] (fun x n wq=>∃ m:Nat,m≤4∧x = .int .u8 (B m)∧n = .int .i64 ((m:Int)+1)∧wq=wr) (fun _ n _=>5 - (intOf n).toNat)
    case atStart=>exact ⟨0,Nat.zero_le _,rfl,rfl,rfl⟩
    case round =>
     clear q0
     obtain ⟨m,hm,rfl,rfl,hwq⟩:=hrel
     subst hwq
     by_cases hlm:m<4
     · have e1:=HS.out m
       have b1:=hl m hm
       have hq1:=u8_or_nat (y*2 ^ (m+1)%256) (y / 2 ^ (8 - (m+1))) (Nat.mod_lt _ (by decide)) (Nat.lt_of_le_of_lt (Nat.div_le_self _ _) hy)
       have hq2:=u8_xor_nat (B m) (y*2 ^ (m+1)%256 ||| y / 2 ^ (8 - (m+1))) b1 (Nat.or_lt_two_pow (n:=8) (Nat.mod_lt _ (by decide)) (Nat.lt_of_le_of_lt (Nat.div_le_self _ _) hy))
       rw [←e1] at hq2
       clear HS e1 own
       rcases (show m=0∨m=1∨m=2∨m=3 by omega) with rfl | rfl | rfl | rfl
       all_goals
        simp only [Nat.zero_add,Nat.reduceAdd,Nat.reduceSub,Nat.reducePow] at hq1 hq2
        rw [←hq1] at hq2
        push_cast at hq2
        clear hq1
        go_wp2
        go_roundw
        case rel=>exact ⟨_,by decide,rfl,rfl,trivial⟩
        case measure=>simp [intOf]
     · obtain rfl:m=4:=by omega
       have eF:=HF.out
       clear HS HF
       go_wp2_with (at_builtin;refine wpList_append_next rfl (.tmp 34) (.tmp 36) rfl w1.heap.size _ k F _ rfl own rfl (by rw [←eF]) (by omega) hsz ?_;intro v2 w2 own2 hb2;(have b2:=b.trans hb2);clear own)
       go_roundw
       case rel=>exact ⟨k+1,by omega,by go_num,own2,b2⟩
       case measure=>simp [intOf];omega
  · obtain rfl:k=256:=by omega
    obtain ⟨g3,cap3,hv,hg,hgl,hcap3,hrow⟩:=own.form.resolve_left (fun h=>by omega)
    subst hv
    clear hbox hbl hb0 hbs own hinv
    go_wp2
    go_ret
    exact ⟨_,rfl,⟨g3,cap3,rfl,hcap3,hrow⟩,below_next b1 b⟩
end Go.Proofs.Ytplnmmokafomaaa
namespace Go.Proofs.Ytplnmmokafomaaa
open Go.RowKit
theorem step_append_one {ops:Array Oper} {o:Oper} {a:Act} {w:World} {K:Act→World→Prop} {Q:Exit→Act→World→Prop} {E:Prop} (hgd:o.guard=none) (s x:Operand)
 (ho:o.op = .call { callee := .builtin .append,args:=#[s,x],argTypes:=#[25,25] }) (hty:o.type=25) (base:Nat)
 (v:Value) (n:Nat) (F:Nat→Nat) (y:Int) (hs:a.eval s=v) (hown:Own base w v n F) (g:Nat) (hg:w.heap.size=g) (hx:a.eval x = .slice (some ⟨g,0,none⟩) 1 1) (hF:y=(F n:Int))
 (hl:n+1≤1000000) (hbase:base≤w.heap.size)
 (h:∀ v' w',Own base w' v' (n+1) F→Below base w w'→K (a.put o.dst v') w') :
 if Region.wanted o (yielded ops a.tmps)=true then Oper.wp Try.prog o a (w.alloc (.cells #[.int .u8 y] 5)) K Q else E:=by
 have hw:Region.wanted o (yielded ops a.tmps)=true:=by simp [Region.wanted,hgd]
 rw [if_pos hw]
 subst hg
 have hz:base≤(w.alloc (.cells #[.int .u8 y] 5)).heap.size:=by simp only [World.size_alloc];omega
 obtain ⟨v',w',hrun,h1,h2⟩:=run_append_bytes (w.alloc (.cells #[.int .u8 y] 5)) base v n F (hown.alloc _) _ 1 1 _ (src_one w y (F n) hF) (fun h=>by cases h) (by omega) hz
 have h3:Own base w' v' (n+1) F:=h1.congr (fun j hj=>by
  by_cases e:j<n
  · rw [cat_left e]
  · obtain rfl:j=n:=by omega
    unfold cat;rw [if_neg e])
 unfold Oper.wp
 simp [execOp,ho,hty,resolve,invoke,builtin,hs,hx,hrun,Result.andThen]
 exact h v' w' h3 (((Below.refl _ _).alloc hbase _).trans h2)
set_option maxRecDepth 20000 in
set_option maxHeartbeats 4000000 in
theorem add_any (v u:Value) (X K:Nat→Nat) (r:Nat) (hr:r≤10) (hX:B16 X) (hK:∀ j,K j<256) (w:World) (hv:BytesIn w v 16 X) (hu:RowS w u 176 K) :
 Calls Try.prog 31 #[v,u,.int .i64 r] w fun e w'=>∃ s,e = .returned s∧RowS w' s 16 (addN K r X)∧Below w.heap.size w w':=by
 obtain ⟨bb,ob,cb,rfl,hbb,hcb,hcell⟩:=hv.resolve_left (fun ⟨_,_,h⟩=>by omega)
 obtain ⟨gk,ck,rfl,hck,hrow⟩:=hu
 have hgk:gk<w.heap.size:=block_lt_of_cell (hrow 0 (by decide)).1
 obtain ⟨Z,hZ⟩:∃ Z,Z=addN K r X:=⟨_,rfl⟩
 have hZe:∀ j,X j ^^^ K (16*r+j)=Z j:=fun j=>by rw [hZ];rfl
 rw [←hZ]
 clear hZ hv
 go_enter Try.func31,Try.ntmps31
 go_wp2
 go_loopw [7,8] (fun o i wr=>∃ k:Nat,k≤16∧i = .int .i64 k∧Own w.heap.size wr o k Z∧Below w.heap.size w wr) (fun _ i _=>16 - (intOf i).toNat)
 case atStart=>exact ⟨0,Nat.zero_le _,rfl,Own.nil _ _ _,Below.refl _ _⟩
 case round =>
  obtain ⟨k,hk,rfl,own,b⟩:=hrel
  by_cases hlt:k<16
  · have r1:wr.cell? ⟨bb,ob+k,none⟩=some (.int .u8 (X k)):=(b.cell (p:=⟨bb,ob+k,none⟩) hbb).trans (hcell k hlt)
    have r2:wr.cell? ⟨gk,16*r+k,none⟩=some (.int .u8 (K (16*r+k))):=(b.cell (p:=⟨gk,16*r+k,none⟩) hgk).trans (by have:=(hrow (16*r+k) (by omega)).1;rwa [Nat.zero_add] at this)
    have q:=u8_xor_nat (X k) (K (16*r+k)) (hX k hlt) (hK _)
    rw [hZe] at q
    have q1:(16*(r:Int)+(k:Int)).toNat=16*r+k:=by omega
    have q2:(0:Int)≤16*(r:Int)+(k:Int)∧16*(r:Int)+(k:Int)<176:=by omega
    have q3:(0:Int)≤(k:Int)∧(k:Int)<16:=by omega
    have e1:IntKind.i64.wrap (16*(r:Int))=16*(r:Int):=by simp only [IntKind.wrap_i64];omega
    have e2:IntKind.i64.wrap (16*(r:Int)+(k:Int))=16*(r:Int)+(k:Int):=by simp only [IntKind.wrap_i64];omega
    have hS:∀ w':World,Below w.heap.size wr w'→∀ b o,b<w.heap.size→w'.cell? ⟨b,o,none⟩=wr.cell? ⟨b,o,none⟩:=fun w' h b o hb=>h.cell (p:=⟨b,o,none⟩) hb
    have hb0:Below w.heap.size wr wr.drew:=(Below.refl _ _).drew
    have own0:Own w.heap.size wr.drew _ k Z:=own.below ((Below.refl _ _).drew)
    have hsz0:w.heap.size≤wr.drew.heap.size:=b.size
    have m1:k+1≤16:=by omega
    clear hcell hrow hX hK hZe own
    generalize K (16*r+k)=y at *
    generalize X k=x at *
    go_wp2
    go_region_held3 (fun w'=>Below w.heap.size wr w') (first | assumption | exact Below.alloc (by assumption) (by assumption) _) (first | (refine step_append_one rfl (.tmp 13) (.tmp 26) rfl rfl w.heap.size _ k Z _ rfl own0 _ rfl rfl rfl (by omega) hsz0 ?_;intro v' w' own1 hbx;have hbn:Below w.heap.size wr w':=hb0.trans hbx))
    clear hS hb0 r1 r2 q q1 q2 q3 e1 e2
    go_wp2
    go_roundw
    case rel=>exact ⟨k+1,m1,by go_num,own1,b.trans hbn⟩
    case measure=>simp [intOf];omega
  · obtain rfl:k=16:=by omega
    obtain ⟨g3,cap3,hv3,hg,hgl,hcap3,hrow3⟩:=own.form.resolve_left (fun h=>by omega)
    subst hv3
    clear hX hK hZe own hcell hrow
    go_wp2
    go_ret
    exact ⟨_,rfl,⟨g3,cap3,rfl,hcap3,hrow3⟩,b⟩
set_option maxRecDepth 20000 in
set_option maxHeartbeats 4000000 in
theorem rthrough_any (v u:Value) (X S:Nat→Nat) (hX:B16 X) (w:World) (hv:RowS w v 16 X) (hu:RowS w u 256 S) :
 Calls Try.prog 33 #[v,u] w fun e w'=>∃ s,e = .returned s∧RowS w' s 16 (thrN S X)∧Below w.heap.size w w':=by
 obtain ⟨bb,cb,rfl,hcb,hrow1⟩:=hv
 obtain ⟨gk,ck,rfl,hck,hrow⟩:=hu
 obtain ⟨Z,hZ⟩:∃ Z,Z=thrN S X:=⟨_,rfl⟩
 have hZe:∀ j,S (X j)=Z j:=fun j=>by rw [hZ];rfl
 rw [←hZ]
 clear hZ
 go_enter Try.func33,Try.ntmps33
 go_wp2
 go_loopw [5,6] (fun o i wr=>∃ k:Nat,k≤16∧i = .int .i64 k∧Own w.heap.size wr o k Z∧Below w.heap.size w wr) (fun _ i _=>16 - (intOf i).toNat)
 case atStart=>exact ⟨0,Nat.zero_le _,rfl,Own.nil _ _ _,Below.refl _ _⟩
 case round =>
  obtain ⟨k,hk,rfl,own,b⟩:=hrel
  by_cases hlt:k<16
  · obtain ⟨r1,-⟩:=(hrow1.still b) k hlt
    have hxk:=hX k hlt
    obtain ⟨r2,-⟩:=(hrow.still b) (X k) hxk
    rw [Nat.zero_add] at r1 r2
    rw [hZe] at r2
    have q3:(0:Int)≤(k:Int)∧(k:Int)<16:=by omega
    have q4:(0:Int)≤(X k:Int)∧(X k:Int)<256:=by omega
    have hs:=b.size
    have m1:k+1≤16:=by omega
    clear hrow1 hrow hX hZe
    go_wp2_with (at_builtin;refine wpList_append_next rfl (.tmp 11) (.tmp 19) rfl w.heap.size _ k Z _ rfl own rfl rfl (by omega) hs ?_;intro v2 w2 own2 hb2;(have b2:=b.trans hb2);clear own)
    go_roundw
    case rel=>exact ⟨k+1,m1,by go_num,own2,b2⟩
    case measure=>simp [intOf];omega
  · obtain rfl:k=16:=by omega
    obtain ⟨g3,cap3,hv3,hg,hgl,hcap3,hrow3⟩:=own.form.resolve_left (fun h=>by omega)
    subst hv3
    clear hX hZe own hrow hrow1
    go_wp2
    go_ret
    exact ⟨_,rfl,⟨g3,cap3,rfl,hcap3,hrow3⟩,b⟩
set_option maxRecDepth 20000 in
set_option maxHeartbeats 4000000 in
theorem rows1_any (v:Value) (X:Nat→Nat) (w:World) (hv:RowS w v 16 X) :
 Calls Try.prog 32 #[v,.int .i64 1] w fun e w'=>∃ s,e = .returned s∧RowS w' s 16 (rowN 1 X)∧Below w.heap.size w w':=by
 obtain ⟨bb,cb,rfl,hcb,hrow⟩:=hv
 have hbb:bb<w.heap.size:=block_lt_of_cell (hrow 0 (by decide)).1
 have hmk:=make_bytes w 16 16 rfl (by decide)
 have hT0:=RowAt.zero w 16 5
 have hb1:Below w.heap.size w (w.alloc (.cells (zb 16) 5)):=(Below.refl _ _).alloc (Nat.le_refl _) _
 obtain ⟨Z,hZ⟩:∃ Z,Z=rowN 1 X:=⟨_,rfl⟩
 have hZe:∀ c r,c<4→r<4→X (4*((c+r)%4)+r)=Z (4*c+r):=fun c r hc hr=>by
  rw [hZ]
  unfold rowN
  rw [show (4*c+r) / 4=c by omega,show (4*c+r)%4=r by omega,Nat.mul_one]
 rw [←hZ]
 replace hrow:=hrow.still hb1
 generalize w.alloc (.cells (zb 16) 5)=U at *
 clear hZ
 go_enter Try.func32,Try.ntmps32
 go_wp2_with (rw [hmk])
 go_loopw [6] (fun i wr=>∃ c:Nat,c≤4∧i = .int .i64 c∧RowAt .u8 wr w.heap.size 0 16 (pr Z (fun _=>0) (4*c))∧RowAt .u8 wr bb 0 16 X∧Below w.heap.size w wr) (fun i _=>4 - (intOf i).toNat)
 case atStart=>exact ⟨0,Nat.zero_le _,rfl,hT0,hrow,hb1⟩
 case round =>
  clear hT0 hrow hb1 hmk
  obtain ⟨c,hc,rfl,hT,hrow,b⟩:=hrel
  by_cases hlt:c<4
  · have hci:(c:Int)<4:=by omega
    go_wp2
    go_loopw [7] (fun i wq=>∃ r:Nat,r≤4∧i = .int .i64 r∧RowAt .u8 wq w.heap.size 0 16 (pr Z (fun _=>0) (4*c+r))∧RowAt .u8 wq bb 0 16 X∧Below w.heap.size w wq) (fun i _=>4 - (intOf i).toNat)
    case atStart=>exact ⟨0,Nat.zero_le _,rfl,hT,hrow,b⟩
    case round =>
     clear hT hrow b
     obtain ⟨r,hr,rfl,hT,hrow,b⟩:=hrel
     by_cases hlr:r<4
     · obtain ⟨r1,-⟩:=hrow (4*((c+r)%4)+r) (by omega)
       rw [Nat.zero_add,hZe c r hlt hlr] at r1
       obtain ⟨r2,f2⟩:=hT (4*c+r) (by omega)
       rw [Nat.zero_add] at r2 f2
       have hs:=hT.next (k:=4*c+r) (by omega) (v:=(Z (4*c+r):Int)) rfl
       have p1:(4*(c:Int)+(r:Int)).toNat=4*c+r:=by omega
       have p2:(0:Int)≤4*(c:Int)+(r:Int)∧4*(c:Int)+(r:Int)<16:=by omega
       have p0:4*(((c:Int)+(r:Int))%4)+(r:Int)=((4*((c+r)%4)+r:Nat):Int):=by push_cast;simp
       have p3:(4*(((c:Int)+(r:Int))%4)+(r:Int)).toNat=4*((c+r)%4)+r:=by rw [p0,Int.toNat_natCast]
       have p4:(0:Int)≤4*(((c:Int)+(r:Int))%4)+(r:Int)∧4*(((c:Int)+(r:Int))%4)+(r:Int)<16:=by omega
       have m1:r+1≤4:=by omega
       clear hZe p0
       go_wp2
       go_roundw
       case rel=>exact ⟨r+1,m1,by go_num,hs,hrow.far (by show w.heap.size≠bb;omega) _,b.setCell (Nat.le_refl _) _⟩
       case measure=>simp [intOf];omega
     · obtain rfl:r=4:=by omega
       have m1:c+1≤4:=by omega
       clear hZe
       go_wp2
       go_roundw
       case rel=>exact ⟨c+1,m1,by go_num,hT,hrow,b⟩
       case measure=>simp [intOf];omega
  · obtain rfl:c=4:=by omega
    have hT':=hT.congr (fun j hj=>pr_full Z _ hj)
    clear hZe hT
    go_wp2
    go_ret
    exact ⟨_,rfl,⟨w.heap.size,16,rfl,Nat.le_refl _,hT'⟩,b⟩
set_option maxRecDepth 20000 in
set_option maxHeartbeats 4000000 in
theorem rows3_any (v:Value) (X:Nat→Nat) (w:World) (hv:RowS w v 16 X) :
 Calls Try.prog 32 #[v,.int .i64 3] w fun e w'=>∃ s,e = .returned s∧RowS w' s 16 (rowN 3 X)∧Below w.heap.size w w':=by
 obtain ⟨bb,cb,rfl,hcb,hrow⟩:=hv
 have hbb:bb<w.heap.size:=block_lt_of_cell (hrow 0 (by decide)).1
 have hmk:=make_bytes w 16 16 rfl (by decide)
 have hT0:=RowAt.zero w 16 5
 have hb1:Below w.heap.size w (w.alloc (.cells (zb 16) 5)):=(Below.refl _ _).alloc (Nat.le_refl _) _
 obtain ⟨Z,hZ⟩:∃ Z,Z=rowN 3 X:=⟨_,rfl⟩
 have hZe:∀ c r,c<4→r<4→X (4*((c+r*3)%4)+r)=Z (4*c+r):=fun c r hc hr=>by
  rw [hZ]
  unfold rowN
  rw [show (4*c+r) / 4=c by omega,show (4*c+r)%4=r by omega]
 rw [←hZ]
 replace hrow:=hrow.still hb1
 generalize w.alloc (.cells (zb 16) 5)=U at *
 clear hZ
 go_enter Try.func32,Try.ntmps32
 go_wp2_with (rw [hmk])
 go_loopw [6] (fun i wr=>∃ c:Nat,c≤4∧i = .int .i64 c∧RowAt .u8 wr w.heap.size 0 16 (pr Z (fun _=>0) (4*c))∧RowAt .u8 wr bb 0 16 X∧Below w.heap.size w wr) (fun i _=>4 - (intOf i).toNat)
 case atStart=>exact ⟨0,Nat.zero_le _,rfl,hT0,hrow,hb1⟩
 case round =>
  clear hT0 hrow hb1 hmk
  obtain ⟨c,hc,rfl,hT,hrow,b⟩:=hrel
  by_cases hlt:c<4
  · have hci:(c:Int)<4:=by omega
    go_wp2
    go_loopw [7] (fun i wq=>∃ r:Nat,r≤4∧i = .int .i64 r∧RowAt .u8 wq w.heap.size 0 16 (pr Z (fun _=>0) (4*c+r))∧RowAt .u8 wq bb 0 16 X∧Below w.heap.size w wq) (fun i _=>4 - (intOf i).toNat)
    case atStart=>exact ⟨0,Nat.zero_le _,rfl,hT,hrow,b⟩
    case round =>
     clear hT hrow b
     obtain ⟨r,hr,rfl,hT,hrow,b⟩:=hrel
     by_cases hlr:r<4
     · obtain ⟨r1,-⟩:=hrow (4*((c+r*3)%4)+r) (by omega)
       rw [Nat.zero_add,hZe c r hlt hlr] at r1
       obtain ⟨r2,f2⟩:=hT (4*c+r) (by omega)
       rw [Nat.zero_add] at r2 f2
       have hs:=hT.next (k:=4*c+r) (by omega) (v:=(Z (4*c+r):Int)) rfl
       have p1:(4*(c:Int)+(r:Int)).toNat=4*c+r:=by omega
       have p2:(0:Int)≤4*(c:Int)+(r:Int)∧4*(c:Int)+(r:Int)<16:=by omega
       have p0:4*(((c:Int)+(r:Int)*3)%4)+(r:Int)=((4*((c+r*3)%4)+r:Nat):Int):=by push_cast;simp
       have p3:(4*(((c:Int)+(r:Int)*3)%4)+(r:Int)).toNat=4*((c+r*3)%4)+r:=by rw [p0,Int.toNat_natCast]
       have p4:(0:Int)≤4*(((c:Int)+(r:Int)*3)%4)+(r:Int)∧4*(((c:Int)+(r:Int)*3)%4)+(r:Int)<16:=by omega
       have m1:r+1≤4:=by omega
       clear hZe p0
       go_wp2
       go_roundw
       case rel=>exact ⟨r+1,m1,by go_num,hs,hrow.far (by show w.heap.size≠bb;omega) _,b.setCell (Nat.le_refl _) _⟩
       case measure=>simp [intOf];omega
     · obtain rfl:r=4:=by omega
       have m1:c+1≤4:=by omega
       clear hZe
       go_wp2
       go_roundw
       case rel=>exact ⟨c+1,m1,by go_num,hT,hrow,b⟩
       case measure=>simp [intOf];omega
  · obtain rfl:c=4:=by omega
    have hT':=hT.congr (fun j hj=>pr_full Z _ hj)
    clear hZe hT
    go_wp2
    go_ret
    exact ⟨_,rfl,⟨w.heap.size,16,rfl,Nat.le_refl _,hT'⟩,b⟩
end Go.Proofs.Ytplnmmokafomaaa
namespace Go.Proofs.Ytplnmmokafomaaa
open Go.RowKit
def kyW (w:Nat→Nat) (n k:Nat):Nat:=if n%4=0 then (if k=0 then boxN (w (4*n - 4+1)) ^^^ rcN (n / 4 - 1) else boxN (w (4*n - 4+(k+1)%4))) else w (4*n - 4+k)
theorem kyT_W (w:Nat→Nat) (n k:Nat):kyT w n k=w (4*n - 16+k) ^^^ kyW w n k:=rfl
theorem kyN_next (key:Nat→Nat) (i k:Nat) (h4:4≤i) (h44:i<44) (hk:k<4):kyN key (4*i - 16+k) ^^^ kyW (kyN key) i k=kyN key (4*i+k):=by rw [kyN_word key i k h4 h44 hk,kyT_W]
theorem kyW_lt {w:Nat→Nat} (hw:∀ j,w j<256) (n k:Nat) (hn:n<44) (hn4:4≤n):kyW w n k<256:=by
 unfold kyW
 split
 · split
   · exact xor_byte (box_all _ (hw _)).2.2.1 (rc_lt _ (by omega))
   · exact (box_all _ (hw _)).2.2.1
 · exact hw _
theorem row_of_own {base:Nat} {w:World} {g cap n:Nat} {X:Nat→Nat} (h:Own base w (.slice (some ⟨g,0,none⟩) n cap) n X):RowAt .u8 w g 0 n X:=by
 rcases h.form with ⟨h,_⟩ | ⟨g',cap',e,_,_,_,hr⟩
 · cases h
 · cases e;exact hr
theorem run_append_both (w:World) (base g cap n:Nat) (F:Nat→Nat) (y:Int) (hF:y=(F n:Int)) (hown:Own base w (.slice (some ⟨g,0,none⟩) n cap) n F) (hl:n+1≤1000000) (hbase:base≤w.heap.size) :
 ∃ g' cap' w',(Builtin.append_ #[25,25] 25 #[.slice (some ⟨g,0,none⟩) n cap,.slice (some ⟨w.heap.size,0,none⟩) 1 1]).run Try.prog (w.alloc (.cells #[.int .u8 y] 5)) = .ok (.slice (some ⟨g',0,none⟩) (n+1) cap') w' ∧
  Own base w' (.slice (some ⟨g',0,none⟩) (n+1) cap') (n+1) F∧Below base w w'∧(g'=g∨w.heap.size≤g')∧(∀ b o,b<w.heap.size→b≠g→w'.cell? ⟨b,o,none⟩=w.cell? ⟨b,o,none⟩∧w'.frozen? ⟨b,o,none⟩=w.frozen? ⟨b,o,none⟩)∧∀ q,q<n→w'.cell? ⟨g,q,none⟩=w.cell? ⟨g,q,none⟩:=by
 subst hF
 obtain ⟨i0,hi,hz0,hz1,hz2⟩:=info_parts Try.info5
 have hbA:Below w.heap.size w (w.alloc (.cells #[.int .u8 (F n:Int)] 5)):=(Below.refl _ _).alloc (Nat.le_refl _) _
 have hz:base≤(w.alloc (.cells #[.int .u8 (F n:Int)] 5)).heap.size:=Nat.le_trans hbase hbA.size
 have ownA:=hown.below hbA
 have hgl:g<w.heap.size:=by
  rcases hown.form with ⟨h,_⟩ | ⟨g',cap',e,_,h,_,_⟩
  · cases h
  · cases e;exact h
 have hnew:=one_new w (.int .u8 (F n:Int)) 5
 obtain ⟨g',cap',w',hr,h1,h2,h3⟩:=run_append_keep (P:=Try.prog) _ 25 25 base 5 i0 (.int .u8 0) 1 Try.underlying25 hi hz0 hz1 hz2 rfl g cap n _ ownA ⟨w.heap.size,0,none⟩ 1 (.int .u8 (F n:Int)) hnew rfl (by unfold maxLen;omega) (by omega) hz
 obtain ⟨v2,w2,hr2,_,_,_,h5⟩:=run_append_own_at (P:=Try.prog) _ base 25 25 5 i0 (.int .u8 0) 1 1 Try.underlying25 hi hz0 hz1 hz2 rfl (by decide) _ n _ ownA ⟨w.heap.size,0,none⟩ 1 1 [.int .u8 (F n:Int)] rfl hnew (one_cell _ _) (by unfold maxLen;omega) (by omega) hz
 rw [hr] at hr2
 cases hr2
 refine ⟨g',cap',w',hr,?_,?_,?_,?_,?_⟩
 · unfold Own;rw [←ints_snoc];exact h1
 · exact (hbA.mono hbase).trans (Own.grown (v := .slice (some ⟨g,0,none⟩) n cap) (Below.refl _ _) h2 ownA (Nat.le_refl _) hz)
 · rcases h5 with h5 | h5
   · exact .inl (by simpa [Value.ownBlock] using h5)
   · refine .inr ?_
     have:g'=(w.alloc (.cells #[.int .u8 (F n:Int)] 5)).heap.size:=by simpa [Value.ownBlock] using h5
     rw [this];exact hbA.size
 · intro b o hb hne
   have hk:=h2.block b (by have:=hbA.size;omega) (by simp;omega)
   exact ⟨(World.cell?_of_block hk).trans (hbA.cell (p:=⟨b,o,none⟩) hb),(World.frozen?_of_block hk).trans (hbA.frozen (p:=⟨b,o,none⟩) hb)⟩
 · intro q hq
   exact (h3 q hq).trans (hbA.cell (p:=⟨g,q,none⟩) hgl)
theorem step_append_both {ops:Array Oper} {o:Oper} {a:Act} {w:World} {K:Act→World→Prop} {Q:Exit→Act→World→Prop} {E:Prop} (hgd:o.guard=none) (s x:Operand)
 (ho:o.op = .call { callee := .builtin .append,args:=#[s,x],argTypes:=#[25,25] }) (hty:o.type=25) (base g cap n:Nat) (F:Nat→Nat) (y:Int) (hs:a.eval s = .slice (some ⟨g,0,none⟩) n cap) (hown:Own base w (.slice (some ⟨g,0,none⟩) n cap) n F) (h:Nat) (hh:w.heap.size=h) (hx:a.eval x = .slice (some ⟨h,0,none⟩) 1 1) (hF:y=(F n:Int))
 (hl:n+1≤1000000) (hbase:base≤w.heap.size)
 (H:∀ g' cap' w',Own base w' (.slice (some ⟨g',0,none⟩) (n+1) cap') (n+1) F→Below base w w'→(g'=g∨w.heap.size≤g')→(∀ b o,b<w.heap.size→b≠g→w'.cell? ⟨b,o,none⟩=w.cell? ⟨b,o,none⟩∧w'.frozen? ⟨b,o,none⟩=w.frozen? ⟨b,o,none⟩)→(∀ q,q<n→w'.cell? ⟨g,q,none⟩=w.cell? ⟨g,q,none⟩)→K (a.put o.dst (.slice (some ⟨g',0,none⟩) (n+1) cap')) w') :
 if Region.wanted o (yielded ops a.tmps)=true then Oper.wp Try.prog o a (w.alloc (.cells #[.int .u8 y] 5)) K Q else E:=by
 have hw:Region.wanted o (yielded ops a.tmps)=true:=by simp [Region.wanted,hgd]
 rw [if_pos hw]
 subst hh
 obtain ⟨g',cap',w',hrun,h1,h2,h3,h4,h5⟩:=run_append_both w base g cap n F y hF hown hl hbase
 unfold Oper.wp
 simp [execOp,ho,hty,resolve,invoke,builtin,hs,hx,hrun,Result.andThen]
 exact H g' cap' w' h1 h2 h3 h4 h5
theorem sl44 (q:Nat) (h4:4≤q) (hq:q<44):IntKind.i64.wrap (4*(q:Int))=4*(q:Int)∧IntKind.i64.wrap (4*(q:Int) - 4)=4*(q:Int) - 4∧(4*(q:Int) - 4).toNat=4*q - 4∧(4*(q:Int)).toNat=4*q∧((0:Int)≤4*(q:Int) - 4∧4*(q:Int) - 4≤4*(q:Int))∧4*q - (4*q - 4)=4:=by
 refine ⟨?_,?_,by omega,by omega,by omega,by omega⟩
 all_goals (simp only [IntKind.wrap_i64];omega)
theorem ix44 (q m:Nat) (h4:4≤q) (hq:q<44) (hm:m<4):IntKind.i64.wrap (4*(q:Int))=4*(q:Int)∧IntKind.i64.wrap (4*(q:Int) - 16)=4*(q:Int) - 16∧IntKind.i64.wrap (4*(q:Int) - 16+(m:Int))=4*(q:Int) - 16+(m:Int)∧(4*(q:Int) - 16+(m:Int)).toNat=4*q - 16+m∧(0:Int)≤4*(q:Int) - 16+(m:Int)∧4*(q:Int) - 16+(m:Int)<4*(q:Int)+(m:Int):=by
 refine ⟨?_,?_,?_,by omega,by omega,by omega⟩
 all_goals (simp only [IntKind.wrap_i64];omega)
set_option maxRecDepth 20000 in
set_option maxHeartbeats 8000000 in
theorem rkeys_any (v u:Value) (ks:Nat→Nat) (hks:∀ j,ks j<256) (w:World) (hv:BytesIn w v 16 ks) (hu:RowS w u 256 boxN) :
 Calls Try.prog 25 #[v,u] w fun e w'=>∃ s,e = .returned s∧RowS w' s 176 (kyN ks)∧Below w.heap.size w w':=by
 obtain ⟨xk,ck,rfl,hxn,-,hsrc⟩:=hv.src
 obtain ⟨gb,cb,rfl,hcb,hbx⟩:=hu
 have hgb:gb<w.heap.size:=block_lt_of_cell (hbx 0 (by decide)).1
 have src0:=hsrc _ ((Below.refl _ _).alloc (Nat.le_refl _) (.cells #[] 5))
 have hKl:=kyN_lt hks
 have hK0:=kyN_lo ks
 have hKn:=kyN_next ks
 have hWl:=fun n k h1 h2=>kyW_lt hKl n k h1 h2
 have hWd:∀ n k,kyW (kyN ks) n k=if n%4=0 then (if k=0 then boxN (kyN ks (4*n - 4+1)) ^^^ rcN (n / 4 - 1) else boxN (kyN ks (4*n - 4+(k+1)%4))) else kyN ks (4*n - 4+k):=fun _ _=>rfl
 have hr0:rcN 0=1:=rfl
 have hrs:∀ n,gm (rcN n) 2=rcN (n+1):=fun _=>rfl
 have hrl:=rc_lt
 have ct:=fun n (hn:n<10) W=>rtimes_any (rcN n) 2 (rc_lt n hn) (by decide) W
 have hbl:∀ x,x<256→boxN x<256:=fun x hx=>(box_all x hx).2.2.1
 generalize kyW (kyN ks)=Wd at *
 generalize kyN ks=Y at *
 generalize rcN=R at *
 generalize boxN=F at *
 clear hv hsrc
 go_enter Try.func25,Try.ntmps25
 go_wp2_with (at_builtin;refine wpList_append_empty rfl (.tmp 10) (.tmp 11) rfl w.heap.size ks _ rfl rfl xk 16 ck rfl src0 hxn (by decide) (Nat.le_refl _) ?_;intro v1 w1 own1 hb1;clear src0)
 go_loopw [5,6,7] (fun o c i wr=>∃ q:Nat,4≤q∧q≤44∧c = .int .u8 (R ((q - 1) / 4))∧i = .int .i64 q∧Own w.heap.size wr o (4*q) Y∧Below w.heap.size w wr) (fun _ _ i _=>44 - (intOf i).toNat)
 case atStart=>exact ⟨4,Nat.le_refl _,by decide,by rw [show (4 - 1) / 4=0 from rfl,hr0];rfl,rfl,own1.congr (fun j hj=>(hK0 j hj).symm),hb1⟩
 case round =>
  clear own1 hb1 hK0 hr0
  obtain ⟨q,h4,h44,rfl,rfl,own,b⟩:=hrel
  by_cases hlt:q<44
  · obtain ⟨g,cap,hv,hg,hgl,hcap,hrow⟩:=own.form.resolve_left (fun h=>by omega)
    subst hv
    have hrow':=hrow
    obtain ⟨lo1,lo2,lo3,lo4,lo5,lo6⟩:=sl44 q h4 hlt
    have cap':(4*q:Int)≤cap:=by omega
    have srcT:Src (wr.alloc (.cells #[] 5)) (some ⟨g,4*q - 4,none⟩) 4 (fun j=>Y (4*q - 4+j)) := .inr ⟨g,4*q - 4,rfl,fun j hj=>by
     have:=((hrow.alloc hgl (.cells #[] 5)) (4*q - 4+j) (by omega)).1
     rwa [Nat.zero_add] at this⟩
    go_upto_region 7 with (at_builtin;refine wpList_append_empty rfl (.tmp 17) (.tmp 24) rfl wr.heap.size (fun j=>Y (4*q - 4+j)) _ rfl rfl _ 4 (cap - (4*q - 4)) rfl srcT (fun h=>by cases h) (by decide) (Nat.le_refl _) ?_;intro v2 w2 own2 hb2;clear srcT)
    obtain ⟨gt,cpt,hv2,hgt,hgtl,hct,hrT⟩:=own2.form.resolve_left (fun h=>by omega)
    subst hv2
    have ownW:=own.below hb2
    have bW:=b.trans (hb2.mono b.size)
    have ngW:g≠gt:=by omega
    clear own own2 hrow hrow' lo1 lo2 lo3 lo4 lo5 lo6 cap'
    by_cases hq4:q%4=0
    · have q4i:(q:Int)%4=0:=by omega
      have eR:(q - 1) / 4=q / 4 - 1:=by omega
      have hc9:q / 4 - 1<10:=by omega
      have eR2:q / 4 - 1+1=q / 4:=by omega
      have hw0:=hWd q 0
      have hw1:=hWd q 1
      have hw2:=hWd q 2
      have hw3:=hWd q 3
      rw [if_pos hq4] at hw0 hw1 hw2 hw3
      rw [if_pos rfl] at hw0
      rw [if_neg (by decide)] at hw1 hw2 hw3
      simp only [Nat.reduceAdd,Nat.reduceMod,Nat.add_zero] at hw1 hw2 hw3
      obtain ⟨t0,-⟩:=hrT 0 (by decide)
      obtain ⟨t1,-⟩:=hrT 1 (by decide)
      obtain ⟨t2,-⟩:=hrT 2 (by decide)
      obtain ⟨t3,-⟩:=hrT 3 (by decide)
      simp only [Nat.zero_add,Nat.add_zero] at t0 t1 t2 t3
      have hbx2:=(hbx.still (bW:Below w.heap.size w w2))
      have y0:=hKl (4*q - 4)
      have y1:=hKl (4*q - 4+1)
      have y2:=hKl (4*q - 4+2)
      have y3:=hKl (4*q - 4+3)
      obtain ⟨s0,-⟩:=hbx2 _ y0
      obtain ⟨s1,-⟩:=hbx2 _ y1
      obtain ⟨s2,-⟩:=hbx2 _ y2
      obtain ⟨s3,-⟩:=hbx2 _ y3
      rw [Nat.zero_add] at s0 s1 s2 s3
      have hx:=u8_xor_nat (F (Y (4*q - 4+1))) (R (q / 4 - 1)) (hbl _ y1) (hrl _ hc9)
      rw [←hw0] at hx
      rw [←hw1] at s2
      rw [←hw2] at s3
      rw [←hw3] at s0
      have ct1:=ct (q / 4 - 1) hc9
      rw [hrs,eR2] at ct1
      rw [eR]
      generalize F (Y (4*q - 4+1))=f1 at *
      generalize Y (4*q - 4)=z0 at *
      generalize Y (4*q - 4+1)=z1 at *
      generalize Y (4*q - 4+2)=z2 at *
      generalize Y (4*q - 4+3)=z3 at *
      have i0:(0:Int)≤(z0:Int)∧(z0:Int)<256:=by omega
      have i1:(0:Int)≤(z1:Int)∧(z1:Int)<256:=by omega
      have i2:(0:Int)≤(z2:Int)∧(z2:Int)<256:=by omega
      have i3:(0:Int)≤(z3:Int)∧(z3:Int)<256:=by omega
      clear hw0 hw1 hw2 hw3 hbx2 hWd ct
      go_upto_region 8 with (fail)
      go_cut [8,78] from 13 (fun t z wc=>∃ gn,z=undef∧t = .slice (some ⟨gn,0,none⟩) 4 4∧g≠gn∧RowAt .u8 wc gn 0 4 (Wd q)∧Own w.heap.size wc (.slice (some ⟨g,0,none⟩) (4*q) cap) (4*q) Y∧Below w.heap.size w wc)
      case first =>
       have bU:Below w2.heap.size w2 (w2.alloc (.cells #[.int .u8 (Wd q 0),.int .u8 (Wd q 1),.int .u8 (Wd q 2),.int .u8 (Wd q 3)] 5)).drew:=((Below.refl _ _).alloc (Nat.le_refl _) _).drew
       have rowT:RowAt .u8 (w2.alloc (.cells #[.int .u8 (Wd q 0),.int .u8 (Wd q 1),.int .u8 (Wd q 2),.int .u8 (Wd q 3)] 5)).drew w2.heap.size 0 4 (Wd q):=(RowAt.fresh (fun j hj=>by
        rcases (show j=0∨j=1∨j=2∨j=3 by omega) with rfl | rfl | rfl | rfl <;> rfl)).drew
       have ownT:=ownW.below bU
       have bT:=below_next bW bU
       have ngt:g≠w2.heap.size:=by omega
       have hS:∀ w':World,Below w2.heap.size w2 w'→∀ b o,b<w2.heap.size→w'.cell? ⟨b,o,none⟩=w2.cell? ⟨b,o,none⟩:=fun w' h b o hb=>h.cell (p:=⟨b,o,none⟩) hb
       have hb0:Below w2.heap.size w2 w2.drew:=(Below.refl _ _).drew
       have hbA:∀ ob,Below w2.heap.size w2 (w2.drew.alloc ob):=fun ob=>hb0.alloc (Nat.le_refl _) ob
       have gbl:gb<w2.heap.size:=block_lt_of_cell s0
       clear hKl hKn hWl hrs hrl ct1 hbl hks hxn hcb ngW hrT hbx hb2 hg hgl
       go_region_held3 (fun w'=>Below w2.heap.size w2 w') (first | assumption | exact hbA _) (fail)
       go_wp2
       go_meet
       case rel=>exact ⟨w2.heap.size,rfl,rfl,ngt,rowT,ownT,bT⟩
      case rest =>
      obtain ⟨gn,rfl,rfl,ngn,rowT,ownT,bT⟩:=hcut
      clear ownW bW ngW t0 t1 t2 t3 s0 s1 s2 s3 i0 i1 i2 i3 y0 y1 y2 y3 hx hrT q4i eR eR2 hc9 hb2 hbx hgtl hgt hgl hg
      go_upto_region 10 with (go_at_call 41;refine (ct1 _).mono ?_;clear ct1;rintro e w5 ⟨rfl,hw5⟩;subst hw5)
      go_wp2
      go_loopw [5,9] (fun o i wq=>∃ (m g cap:Nat),m≤4∧i = .int .i64 m∧o = .slice (some ⟨g,0,none⟩) (4*q+m) cap∧g≠gn∧Own w.heap.size wq (.slice (some ⟨g,0,none⟩) (4*q+m) cap) (4*q+m) Y∧RowAt .u8 wq gn 0 4 (Wd q)∧Below w.heap.size w wq) (fun _ i _=>4 - (intOf i).toNat)
      case atStart=>exact ⟨0,g,cap,Nat.zero_le _,rfl,rfl,ngn,ownT,rowT,bT⟩
      case round =>
       clear ngn ownT rowT bT
       obtain ⟨m,g,cap,hm,rfl,rfl,ngn,own,rowT,b⟩:=hrel
       have hrow:=row_of_own own
       by_cases hlm:m<4
       · obtain ⟨r1,-⟩:=hrow (4*q - 16+m) (by omega)
         obtain ⟨r2,-⟩:=rowT m hlm
         rw [Nat.zero_add] at r1 r2
         have hx:=u8_xor_nat (Y (4*q - 16+m)) (Wd q m) (hKl _) (hWl q m hlt h4)
         rw [hKn q m h4 hlt hlm] at hx
         have ngl:gn<wr.heap.size:=block_lt_of_cell r2
         have gl:g<wr.heap.size:=block_lt_of_cell r1
         obtain ⟨e1,e2,e3,e4,e5⟩:=ix44 q m h4 hlt hlm
         have e6:(0:Int)≤(m:Int)∧(m:Int)<4:=by omega
         have own0:Own w.heap.size wr.drew (.slice (some ⟨g,0,none⟩) (4*q+m) cap) (4*q+m) Y:=own.below ((Below.refl _ _).drew)
         have hsz0:w.heap.size≤wr.drew.heap.size:=b.size
         have m1:m+1≤4:=by omega
         obtain ⟨y1,hy1⟩:∃ y,y=Y (4*q - 16+m):=⟨_,rfl⟩
         obtain ⟨y2,hy2⟩:∃ y,y=Wd q m:=⟨_,rfl⟩
         rw [←hy1] at r1 hx
         rw [←hy2] at r2 hx
         have hS0:wr.drew.cell? ⟨g,4*q - 16+m,none⟩=some (.int .u8 y1)∧wr.drew.cell? ⟨gn,m,none⟩=some (.int .u8 y2):=⟨r1,r2⟩
         have hSA:∀ ob:Obj,(wr.drew.alloc ob).cell? ⟨g,4*q - 16+m,none⟩=some (.int .u8 y1)∧(wr.drew.alloc ob).cell? ⟨gn,m,none⟩=some (.int .u8 y2):=fun ob=>by
          have hb:Below wr.drew.heap.size wr.drew (wr.drew.alloc ob):=(Below.refl _ _).alloc (Nat.le_refl _) _
          exact ⟨(hb.cell (p:=⟨g,4*q - 16+m,none⟩) gl).trans r1,(hb.cell (p:=⟨gn,m,none⟩) ngl).trans r2⟩
         clear hy1 hy2 hKl hKn hWl hrs hrl hbl hks hrow own r1 r2 hcb hxn
         have hS1:∀ w':World,(w'.cell? ⟨g,4*q - 16+m,none⟩=some (.int .u8 y1)∧w'.cell? ⟨gn,m,none⟩=some (.int .u8 y2))→w'.cell? ⟨g,4*q - 16+m,none⟩=some (.int .u8 y1):=fun _ h=>h.1
         have hS2:∀ w':World,(w'.cell? ⟨g,4*q - 16+m,none⟩=some (.int .u8 y1)∧w'.cell? ⟨gn,m,none⟩=some (.int .u8 y2))→w'.cell? ⟨gn,m,none⟩=some (.int .u8 y2):=fun _ h=>h.2
         go_wp2
         go_region_held3 (fun w'=>w'.cell? ⟨g,4*q - 16+m,none⟩=some (.int .u8 y1)∧w'.cell? ⟨gn,m,none⟩=some (.int .u8 y2)) (first | assumption | exact hSA _) (first | (refine step_append_both rfl (.tmp 62) (.tmp 76) rfl rfl w.heap.size g cap (4*q+m) Y _ rfl own0 _ rfl rfl rfl (by omega) hsz0 ?_;intro g' cap' w' own1 hbx2 hg' hfar hkeep;(have hSw:w'.cell? ⟨g,4*q - 16+m,none⟩=some (.int .u8 y1)∧w'.cell? ⟨gn,m,none⟩=some (.int .u8 y2):=⟨(hkeep _ (by omega)).trans hS0.1,(hfar _ _ ngl ngn.symm).1.trans hS0.2⟩)))
         have hrT1:RowAt .u8 w' gn 0 4 (Wd q):=fun j hj=>by
          obtain ⟨a1,a2⟩:=rowT j hj
          obtain ⟨c1,c2⟩:=hfar gn (0+j) ngl ngn.symm
          exact ⟨c1.trans a1,c2.trans a2⟩
         have ng':g'≠gn:=by
          rcases hg' with rfl | h
          · exact ngn
          · exact fun e=>Nat.lt_irrefl _ (Nat.lt_of_lt_of_le (e ▸ ngl) h)
         have b':Below w.heap.size w w':=(b.drew).trans hbx2
         clear hS0 hSA hS1 hS2 hx e1 e2 e3 e4 e5 e6 hfar hkeep hg' hbx2 own0 rowT
         go_wp2
         go_roundw
         case rel=>exact ⟨m+1,g',cap',m1,by go_num,rfl,ng',own1,hrT1,b'⟩
         case measure=>simp [intOf];omega
       · obtain rfl:m=4:=by omega
         have m1:q+1≤44:=by omega
         have m2:4≤q+1:=by omega
         clear hKl hKn hWl hrs hrl hbl hks hxn hrow rowT
         go_wp2
         go_roundw
         case rel=>exact ⟨q+1,m2,m1,rfl,by go_num,own.start (by omega),b⟩
         case measure=>simp [intOf];omega
    · have q4i:((q:Int)%4 == 0)=false:=beq_false_of_ne (by omega)
      have eR:(q - 1) / 4=q / 4:=by omega
      have rowT:RowAt .u8 w2 gt 0 4 (Wd q):=hrT.congr (fun j _=>by rw [hWd,if_neg hq4])
      have ownT:=ownW
      have bT:=bW
      have ngt:=ngW
      rw [eR]
      clear ownW bW ngW hrT eR hb2 hbx hgtl hgt hgl hg
      go_upto_region 10 with (fail)
      go_wp2
      go_loopw [5,9] (fun o i wq=>∃ (m g cap:Nat),m≤4∧i = .int .i64 m∧o = .slice (some ⟨g,0,none⟩) (4*q+m) cap∧g≠gt∧Own w.heap.size wq (.slice (some ⟨g,0,none⟩) (4*q+m) cap) (4*q+m) Y∧RowAt .u8 wq gt 0 4 (Wd q)∧Below w.heap.size w wq) (fun _ i _=>4 - (intOf i).toNat)
      case atStart=>exact ⟨0,g,cap,Nat.zero_le _,rfl,rfl,ngt,ownT,rowT,bT⟩
      case round =>
       clear ngt ownT rowT bT
       obtain ⟨m,g,cap,hm,rfl,rfl,ngt,own,rowT,b⟩:=hrel
       have hrow:=row_of_own own
       by_cases hlm:m<4
       · obtain ⟨r1,-⟩:=hrow (4*q - 16+m) (by omega)
         obtain ⟨r2,-⟩:=rowT m hlm
         rw [Nat.zero_add] at r1 r2
         have hx:=u8_xor_nat (Y (4*q - 16+m)) (Wd q m) (hKl _) (hWl q m hlt h4)
         rw [hKn q m h4 hlt hlm] at hx
         have ngl:gt<wr.heap.size:=block_lt_of_cell r2
         have gl:g<wr.heap.size:=block_lt_of_cell r1
         obtain ⟨e1,e2,e3,e4,e5⟩:=ix44 q m h4 hlt hlm
         have e6:(0:Int)≤(m:Int)∧(m:Int)<4:=by omega
         have own0:Own w.heap.size wr.drew (.slice (some ⟨g,0,none⟩) (4*q+m) cap) (4*q+m) Y:=own.below ((Below.refl _ _).drew)
         have hsz0:w.heap.size≤wr.drew.heap.size:=b.size
         have m1:m+1≤4:=by omega
         obtain ⟨y1,hy1⟩:∃ y,y=Y (4*q - 16+m):=⟨_,rfl⟩
         obtain ⟨y2,hy2⟩:∃ y,y=Wd q m:=⟨_,rfl⟩
         rw [←hy1] at r1 hx
         rw [←hy2] at r2 hx
         have hS0:wr.drew.cell? ⟨g,4*q - 16+m,none⟩=some (.int .u8 y1)∧wr.drew.cell? ⟨gt,m,none⟩=some (.int .u8 y2):=⟨r1,r2⟩
         have hSA:∀ ob:Obj,(wr.drew.alloc ob).cell? ⟨g,4*q - 16+m,none⟩=some (.int .u8 y1)∧(wr.drew.alloc ob).cell? ⟨gt,m,none⟩=some (.int .u8 y2):=fun ob=>by
          have hb:Below wr.drew.heap.size wr.drew (wr.drew.alloc ob):=(Below.refl _ _).alloc (Nat.le_refl _) _
          exact ⟨(hb.cell (p:=⟨g,4*q - 16+m,none⟩) gl).trans r1,(hb.cell (p:=⟨gt,m,none⟩) ngl).trans r2⟩
         clear hy1 hy2 hKl hKn hWl hWd hrs hrl ct hbl hks hrow own r1 r2 hcb hxn
         have hS1:∀ w':World,(w'.cell? ⟨g,4*q - 16+m,none⟩=some (.int .u8 y1)∧w'.cell? ⟨gt,m,none⟩=some (.int .u8 y2))→w'.cell? ⟨g,4*q - 16+m,none⟩=some (.int .u8 y1):=fun _ h=>h.1
         have hS2:∀ w':World,(w'.cell? ⟨g,4*q - 16+m,none⟩=some (.int .u8 y1)∧w'.cell? ⟨gt,m,none⟩=some (.int .u8 y2))→w'.cell? ⟨gt,m,none⟩=some (.int .u8 y2):=fun _ h=>h.2
         go_wp2
         go_region_held3 (fun w'=>w'.cell? ⟨g,4*q - 16+m,none⟩=some (.int .u8 y1)∧w'.cell? ⟨gt,m,none⟩=some (.int .u8 y2)) (first | assumption | exact hSA _) (first | (refine step_append_both rfl (.tmp 62) (.tmp 76) rfl rfl w.heap.size g cap (4*q+m) Y _ rfl own0 _ rfl rfl rfl (by omega) hsz0 ?_;intro g' cap' w' own1 hbx2 hg' hfar hkeep;(have hSw:w'.cell? ⟨g,4*q - 16+m,none⟩=some (.int .u8 y1)∧w'.cell? ⟨gt,m,none⟩=some (.int .u8 y2):=⟨(hkeep _ (by omega)).trans hS0.1,(hfar _ _ ngl ngt.symm).1.trans hS0.2⟩)))
         have hrT1:RowAt .u8 w' gt 0 4 (Wd q):=fun j hj=>by
          obtain ⟨a1,a2⟩:=rowT j hj
          obtain ⟨c1,c2⟩:=hfar gt (0+j) ngl ngt.symm
          exact ⟨c1.trans a1,c2.trans a2⟩
         have ng':g'≠gt:=by
          rcases hg' with rfl | h
          · exact ngt
          · exact fun e=>Nat.lt_irrefl _ (Nat.lt_of_lt_of_le (e ▸ ngl) h)
         have b':Below w.heap.size w w':=(b.drew).trans hbx2
         clear hS0 hSA hS1 hS2 hx e1 e2 e3 e4 e5 e6 hfar hkeep hg' hbx2 own0 rowT
         go_wp2
         go_roundw
         case rel=>exact ⟨m+1,g',cap',m1,by go_num,rfl,ng',own1,hrT1,b'⟩
         case measure=>simp [intOf];omega
       · obtain rfl:m=4:=by omega
         have m1:q+1≤44:=by omega
         have m2:4≤q+1:=by omega
         clear hKl hKn hWl hWd hrs hrl ct hbl hks hxn hrow rowT
         go_wp2
         go_roundw
         case rel=>exact ⟨q+1,m2,m1,rfl,by go_num,own.start (by omega),b⟩
         case measure=>simp [intOf];omega
  · obtain rfl:q=44:=by omega
    obtain ⟨g,cap,hv,hg,hgl,hcap,hrow⟩:=(own.start (n:=176) rfl).form.resolve_left (fun h=>by omega)
    subst hv
    clear hKl hKn hWl hWd hrs hrl ct hbl hks hbx own hxn
    go_wp2
    go_ret
    exact ⟨_,rfl,⟨g,cap,rfl,hcap,hrow⟩,b⟩
set_option maxHeartbeats 1000000 in
theorem rKeys_bad (v:Value) (n:Nat) (bs:Nat→Nat) (w:World) (hv:BytesIn w v n bs) (hn:n≠16) :
 Calls Try.prog 13 #[v] w fun e w'=>e = .returned (.tuple #[.slice none 0 0,.int .i64 1])∧w'=w:=by
 obtain ⟨xo,cx,rfl,-,-,-⟩:=hv.src
 clear hv
 have hn':¬(n:Int)=16:=by omega
 go_enter Try.func13,Try.ntmps13
 go_wp2
 go_ret2
 exact ⟨rfl,rfl⟩
set_option maxHeartbeats 1000000 in
theorem rKeys_good (v:Value) (bs:Nat→Nat) (hbs:∀ j,bs j<256) (w:World) (hv:BytesIn w v 16 bs) :
 Calls Try.prog 13 #[v] w fun e w'=>∃ s,e = .returned (.tuple #[s,.int .i64 0])∧RowS w' s 176 (kyN bs)∧Below w.heap.size w w':=by
 have cb:=rboxes_any w
 have ck:=fun u W h hb=>rkeys_any v u bs hbs W (hv.keep hb) h
 obtain ⟨xo,cx,rfl,-,-,-⟩:=hv.src
 clear hv
 generalize kyN bs=Y at *
 go_enter Try.func13,Try.ntmps13
 go_wp2_with (first
  | (go_at_call 22;refine cb.mono ?_;clear cb;rintro e w1 ⟨v1,rfl,r1,b1⟩;(have ck1:=ck v1 w1 r1 b1);clear ck)
  | (go_at_call 25;refine ck1.mono ?_;clear ck1;rintro e w2 ⟨v2,rfl,r2,b2⟩))
 go_ret2
 exact ⟨v2,rfl,r2,below_next b1 b2⟩
end Go.Proofs.Ytplnmmokafomaaa
