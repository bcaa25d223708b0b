/- What the proof stands on: A8Blc, A8RI, A8RB. -/
import Derived.Test.YtibdhadbflfdpaaGreatDoorA8Op3M
namespace Go.Proofs.YtibdhadbflfdpaaGreatDoor
open Go.RowKit
abbrev qb46:Oper:=oS (Op.store 286 (oT 7) (oT 25)) "aes.go:27" #[jD 5,jD 4,jC 4,jP 0,jP 1,jP 2,jP 3,jP 4,jP 5]
abbrev qb45:Oper:=oN 7 (Op.alloc 286) 0 "aes.go:27" #[]
abbrev qb44:Oper:=oN 25 (cF1 278 #[oT 22,oT 24] #[286,286]) 286 "aes.go:27" #[jD 1,jD 3,jC 1]
abbrev qb41:Oper:=oN 22 (cF1 277 #[oT 21] #[22]) 286 "aes.go:27" #[jD 0]
abbrev qb85:Oper:=oS (Op.store 286 (oT 7) (oT 36)) "aes.go:29" #[jD 4,jC 4,jP 0,jP 1,jP 2,jP 3,jP 4]
abbrev qb84:Oper:=oN 36 (cF1 278 #[oT 34,oT 35] #[286,286]) 286 "aes.go:29" #[jD 2,jD 3,jC 2]
abbrev qb82:Oper:=oN 34 (cF1 279 #[oT 32,oT 33] #[286,299]) 286 "aes.go:29" #[jD 0,jD 1]
abbrev qb81:Oper:=oN 33 (Op.buildSlice 299 3 #[(0,Operand.func 280),(1,Operand.func 281),(2,Operand.func 282)]) 299 "aes.go:29" #[]
abbrev qb80:Oper:=oN 32 (Op.load 286 (oT 7)) 286 "aes.go:29" #[]
abbrev qbx6:Oper:=oS (Op.store 286 (oT 7) (oT 43)) "aes.go:31" #[jD 5,jC 5,jP 0,jP 1,jP 2,jP 3,jP 4,jP 5]
abbrev qbx5:Oper:=oN 43 (cF1 278 #[oT 40,oT 42] #[286,286]) 286 "aes.go:31" #[jD 2,jD 4,jC 2]
abbrev qbx2:Oper:=oN 40 (cF1 279 #[oT 38,oT 39] #[286,299]) 286 "aes.go:31" #[jD 0,jD 1]
abbrev qbx1:Oper:=oN 39 (Op.buildSlice 299 2 #[(0,Operand.func 280),(1,Operand.func 281)]) 299 "aes.go:31" #[]
abbrev qbx0:Oper:=oN 38 (Op.load 286 (oT 7)) 286 "aes.go:31" #[]
theorem RowAt.still {K:IntKind} {w w':World} {g o n:Nat} {X:Nat→Nat} (h:RowAt K w g o n X) (hb:Below w.heap.size w w'):RowAt K w' g o n X:=fun j hj=>⟨(hb.cell (p:=⟨g,o+j,none⟩) (block_lt_of_cell (h j hj).1)).trans (h j hj).1,(hb.frozen (p:=⟨g,o+j,none⟩) (block_lt_of_cell (h j hj).1)).trans (h j hj).2⟩
set_option maxRecDepth 20000 in
set_option maxHeartbeats 8000000 in
theorem block_good (v u:Value) (ks bs:Nat→Nat) (hks:∀ j,ks j<256) (hbB:B16 bs) (w:World) (hv:BytesIn w v 16 ks) (hu:BytesIn w u 16 bs) :
 Calls Tryz.prog 260 #[v,u] w fun e w'=>∃ g,e = .returned (.tuple #[.slice (some ⟨g,0,none⟩) 16 16,.int .i64 0])∧RowAt .u8 w' g 0 16 (blkN (kyN ks) bs)∧Below w.heap.size w w':=by
 have hz:=zeroK
 have cs:=squareOf_16 v ks w hv
 have cr:=roundKeys_any ks hks
 have hK:=kyN_lt hks
 obtain ⟨xk,ck,rfl,-,-,-⟩:=hv.src
 obtain ⟨xb,cb,rfl,-,-,-⟩:=hu.src
 unfold kyV sqV at cr
 obtain ⟨K,hKe⟩:∃ K,K=kyN ks:=⟨_,rfl⟩
 rw [←hKe] at cr hK ⊢
 have hj2:=infoKA K
 have hjo:=oneU 176 K
 have hst:∀ W:World,(W.alloc (.cells (zb 176) 287)).there W.heap.size 0 (ints .u8 176 K).toArray.size∧RowAt .u8 ((W.alloc (.cells (zb 176) 287)).setCells W.heap.size 0 (ints .u8 176 K)) W.heap.size 0 176 K∧Below W.heap.size W ((W.alloc (.cells (zb 176) 287)).setCells W.heap.size 0 (ints .u8 176 K)):=fun W=>by
  have h:=RowAt.zero W 176 287
  exact ⟨by rw [ints_size];exact h.there,h.stored,below_setCells (Nat.le_refl _) _ _ _ ((Below.refl _ _).alloc (Nat.le_refl _) _)⟩
 have Hst:=Hid.mk' hst
 obtain ⟨LK,hLK⟩:∃ LK,LK=ints .u8 176 K:=⟨_,rfl⟩
 rw [←hLK] at cr hj2 hjo Hst
 clear hKe hLK hst hv hks
 obtain ⟨Z,hZe⟩:∃ Z,Z=blkN K bs:=⟨_,rfl⟩
 rw [←hZe]
 have HZ:=Hid.mk' hZe
 clear hZe
 go_enter Tryz.func260,Tryz.ntmps260
 go_upto_region 4 with (first
  | (go_at_call 277;refine cs.mono ?_;clear cs;rintro e w1 ⟨rfl,hb1⟩;(have cr1:=cr w1);clear cr)
  | (go_at_call 276;refine cr1.mono ?_;clear cr1;rintro e w2 ⟨rfl,hb2⟩;(obtain ⟨hth,hKy,hb3⟩:=Hst.out w2);(have b:=below_next (below_next hb1 hb2) hb3);clear hb1 hb2)
  | (with_reducible (refine id (?_:wpList _ _ _ _ _ _));refine wpList_store_mid rfl 287 _ _ rfl w2.heap.size 0 LK.toArray rfl rfl hth hj2 hjo ?_))
 dsimp only [Act.put]
 have hgk:w2.heap.size<((w2.alloc (.cells (zb 176) 287)).setCells w2.heap.size 0 LK).heap.size:=block_lt_of_cell (hKy 0 (by decide)).1
 clear hth hb3 Hst hj2 hjo hz
 generalize (w2.alloc (.cells (zb 176) 287)).setCells w2.heap.size 0 LK=U at *
 generalize w2.heap.size=gk at *
 go_cut [7] from 10 (fun s7 wc=>∃ gs,s7 = .pointer (some ⟨gs,0,none⟩)∧RowAt .u8 wc gs 0 16 (addN K 0 bs)∧U.heap.size≤gs∧RowAt .u8 wc gk 0 176 K∧Below w.heap.size w wc)
 case first =>
  have hdrew:Below U.heap.size U U.drew:=(Below.refl _ _).drew
  replace hKy:=hKy.still hdrew
  refine wp_region_noPanic ?_
  refine wp_region_held_drew (S:=fun w'=>Below U.drew.heap.size U.drew w') (by kernel_rfl) (Below.refl _ _) (fun hS => ?_)
  generalize U.drew=Vb4 at *
  refine tk 0 (.slice xb 16 cb) hS (hy:=(yR)) (h := ?_)
  (try simp only [pS])
  refine tk 2 (pA gk 0) hS (hy:=(yR)) (h := ?_)
  (try simp only [pS])
  refine tk 3 (.agg (ints .u8 16 (fun j=>K (16*0+j))).toArray) hS (hy:=(ldH (key_at hKy 0 (by decide)) 286 23 Tryz.underlying286 (infoS _))) (h := ?_)
  (try simp only [pS])
  refine dag_root (fun G hG0 => ?_)
  have hG:=Hid.mk' hG0
  clear hG0
  obtain ⟨F,hF0⟩:∃ F:Value→Value→Value→Act,∀ v7 v22 v25,F v7 v22 v25={ tmps:=#[.slice xk 16 ck,.slice xb 16 cb,undef,undef,.slice none 0 0,.int .i64 0,pA gk 0,v7,undef,undef,.slice xk 16 ck,.int .i64 16,.bool false,.bool false,.slice xb 16 cb,.int .i64 16,.bool false,.bool false,.slice xk 16 ck,.agg (ints .u8 16 (ks)).toArray,.agg LK.toArray,.slice xb 16 cb,v22,pA gk 0,.agg (ints .u8 16 (fun j=>K (16*0+j))).toArray,v25,undef,undef,undef,undef,undef,undef,undef,undef,undef,undef,undef,undef,undef,undef,undef,undef,undef,undef,undef],defers:=[] }:=⟨_,fun _ _ _=>rfl⟩
  have hF:=Hid.mk' hF0
  clear hF0
  have stb40:Hid (∀ (cur:World) (g5:Nat),Below Vb4.heap.size Vb4 cur→RW cur g5 0 (ints .u8 16 (addN K 0 bs))→Vb4.heap.size≤g5→G 0 #[true,true,true,true,true,true,true] (F (pA g5 0) (.agg (ints .u8 16 (bs)).toArray) (.agg (ints .u8 16 (addN K 0 bs)).toArray)) cur):=Hid.mk' (by
   intro cur g5 hS r5 G5
   rw [hF.out,hG.out]
   refine wpAnyH_done (by kernel_rfl) ?_ _
   refine NoPanic.normal ?_
   go_wp2
   go_meet
   case rel=>exact ⟨g5,rfl,rowAt_of r5,Nat.le_trans hdrew.size G5,hKy.still hS,below_next (below_next b hdrew) hS⟩)
  have stb41:Hid (∀ (cur:World) (g5:Nat),Below Vb4.heap.size Vb4 cur→RW cur g5 0 (ints .u8 16 (fun _=>0))→Vb4.heap.size≤g5→G 1 #[true,true,true,true,true,true,false] (F (pA g5 0) (.agg (ints .u8 16 (bs)).toArray) (.agg (ints .u8 16 (addN K 0 bs)).toArray)) cur):=Hid.mk' (by
   intro cur g5 hS r5 G5
   rw [hF.out,hG.out]
   refine wpAnyH_ready (rs:=[6]) (by kernel_rfl) (by simp) ?_
   refine aT qb46 286 7 25 (ints .u8 16 (addN K 0 bs)) r5 (by rw [ints_len,ints_len]) (below_setCells G5 _ _ _ hS) (infoSA _) (oneU 16 _) (fun rr=>dagW hG (stb40.out _ g5 (below_setCells G5 _ _ _ hS) rr G5) (hF.out _ _ _)) ?_
   exact AllReadyH.nil)
  have stb42:Hid (∀ (cur:World),Below Vb4.heap.size Vb4 cur→G 2 #[true,true,true,true,true,false,false] (F undef (.agg (ints .u8 16 (bs)).toArray) (.agg (ints .u8 16 (addN K 0 bs)).toArray)) cur):=Hid.mk' (by
   intro cur  hS 
   rw [hF.out,hG.out]
   clear stb40
   refine wpAnyH_ready (rs:=[5]) (by kernel_rfl) (by simp) ?_
   refine aG qb45 (fun g=>pA g 0) (ints .u8 16 (fun _=>0)) 286 (fun u hb=>below_next hS hb) (fun w1 g5 lg hb rr=>dagW hG (stb41.out w1 g5 (below_next hS hb) rr (Nat.le_trans hS.size lg)) (hF.out _ _ _)) ?_
   exact AllReadyH.nil)
  have stb43:Hid (∀ (cur:World) (g5:Nat),Below Vb4.heap.size Vb4 cur→RW cur g5 0 (ints .u8 16 (fun _=>0))→Vb4.heap.size≤g5→G 2 #[true,true,true,true,false,true,false] (F (pA g5 0) (.agg (ints .u8 16 (bs)).toArray) undef) cur):=Hid.mk' (by
   intro cur g5 hS r5 G5
   rw [hF.out,hG.out]
   clear stb40 stb42
   refine wpAnyH_ready (rs:=[4]) (by kernel_rfl) (by simp) ?_
   refine arC qb44 (plus_key bs K 0 hbB hK cur) (fun e w1 ⟨he,hb⟩=>⟨_,he,below_next hS hb,dagW hG (stb41.out w1 g5 (below_next hS hb) (r5.still hb) G5) (hF.out _ _ _)⟩) ?_
   exact AllReadyH.nil)
  have stb44:Hid (∀ (cur:World),Below Vb4.heap.size Vb4 cur→G 3 #[true,true,true,true,false,false,false] (F undef (.agg (ints .u8 16 (bs)).toArray) undef) cur):=Hid.mk' (by
   intro cur  hS 
   rw [hF.out,hG.out]
   clear stb40 stb41
   refine wpAnyH_ready (rs:=[4,5]) (by kernel_rfl) (by simp) ?_
   refine arC qb44 (plus_key bs K 0 hbB hK cur) (fun e w1 ⟨he,hb⟩=>⟨_,he,below_next hS hb,dagW hG (stb42.out w1  (below_next hS hb) ) (hF.out _ _ _)⟩) ?_
   refine aG qb45 (fun g=>pA g 0) (ints .u8 16 (fun _=>0)) 286 (fun u hb=>below_next hS hb) (fun w1 g5 lg hb rr=>dagW hG (stb43.out w1 g5 (below_next hS hb) rr (Nat.le_trans hS.size lg)) (hF.out _ _ _)) ?_
   exact AllReadyH.nil)
  have stb45:Hid (∀ (cur:World) (g5:Nat),Below Vb4.heap.size Vb4 cur→RW cur g5 0 (ints .u8 16 (fun _=>0))→Vb4.heap.size≤g5→G 3 #[true,false,true,true,false,true,false] (F (pA g5 0) undef undef) cur):=Hid.mk' (by
   intro cur g5 hS r5 G5
   rw [hF.out,hG.out]
   clear stb40 stb41 stb42 stb44
   refine wpAnyH_ready (rs:=[1]) (by kernel_rfl) (by simp) ?_
   refine arC qb41 (squareOf_16 _ bs cur (hu.keep (below_next (below_next b hdrew) hS))) (fun e w1 ⟨he,hb⟩=>⟨_,he,below_next hS hb,dagW hG (stb43.out w1 g5 (below_next hS hb) (r5.still hb) G5) (hF.out _ _ _)⟩) ?_
   exact AllReadyH.nil)
  have stb46:Hid (∀ (cur:World),Below Vb4.heap.size Vb4 cur→G 4 #[true,false,true,true,false,false,false] (F undef undef undef) cur):=Hid.mk' (by
   intro cur  hS 
   rw [hF.out,hG.out]
   clear stb40 stb41 stb42 stb43
   refine wpAnyH_ready (rs:=[1,5]) (by kernel_rfl) (by simp) ?_
   refine arC qb41 (squareOf_16 _ bs cur (hu.keep (below_next (below_next b hdrew) hS))) (fun e w1 ⟨he,hb⟩=>⟨_,he,below_next hS hb,dagW hG (stb44.out w1  (below_next hS hb) ) (hF.out _ _ _)⟩) ?_
   refine aG qb45 (fun g=>pA g 0) (ints .u8 16 (fun _=>0)) 286 (fun u hb=>below_next hS hb) (fun w1 g5 lg hb rr=>dagW hG (stb45.out w1 g5 (below_next hS hb) rr (Nat.le_trans hS.size lg)) (hF.out _ _ _)) ?_
   exact AllReadyH.nil)
  rw [hG.out]
  exact dagW hG (stb46.out Vb4 hS ) (hF.out _ _ _)
 case rest =>
 obtain ⟨gs,rfl,hs0,hgs,hKy0,b0⟩:=hcut
 have ngk:gk<gs:=Nat.lt_of_lt_of_le hgk hgs
 have wgs:w.heap.size≤gs:=Nat.le_trans b.size hgs
 clear hKy b hu hgk hgs
 obtain ⟨B,hBe⟩:∃ B,B=blkS K bs:=⟨_,rfl⟩
 have hBB:∀ r,B16 (B r):=fun r=>by rw [hBe];exact blkS_B hbB hK r
 have hB0:addN K 0 bs=B 0:=by rw [hBe];rfl
 have hBs:∀ r,addN K (r+1) (colN mT (rowN 1 (thrN boxN (B r))))=B (r+1):=fun r=>by rw [hBe];rfl
 have hBn:addN K 10 (rowN 1 (thrN boxN (B 9)))=blkN K bs:=by rw [hBe];rfl
 rw [hB0] at hs0
 have hz:=zeroS
 have sz0:=block_lt_of_cell (hs0 0 (by decide)).1
 have HBs:=Hid.mk' hBs
 have HBn:=Hid.mk' hBn
 clear hBe hB0 hBs hBn
 go_wp2
 go_loopw [28] (fun i wr=>∃ k:Nat,k≤9∧i = .int .i64 k∧RowAt .u8 wr gs 0 16 (B k)∧RowAt .u8 wr gk 0 176 K∧Below w.heap.size w wr) (fun i _=>9 - (intOf i).toNat)
 case atStart=>exact ⟨0,Nat.zero_le _,rfl,hs0,hKy0,b0⟩
 case round =>
  clear hs0 hKy0 b0 sz0
  obtain ⟨k,hk,rfl,hs,hKy,b⟩:=hrel
  have sz:=block_lt_of_cell (hs 0 (by decide)).1
  by_cases hlt:k<9
  · have hPr:=(key_at hKy (k+1) (by omega)).range
    rw [show 16*(k+1)=16+k*16 by omega] at hPr
    have q1:(0:Int)≤(k:Int)∧(k:Int)<9:=by omega
    have hi1:=infoS (fun j=>K (16+k*16+j))
    have hj2:=infoSA (fun j=>K (16+k*16+j))
    have hjo:=oneU 16 (fun j=>K (16+k*16+j))
    have hT:=RowAt.zero wr 16 286
    have hth:(wr.alloc (.cells (zb 16) 286)).there wr.heap.size 0 (ints .u8 16 (fun j=>K (16+k*16+j))).toArray.size:=by rw [ints_size];exact hT.there
    have hL9:=(hT.stored (L:=fun j=>K (16+k*16+j))).rw (by decide)
    have hb2:Below wr.heap.size wr ((wr.alloc (.cells (zb 16) 286)).setCells wr.heap.size 0 (ints .u8 16 (fun j=>K (16+k*16+j)))):=below_setCells (Nat.le_refl _) _ _ _ ((Below.refl _ _).alloc (Nat.le_refl _) _)
    replace hs:=(hs.still hb2).rw (by decide)
    replace hKy:=hKy.still hb2
    replace b:=below_next b hb2
    have c1:=fun g W h=>thr3 (B k) (hBB k) g W h
    have c2:=fun W=>plus_key (colN mT (rowN 1 (thrN boxN (B k)))) K (k+1) (colT_B (rowN_B (box_B (hBB k)) 1)) hK W
    rw [HBs.out k,show 16*(k+1)=16+k*16 by omega] at c2
    generalize colN mT (rowN 1 (thrN boxN (B k)))=X2 at *
    generalize hLL:ints .u8 16 (fun j=>K (16+k*16+j))=LL at *
    go_upto_region 8 with (first
     | (refine wpList_load_mid rfl 286 _ rfl gk (16+k*16) rfl LL _ hPr Tryz.underlying286 rfl hi1 ?_)
     | (with_reducible (refine id (?_:wpList _ _ _ _ _ _));refine wpList_store_mid rfl 286 _ _ rfl wr.heap.size 0 LL.toArray rfl rfl hth hj2 hjo ?_))
    dsimp only [Act.put]
    have n9:wr.heap.size≠gs:=fun h=>Nat.lt_irrefl _ (h ▸ sz)
    clear hT hth hb2 hPr hj2 hjo hLL hz sz HBs HBn
    generalize (wr.alloc (.cells (zb 16) 286)).setCells wr.heap.size 0 LL=U8 at *
    generalize wr.heap.size=g9 at *
    have hdrew:Below U8.heap.size U8 U8.drew:=(Below.refl _ _).drew
    replace hs:=hs.still hdrew
    replace hKy:=hKy.still hdrew
    replace hL9:=hL9.still hdrew
    refine wp_region_noPanic ?_
    refine wp_region_held_drew (S:=fun w'=>Out gs 0 16 U8.drew w') (by kernel_rfl) (Out.refl _ _ _ _) (fun hS => ?_)
    generalize U8.drew=Vb8 at *
    refine tk 3 (.agg LL.toArray) hS (hy:=(ldO hL9 n9 286 9 Tryz.underlying286 hi1)) (h := ?_)
    (try simp only [pS])
    refine dag_root (fun G hG0 => ?_)
    have hG:=Hid.mk' hG0
    clear hG0
    obtain ⟨F,hF0⟩:∃ F:Value→Value→Value→Value→Act,∀ v32 v33 v34 v36,F v32 v33 v34 v36={ tmps:=#[.slice xk 16 ck,.slice xb 16 cb,undef,undef,.slice none 0 0,.int .i64 0,pA gk 0,pA gs 0,undef,pA g9 0,u10,u11,u12,u13,u14,u15,u16,u17,u18,u19,u20,u21,u22,u23,u24,u25,.slice (some ⟨gk,16,none⟩) 9 10,.int .i64 9,.int .i64 k,.bool true,pA gk (16+k*16),.agg LL.toArray,v32,v33,v34,.agg LL.toArray,v36,u37,u38,u39,u40,u41,u42,u43,u44],defers:=[] }:=⟨_,fun _ _ _ _=>rfl⟩
    have hF:=Hid.mk' hF0
    clear hF0
    have stb80:Hid (∀ (cur:World) (g1:Nat),Out gs 0 16 Vb8 cur→RW cur gs 0 (ints .u8 16 (B (k+1)))→Vb8.heap.size≤g1→G 0 #[true,true,true,true,true,true] (F (.agg (ints .u8 16 (B k)).toArray) (.slice (some ⟨g1,0,none⟩) 3 3) (.agg (ints .u8 16 (X2)).toArray) (.agg (ints .u8 16 (B (k+1))).toArray)) cur):=Hid.mk' (by
     intro cur g1 hS ro G1
     rw [hF.out,hG.out]
     refine wpAnyH_done (by kernel_rfl) ?_ _
     refine NoPanic.normal ?_
     go_wp2
     go_roundw
     case rel=>exact ⟨k+1,by omega,by go_num,rowAt_of ro,hS.row hKy (Nat.ne_of_lt ngk),(below_next b hdrew).trans (hS.below wgs (below_next b hdrew).size)⟩
     case measure=>simp [intOf];omega)
    have stb81:Hid (∀ (cur:World) (g1:Nat),Out gs 0 16 Vb8 cur→RW cur gs 0 (ints .u8 16 (B k))→Vb8.heap.size≤g1→G 1 #[true,true,true,true,true,false] (F (.agg (ints .u8 16 (B k)).toArray) (.slice (some ⟨g1,0,none⟩) 3 3) (.agg (ints .u8 16 (X2)).toArray) (.agg (ints .u8 16 (B (k+1))).toArray)) cur):=Hid.mk' (by
     intro cur g1 hS ro G1
     rw [hF.out,hG.out]
     refine wpAnyH_ready (rs:=[5]) (by kernel_rfl) (by simp) ?_
     refine aT qb85 286 7 36 (ints .u8 16 (B (k+1))) ro (by rw [ints_len,ints_len]) (hS.trans (Out.setCells _ _ (Nat.le_refl _) (by rw [ints_len];exact Nat.le_refl _))) (infoSA _) (oneU 16 _) (fun rr=>dagW hG (stb80.out _ g1 (hS.trans (Out.setCells _ _ (Nat.le_refl _) (by rw [ints_len];exact Nat.le_refl _))) rr G1) (hF.out _ _ _ _)) ?_
     exact AllReadyH.nil)
    have stb82:Hid (∀ (cur:World) (g1:Nat),Out gs 0 16 Vb8 cur→RW cur gs 0 (ints .u8 16 (B k))→Vb8.heap.size≤g1→G 2 #[true,true,true,true,false,false] (F (.agg (ints .u8 16 (B k)).toArray) (.slice (some ⟨g1,0,none⟩) 3 3) (.agg (ints .u8 16 (X2)).toArray) u36) cur):=Hid.mk' (by
     intro cur g1 hS ro G1
     rw [hF.out,hG.out]
     clear stb80
     refine wpAnyH_ready (rs:=[4]) (by kernel_rfl) (by simp) ?_
     refine arC qb84 (c2 cur) (fun e w1 ⟨he,hb⟩=>⟨_,he,hS.trans (Out.of_below hb ro.lt),dagW hG (stb81.out w1 g1 (hS.trans (Out.of_below hb ro.lt)) (ro.still hb) G1) (hF.out _ _ _ _)⟩) ?_
     exact AllReadyH.nil)
    have stb83:Hid (∀ (cur:World) (g1:Nat),Out gs 0 16 Vb8 cur→RW cur gs 0 (ints .u8 16 (B k))→RW cur g1 0 ([fnV 280,fnV 281,fnV 282])→Vb8.heap.size≤g1→G 3 #[true,true,false,true,false,false] (F (.agg (ints .u8 16 (B k)).toArray) (.slice (some ⟨g1,0,none⟩) 3 3) u34 u36) cur):=Hid.mk' (by
     intro cur g1 hS ro r1 G1
     rw [hF.out,hG.out]
     clear stb80 stb81
     refine wpAnyH_ready (rs:=[2]) (by kernel_rfl) (by simp) ?_
     refine arC qb82 (c1 _ cur r1) (fun e w1 ⟨he,hb⟩=>⟨_,he,hS.trans (Out.of_below hb ro.lt),dagW hG (stb82.out w1 g1 (hS.trans (Out.of_below hb ro.lt)) (ro.still hb) G1) (hF.out _ _ _ _)⟩) ?_
     exact AllReadyH.nil)
    have stb84:Hid (∀ (cur:World),Out gs 0 16 Vb8 cur→RW cur gs 0 (ints .u8 16 (B k))→G 4 #[true,false,false,true,false,false] (F (.agg (ints .u8 16 (B k)).toArray) u33 u34 u36) cur):=Hid.mk' (by
     intro cur  hS ro
     rw [hF.out,hG.out]
     clear stb80 stb81 stb82
     refine wpAnyH_ready (rs:=[1]) (by kernel_rfl) (by simp) ?_
     refine aG qb81 (fun g => .slice (some ⟨g,0,none⟩) 3 3) ([fnV 280,fnV 281,fnV 282]) 290 (fun u hb=>hS.trans (Out.of_below hb ro.lt)) (fun w1 g1 lg hb rr=>dagW hG (stb83.out w1 g1 (hS.trans (Out.of_below hb ro.lt)) (ro.still hb) rr (Nat.le_trans hS.size lg)) (hF.out _ _ _ _)) ?_
     exact AllReadyH.nil)
    have stb85:Hid (∀ (cur:World) (g1:Nat),Out gs 0 16 Vb8 cur→RW cur gs 0 (ints .u8 16 (B k))→RW cur g1 0 ([fnV 280,fnV 281,fnV 282])→Vb8.heap.size≤g1→G 4 #[false,true,false,true,false,false] (F u32 (.slice (some ⟨g1,0,none⟩) 3 3) u34 u36) cur):=Hid.mk' (by
     intro cur g1 hS ro r1 G1
     rw [hF.out,hG.out]
     clear stb80 stb81 stb82 stb84
     refine wpAnyH_ready (rs:=[0]) (by kernel_rfl) (by simp) ?_
     refine aL qb80 286 7 ro hS Tryz.underlying286 (infoS _) (dagW hG (stb83.out cur g1 hS ro r1 G1) (hF.out _ _ _ _)) ?_
     exact AllReadyH.nil)
    have stb86:Hid (∀ (cur:World),Out gs 0 16 Vb8 cur→RW cur gs 0 (ints .u8 16 (B k))→G 5 #[false,false,false,true,false,false] (F u32 u33 u34 u36) cur):=Hid.mk' (by
     intro cur  hS ro
     rw [hF.out,hG.out]
     clear stb80 stb81 stb82 stb83
     refine wpAnyH_ready (rs:=[0,1]) (by kernel_rfl) (by simp) ?_
     refine aL qb80 286 7 ro hS Tryz.underlying286 (infoS _) (dagW hG (stb84.out cur  hS ro) (hF.out _ _ _ _)) ?_
     refine aG qb81 (fun g => .slice (some ⟨g,0,none⟩) 3 3) ([fnV 280,fnV 281,fnV 282]) 290 (fun u hb=>hS.trans (Out.of_below hb ro.lt)) (fun w1 g1 lg hb rr=>dagW hG (stb85.out w1 g1 (hS.trans (Out.of_below hb ro.lt)) (ro.still hb) rr (Nat.le_trans hS.size lg)) (hF.out _ _ _ _)) ?_
     exact AllReadyH.nil)
    rw [hG.out]
    exact dagW hG (stb86.out Vb8 hS hs) (hF.out _ _ _ _)
  · obtain rfl:k=9:=by omega
    have n9:gk≠gs:=Nat.ne_of_lt ngk
    replace hs:=hs.rw (by decide)
    have c1:=fun g W h=>thr2 (B 9) (hBB 9) g W h
    have c2:=fun W=>plus_key (rowN 1 (thrN boxN (B 9))) K 10 (rowN_B (box_B (hBB 9)) 1) hK W
    rw [HBn.out,←HZ.out] at c2
    generalize rowN 1 (thrN boxN (B 9))=X2 at *
    clear hz sz HBs HBn
    go_upto_region 10 with (fail)
    have hdrew:Below wr.heap.size wr wr.drew:=(Below.refl _ _).drew
    replace hs:=hs.still hdrew
    replace hKy:=hKy.still hdrew
    refine wp_region_noPanic ?_
    refine wp_region_held_drew (S:=fun w'=>Out gs 0 16 wr.drew w') (by kernel_rfl) (Out.refl _ _ _ _) (fun hS => ?_)
    generalize wr.drew=Vbx at *
    refine tk 3 (pA gk 160) hS (hy:=(yR)) (h := ?_)
    (try simp only [pS])
    refine tk 4 (.agg (ints .u8 16 (fun j=>K (16*10+j))).toArray) hS (hy:=(ldO (key_at hKy 10 (by decide)) n9 286 41 Tryz.underlying286 (infoS _))) (h := ?_)
    (try simp only [pS])
    refine dag_root (fun G hG0 => ?_)
    have hG:=Hid.mk' hG0
    clear hG0
    obtain ⟨F,hF0⟩:∃ F:Value→Value→Value→Value→Act,∀ v38 v39 v40 v43,F v38 v39 v40 v43={ tmps:=#[.slice xk 16 ck,.slice xb 16 cb,undef,undef,.slice none 0 0,.int .i64 0,pA gk 0,pA gs 0,undef,u9,u10,u11,u12,u13,u14,u15,u16,u17,u18,u19,u20,u21,u22,u23,u24,u25,.slice (some ⟨gk,16,none⟩) 9 10,.int .i64 9,.int .i64 9,.bool false,u30,u31,u32,u33,u34,u35,u36,u37,v38,v39,v40,pA gk 160,.agg (ints .u8 16 (fun j=>K (16*10+j))).toArray,v43,u44],defers:=[] }:=⟨_,fun _ _ _ _=>rfl⟩
    have hF:=Hid.mk' hF0
    clear hF0
    have stbx0:Hid (∀ (cur:World) (g1:Nat),Out gs 0 16 Vbx cur→RW cur gs 0 (ints .u8 16 (Z))→Vbx.heap.size≤g1→G 0 #[true,true,true,true,true,true,true] (F (.agg (ints .u8 16 (B 9)).toArray) (.slice (some ⟨g1,0,none⟩) 2 2) (.agg (ints .u8 16 (X2)).toArray) (.agg (ints .u8 16 (Z)).toArray)) cur):=Hid.mk' (by
     intro cur g1 hS ro G1
     rw [hF.out,hG.out]
     refine wpAnyH_done (by kernel_rfl) ?_ _
     refine NoPanic.normal ?_
     go_wp2
     go_ret2
     exact ⟨gs,rfl,rowAt_of ro,(below_next b hdrew).trans (hS.below wgs (below_next b hdrew).size)⟩)
    have stbx1:Hid (∀ (cur:World) (g1:Nat),Out gs 0 16 Vbx cur→RW cur gs 0 (ints .u8 16 (B 9))→Vbx.heap.size≤g1→G 1 #[true,true,true,true,true,true,false] (F (.agg (ints .u8 16 (B 9)).toArray) (.slice (some ⟨g1,0,none⟩) 2 2) (.agg (ints .u8 16 (X2)).toArray) (.agg (ints .u8 16 (Z)).toArray)) cur):=Hid.mk' (by
     intro cur g1 hS ro G1
     rw [hF.out,hG.out]
     refine wpAnyH_ready (rs:=[6]) (by kernel_rfl) (by simp) ?_
     refine aT qbx6 286 7 43 (ints .u8 16 (Z)) ro (by rw [ints_len,ints_len]) (hS.trans (Out.setCells _ _ (Nat.le_refl _) (by rw [ints_len];exact Nat.le_refl _))) (infoSA _) (oneU 16 _) (fun rr=>dagW hG (stbx0.out _ g1 (hS.trans (Out.setCells _ _ (Nat.le_refl _) (by rw [ints_len];exact Nat.le_refl _))) rr G1) (hF.out _ _ _ _)) ?_
     exact AllReadyH.nil)
    have stbx2:Hid (∀ (cur:World) (g1:Nat),Out gs 0 16 Vbx cur→RW cur gs 0 (ints .u8 16 (B 9))→Vbx.heap.size≤g1→G 2 #[true,true,true,true,true,false,false] (F (.agg (ints .u8 16 (B 9)).toArray) (.slice (some ⟨g1,0,none⟩) 2 2) (.agg (ints .u8 16 (X2)).toArray) u43) cur):=Hid.mk' (by
     intro cur g1 hS ro G1
     rw [hF.out,hG.out]
     clear stbx0
     refine wpAnyH_ready (rs:=[5]) (by kernel_rfl) (by simp) ?_
     refine arC qbx5 (c2 cur) (fun e w1 ⟨he,hb⟩=>⟨_,he,hS.trans (Out.of_below hb ro.lt),dagW hG (stbx1.out w1 g1 (hS.trans (Out.of_below hb ro.lt)) (ro.still hb) G1) (hF.out _ _ _ _)⟩) ?_
     exact AllReadyH.nil)
    have stbx3:Hid (∀ (cur:World) (g1:Nat),Out gs 0 16 Vbx cur→RW cur gs 0 (ints .u8 16 (B 9))→RW cur g1 0 ([fnV 280,fnV 281])→Vbx.heap.size≤g1→G 3 #[true,true,false,true,true,false,false] (F (.agg (ints .u8 16 (B 9)).toArray) (.slice (some ⟨g1,0,none⟩) 2 2) u40 u43) cur):=Hid.mk' (by
     intro cur g1 hS ro r1 G1
     rw [hF.out,hG.out]
     clear stbx0 stbx1
     refine wpAnyH_ready (rs:=[2]) (by kernel_rfl) (by simp) ?_
     refine arC qbx2 (c1 _ cur r1) (fun e w1 ⟨he,hb⟩=>⟨_,he,hS.trans (Out.of_below hb ro.lt),dagW hG (stbx2.out w1 g1 (hS.trans (Out.of_below hb ro.lt)) (ro.still hb) G1) (hF.out _ _ _ _)⟩) ?_
     exact AllReadyH.nil)
    have stbx4:Hid (∀ (cur:World),Out gs 0 16 Vbx cur→RW cur gs 0 (ints .u8 16 (B 9))→G 4 #[true,false,false,true,true,false,false] (F (.agg (ints .u8 16 (B 9)).toArray) u39 u40 u43) cur):=Hid.mk' (by
     intro cur  hS ro
     rw [hF.out,hG.out]
     clear stbx0 stbx1 stbx2
     refine wpAnyH_ready (rs:=[1]) (by kernel_rfl) (by simp) ?_
     refine aG qbx1 (fun g => .slice (some ⟨g,0,none⟩) 2 2) ([fnV 280,fnV 281]) 290 (fun u hb=>hS.trans (Out.of_below hb ro.lt)) (fun w1 g1 lg hb rr=>dagW hG (stbx3.out w1 g1 (hS.trans (Out.of_below hb ro.lt)) (ro.still hb) rr (Nat.le_trans hS.size lg)) (hF.out _ _ _ _)) ?_
     exact AllReadyH.nil)
    have stbx5:Hid (∀ (cur:World) (g1:Nat),Out gs 0 16 Vbx cur→RW cur gs 0 (ints .u8 16 (B 9))→RW cur g1 0 ([fnV 280,fnV 281])→Vbx.heap.size≤g1→G 4 #[false,true,false,true,true,false,false] (F u38 (.slice (some ⟨g1,0,none⟩) 2 2) u40 u43) cur):=Hid.mk' (by
     intro cur g1 hS ro r1 G1
     rw [hF.out,hG.out]
     clear stbx0 stbx1 stbx2 stbx4
     refine wpAnyH_ready (rs:=[0]) (by kernel_rfl) (by simp) ?_
     refine aL qbx0 286 7 ro hS Tryz.underlying286 (infoS _) (dagW hG (stbx3.out cur g1 hS ro r1 G1) (hF.out _ _ _ _)) ?_
     exact AllReadyH.nil)
    have stbx6:Hid (∀ (cur:World),Out gs 0 16 Vbx cur→RW cur gs 0 (ints .u8 16 (B 9))→G 5 #[false,false,false,true,true,false,false] (F u38 u39 u40 u43) cur):=Hid.mk' (by
     intro cur  hS ro
     rw [hF.out,hG.out]
     clear stbx0 stbx1 stbx2 stbx3
     refine wpAnyH_ready (rs:=[0,1]) (by kernel_rfl) (by simp) ?_
     refine aL qbx0 286 7 ro hS Tryz.underlying286 (infoS _) (dagW hG (stbx4.out cur  hS ro) (hF.out _ _ _ _)) ?_
     refine aG qbx1 (fun g => .slice (some ⟨g,0,none⟩) 2 2) ([fnV 280,fnV 281]) 290 (fun u hb=>hS.trans (Out.of_below hb ro.lt)) (fun w1 g1 lg hb rr=>dagW hG (stbx5.out w1 g1 (hS.trans (Out.of_below hb ro.lt)) (ro.still hb) rr (Nat.le_trans hS.size lg)) (hF.out _ _ _ _)) ?_
     exact AllReadyH.nil)
    rw [hG.out]
    exact dagW hG (stbx6.out Vbx hS hs) (hF.out _ _ _ _)
end Go.Proofs.YtibdhadbflfdpaaGreatDoor
namespace Go.Proofs.YtibdhadbflfdpaaGreatDoor
open Go.RowKit
def RowS (w:World) (v:Value) (n:Nat) (X:Nat→Nat):Prop:=∃ g cap,v = .slice (some ⟨g,0,none⟩) n cap∧n≤cap∧RowAt .u8 w g 0 n X
theorem RowS.still {w w':World} {v:Value} {n:Nat} {X:Nat→Nat} (h:RowS w v n X) (hb:Below w.heap.size w w'):RowS w' v n X:=by
 obtain ⟨g,cap,rfl,hc,hr⟩:=h
 exact ⟨g,cap,rfl,hc,hr.still hb⟩
theorem RowS.bytes {w:World} {v:Value} {n:Nat} {X:Nat→Nat} (h:RowS w v n X) (hn:0<n):BytesIn w v n X:=by
 obtain ⟨g,cap,rfl,hc,hr⟩:=h
 exact rowB hr hn hc
set_option maxRecDepth 20000 in
set_option maxHeartbeats 4000000 in
theorem inverses_any (w:World) :
 Calls Tryz.prog 283 #[] w fun e w'=>∃ v,e = .returned v∧RowS w' v 256 invN∧Below w.heap.size w w':=by
 have hpw:=pw_all
 have hp0:pwN 0=1:=by kernel_rfl
 have hinv:=inv_all
 have hun:∀ i,invF (i+1)=upd (invF i) (pwN i) (pwN ((255 - i)%255)):=fun _=>rfl
 have hz0:invF 0=fun _=>0:=rfl
 have ct:=fun i (hi:i<255) W=>krtimes_any (pwN i) 3 (pw_all i hi).1 (by decide) W
 generalize pwN=P at *
 generalize invF=V at *
 go_enter Tryz.func283,Tryz.ntmps283
 go_wp2
 go_loopw [1,2,3] (fun o x i wr=>∃ k:Nat,k≤255∧x = .int .u8 (P (k%255))∧i = .int .i64 k∧Own w.heap.size wr o k P∧Below w.heap.size w wr) (fun _ _ i _=>255 - (intOf i).toNat)
 case atStart=>exact ⟨0,Nat.zero_le _,by rw [show 0%255=0 from rfl,hp0];rfl,rfl,Own.nil _ _ _,Below.refl _ _⟩
 case round =>
  obtain ⟨k,hk,rfl,rfl,own,b⟩:=hrel
  by_cases hlt:k<255
  · have c1:=ct k hlt
    obtain ⟨hp,hn⟩:=hpw k hlt
    rw [hn] at c1
    rw [show k%255=k by omega] at *
    have hs:=b.size
    have HP:∀ y:Int,y=(P k:Int)→y=(P k:Int):=fun _ h=>h
    clear hpw hinv hun hz0 ct hn hp0
    go_wp2_with (first
     | (at_builtin;refine wpList_append_next rfl (.tmp 10) (.tmp 12) rfl w.heap.size _ k P _ rfl own rfl rfl (by omega) hs ?_;intro v2 w2 own2 hb2;(have b2:=b.trans hb2);clear own)
     | (go_at_call 284;refine (c1 _).mono ?_;clear c1;rintro e w3 ⟨rfl,hw3⟩;subst hw3))
    go_roundw
    case rel=>exact ⟨k+1,by omega,rfl,by go_num,own2,b2⟩
    case measure=>simp [intOf];omega
  · obtain rfl:k=255:=by omega
    obtain ⟨g,cap,hv,hg,hgl,hcap,hrow⟩:=own.form.resolve_left (fun h=>by omega)
    subst hv
    have hmk:=make_bytes wr 256 256 rfl (by decide)
    have hb1:Below wr.heap.size wr (wr.alloc (.cells (zb 256) 5)):=(Below.refl _ _).alloc (Nat.le_refl _) _
    have hT0:=RowAt.zero wr 256 5
    rw [←hz0] at hT0
    replace hrow:=hrow.still hb1
    replace b:=below_next b hb1
    have hwg:w.heap.size≤wr.heap.size:=Nat.le_trans hg (Nat.le_of_lt hgl)
    generalize wr.alloc (.cells (zb 256) 5)=U at *
    generalize wr.heap.size=G at *
    clear hb1 own ct hp0 hz0
    go_wp2_with (rw [hmk])
    go_loopw [5] (fun i wq=>∃ k:Nat,k≤255∧i = .int .i64 k∧RowAt .u8 wq g 0 255 P∧RowAt .u8 wq G 0 256 (V k)∧Below w.heap.size w wq) (fun i _=>255 - (intOf i).toNat)
    case atStart=>exact ⟨0,Nat.zero_le _,rfl,hrow,hT0,b⟩
    case round =>
     clear hrow hT0 b hmk
     obtain ⟨k,hk,rfl,hrow,hT,b⟩:=hrel
     by_cases hlt:k<255
     · obtain ⟨hp,-⟩:=hpw k hlt
       obtain ⟨r1,-⟩:=hrow k hlt
       obtain ⟨r2,-⟩:=hrow ((255 - k)%255) (by omega)
       obtain ⟨r3,f3⟩:=hT (P k) hp
       rw [Nat.zero_add] at r1 r2 r3 f3
       have hs:=hT.set (i:=P k) hp (v:=(P ((255 - k)%255):Int)) (u:=P ((255 - k)%255)) rfl
       rw [Nat.zero_add,←hun] at hs
       have q1:(-(k:Int)%255).toNat=(255 - k)%255:=by omega
       have q2:(0:Int)≤-(k:Int)%255∧-(k:Int)%255<255:=by omega
       have q3:(P k:Int)<256:=by omega
       have ng:¬G=g:=by omega
       have ng2:¬g=G:=by omega
       have m1:k+1≤255:=by omega
       clear hpw hinv hun
       go_wp2
       go_region
       go_wp2
       go_roundw
       case rel=>exact ⟨k+1,m1,by go_num,(hrow.far (by show G≠g;omega) _).drew,hs.drew,(b.setCell (by show w.heap.size≤G;omega) _).drew⟩
       case measure=>simp [intOf];omega
     · obtain rfl:k=255:=by omega
       have hT':=hT.congr (fun j hj=>(hinv j hj).1)
       clear hpw hinv hun hT
       go_wp2
       go_ret
       exact ⟨_,rfl,⟨G,256,rfl,Nat.le_refl _,hT'⟩,b⟩
end Go.Proofs.YtibdhadbflfdpaaGreatDoor
namespace Go.Proofs.YtibdhadbflfdpaaGreatDoor
open Go.RowKit
theorem boxF_lt (y:Nat) (hy:y<256):∀ n,n≤4→boxF y n<256
 | 0,_=>xor_byte hy (by decide)
 | n+1,h=>by
  show boxF y n ^^^ (y*2 ^ (n+1)%256 ||| y / 2 ^ (8 - (n+1)))<256
  exact xor_byte (boxF_lt y hy n (by omega)) (Nat.or_lt_two_pow (n:=8) (Nat.mod_lt _ (by decide)) (Nat.lt_of_le_of_lt (Nat.div_le_self _ _) hy))
set_option maxRecDepth 20000 in
set_option maxHeartbeats 4000000 in
theorem rboxes_any (w:World) :
 Calls Tryz.prog 262 #[] w fun e w'=>∃ v,e = .returned v∧RowS w' v 256 boxN∧Below w.heap.size w w':=by
 have ci:=inverses_any w
 have hinv:=fun x hx=>(inv_all x hx).2
 have hbox:=boxF_all
 have hbl:=boxF_lt
 have hb0:∀ y,boxF y 0=y ^^^ 99:=fun _=>rfl
 have hbs:∀ y n,boxF y (n+1)=boxF y n ^^^ (y*2 ^ (n+1)%256 ||| y / 2 ^ (8 - (n+1))):=fun _ _=>rfl
 generalize invN=I at *
 generalize boxN=F at *
 generalize boxF=Y at *
 go_enter Tryz.func262,Tryz.ntmps262
 go_wp2_with (go_at_call 283;refine ci.mono ?_;clear ci;rintro e w1 ⟨v1,rfl,⟨g,cap,rfl,hcap,hr1⟩,b1⟩)
 go_loopw [2,3] (fun o i wr=>∃ k:Nat,k≤256∧i = .int .i64 k∧Own w1.heap.size wr o k F∧Below w1.heap.size w1 wr) (fun _ i _=>256 - (intOf i).toNat)
 case atStart=>exact ⟨0,Nat.zero_le _,rfl,Own.nil _ _ _,Below.refl _ _⟩
 case round =>
  obtain ⟨k,hk,rfl,own,b⟩:=hrel
  have hr:=hr1.still b
  by_cases hlt:k<256
  · obtain ⟨rk,-⟩:=hr k hlt
    rw [Nat.zero_add] at rk
    have hy:=hinv k hlt
    have hfin:=hbox k hlt
    have hl:=hbl (I k) hy
    have hs:=hbs (I k)
    have h0:=hb0 (I k)
    have q0:=u8_xor_nat (I k) 99 hy (by decide)
    rw [←h0] at q0
    replace q0:bits .xor .u8 ((I k:Nat):Int) 99=((Y (I k) 0:Nat):Int):=q0
    have hsz:=b.size
    have hrange:(0:Int)≤(k:Int)∧(k:Int)<256:=by omega
    generalize I k=y at *
    obtain ⟨B,hB⟩:∃ B,B=Y y:=⟨_,rfl⟩
    rw [←hB] at hfin hl hs h0 q0
    have HS:=Hid.mk' hs
    have HF:=Hid.mk' hfin
    clear hB hinv hbox hbl hb0 hbs hs h0 hfin
    go_wp2
    go_loopw [5,6] (fun x n wq=>∃ m:Nat,m≤4∧x = .int .u8 (B m)∧n = .int .i64 ((m:Int)+1)∧wq=wr) (fun _ n _=>5 - (intOf n).toNat)
    case atStart=>exact ⟨0,Nat.zero_le _,rfl,rfl,rfl⟩
    case round =>
     clear q0
     obtain ⟨m,hm,rfl,rfl,hwq⟩:=hrel
     subst hwq
     by_cases hlm:m<4
     · have e1:=HS.out m
       have b1:=hl m hm
       have hq1:=u8_or_nat (y*2 ^ (m+1)%256) (y / 2 ^ (8 - (m+1))) (Nat.mod_lt _ (by decide)) (Nat.lt_of_le_of_lt (Nat.div_le_self _ _) hy)
       have hq2:=u8_xor_nat (B m) (y*2 ^ (m+1)%256 ||| y / 2 ^ (8 - (m+1))) b1 (Nat.or_lt_two_pow (n:=8) (Nat.mod_lt _ (by decide)) (Nat.lt_of_le_of_lt (Nat.div_le_self _ _) hy))
       rw [←e1] at hq2
       clear HS e1 own
       rcases (show m=0∨m=1∨m=2∨m=3 by omega) with rfl | rfl | rfl | rfl
       all_goals
        simp only [Nat.zero_add,Nat.reduceAdd,Nat.reduceSub,Nat.reducePow] at hq1 hq2
        rw [←hq1] at hq2
        push_cast at hq2
        clear hq1
        go_wp2
        go_roundw
        case rel=>exact ⟨_,by decide,rfl,rfl,trivial⟩
        case measure=>simp [intOf]
     · obtain rfl:m=4:=by omega
       have eF:=HF.out
       clear HS HF
       go_wp2_with (at_builtin;refine wpList_append_next rfl (.tmp 34) (.tmp 36) rfl w1.heap.size _ k F _ rfl own rfl (by rw [←eF]) (by omega) hsz ?_;intro v2 w2 own2 hb2;(have b2:=b.trans hb2);clear own)
       go_roundw
       case rel=>exact ⟨k+1,by omega,by go_num,own2,b2⟩
       case measure=>simp [intOf];omega
  · obtain rfl:k=256:=by omega
    obtain ⟨g3,cap3,hv,hg,hgl,hcap3,hrow⟩:=own.form.resolve_left (fun h=>by omega)
    subst hv
    clear hbox hbl hb0 hbs own hinv
    go_wp2
    go_ret
    exact ⟨_,rfl,⟨g3,cap3,rfl,hcap3,hrow⟩,below_next b1 b⟩
end Go.Proofs.YtibdhadbflfdpaaGreatDoor
