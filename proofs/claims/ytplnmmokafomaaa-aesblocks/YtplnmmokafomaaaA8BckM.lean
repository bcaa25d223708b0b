/- What the proof stands on: A8Bck, A8Undo, A8LKy, Kit. -/
import Derived.Test.YtplnmmokafomaaaA8BlcM
import Derived.Test.YtplnmmokafomaaaA8Op3M
import Derived.Test.YtplnmmokafomaaaBaseM
import Derived.ChangeOld
import Derived.ChangeSlices
import Derived.Deep.DeepHandedRow
import Derived.Lib.LaidTab
import Derived.OpenShut
import Derived.ProofKit
import Derived.SizedLaws
import Derived.WalkKit
namespace Go.Proofs.Ytplnmmokafomaaa
open Go.RowKit
abbrev qk48:Oper:=oS (Op.store 42 (oT 7) (oT 26)) "aes.go:41" #[jD 7,jD 6,jC 6,jP 0,jP 1,jP 2,jP 3,jP 4,jP 5,jP 6,jP 7]
abbrev qk47:Oper:=oN 7 (Op.alloc 42) 0 "aes.go:41" #[]
abbrev qk46:Oper:=oN 26 (cF1 27 #[oT 24,oT 25] #[42,56]) 42 "aes.go:41" #[jD 4,jD 5,jC 4]
abbrev qk45:Oper:=oN 25 (Op.buildSlice 56 2 #[(0,Operand.func 35),(1,Operand.func 36)]) 56 "aes.go:41" #[]
abbrev qk44:Oper:=oN 24 (cF1 26 #[oT 21,oT 23] #[42,42]) 42 "aes.go:41" #[jD 1,jD 3,jC 1]
abbrev qk41:Oper:=oN 21 (cF1 24 #[oT 20] #[25]) 42 "aes.go:41" #[jD 0]
abbrev qk87:Oper:=oS (Op.store 42 (oT 7) (oT 37)) "aes.go:43" #[jD 6,jC 6,jP 0,jP 1,jP 2,jP 3,jP 4,jP 5,jP 6]
abbrev qk86:Oper:=oN 37 (cF1 27 #[oT 35,oT 36] #[42,56]) 42 "aes.go:43" #[jD 4,jD 5,jC 4]
abbrev qk85:Oper:=oN 36 (Op.buildSlice 56 3 #[(0,Operand.func 37),(1,Operand.func 35),(2,Operand.func 36)]) 56 "aes.go:43" #[]
abbrev qk84:Oper:=oN 35 (cF1 26 #[oT 31,oT 34] #[42,42]) 42 "aes.go:43" #[jD 0,jD 3]
abbrev qk80:Oper:=oN 31 (Op.load 42 (oT 7)) 42 "aes.go:43" #[]
theorem at_key (gk r:Nat) (hr:r<11) (W:World):(Instr.indexAt 43 (.pointer (some ⟨gk,0,none⟩)) (.int .i64 (r:Int))).run Try.prog W = .ok (.pointer (some ⟨gk,r*16,none⟩)) W:=by
 have hs:∀ W,(sizeOf 42).run Try.prog W = .ok 16 W:=fun W=>by kernel_rfl
 simp [Instr.indexAt,Instr.sureAddr,run_underlying Try.underlying43,asIntOf,hs,hr,go_sem]
theorem y_index {ops:Array Oper} {S:World→Prop} {a:Act} {o:Oper} (x y gk r:Nat) (hr:r<11) (hw:Region.wanted o (yielded ops a.tmps)=true:=by rfl) (ho:o.op = .indexAddr 43 (.tmp x) (.tmp y):=by rfl) (hx:a.eval (.tmp x) = .pointer (some ⟨gk,0,none⟩):=by rfl) (hy:a.eval (.tmp y) = .int .i64 (r:Int):=by rfl):YieldsIf Try.prog ops S o (.pointer (some ⟨gk,r*16,none⟩)) a :=
 .inl ⟨hw,fun w _=>by simp [execOp,ho,hx,hy,at_key gk r hr w]⟩
theorem key_at' {w:World} {g:Nat} {K:Nat→Nat} (h:RowAt .u8 w g 0 176 K) (r:Nat) (hr:r<11):RW w g (r*16) (ints .u8 16 (fun j=>K (16*r+j))):=by
 have:=key_at h r hr
 rwa [Nat.mul_comm 16 r] at this ⊢
set_option maxRecDepth 20000 in
set_option maxHeartbeats 8000000 in
theorem back_good (v u:Value) (ks bs:Nat→Nat) (hks:∀ j,ks j<256) (hbB:B16 bs) (w:World) (hv:BytesIn w v 16 ks) (hu:BytesIn w u 16 bs) :
 Calls Try.prog 18 #[v,u] w fun e w'=>∃ g,e = .returned (.tuple #[.slice (some ⟨g,0,none⟩) 16 16,.int .i64 0])∧RowAt .u8 w' g 0 16 (bckN (kyN ks) bs)∧Below w.heap.size w w':=by
 have hz:=zeroK
 have cs:=squareOf_16 v ks w hv
 have cr:=roundKeys_any ks hks
 have hK:=kyN_lt hks
 obtain ⟨xk,ck,rfl,-,-,-⟩:=hv.src
 obtain ⟨xb,cb,rfl,-,-,-⟩:=hu.src
 unfold kyV sqV at cr
 obtain ⟨K,hKe⟩:∃ K,K=kyN ks:=⟨_,rfl⟩
 rw [←hKe] at cr hK ⊢
 have hj2:=infoKA K
 have hjo:=oneU 176 K
 have hst:∀ W:World,(W.alloc (.cells (zb 176) 43)).there W.heap.size 0 (ints .u8 176 K).toArray.size∧RowAt .u8 ((W.alloc (.cells (zb 176) 43)).setCells W.heap.size 0 (ints .u8 176 K)) W.heap.size 0 176 K∧Below W.heap.size W ((W.alloc (.cells (zb 176) 43)).setCells W.heap.size 0 (ints .u8 176 K)):=fun W=>by
  have h:=RowAt.zero W 176 43
  exact ⟨by rw [ints_size];exact h.there,h.stored,below_setCells (Nat.le_refl _) _ _ _ ((Below.refl _ _).alloc (Nat.le_refl _) _)⟩
 have Hst:=Hid.mk' hst
 obtain ⟨LK,hLK⟩:∃ LK,LK=ints .u8 176 K:=⟨_,rfl⟩
 rw [←hLK] at cr hj2 hjo Hst
 clear hKe hLK hst hv hks
 obtain ⟨Z,hZe⟩:∃ Z,Z=bckN K bs:=⟨_,rfl⟩
 rw [←hZe]
 have HZ:=Hid.mk' hZe
 clear hZe
 go_enter Try.func18,Try.ntmps18
 go_upto_region 4 with (first
  | (go_at_call 24;refine cs.mono ?_;clear cs;rintro e w1 ⟨rfl,hb1⟩;(have cr1:=cr w1);clear cr)
  | (go_at_call 23;refine cr1.mono ?_;clear cr1;rintro e w2 ⟨rfl,hb2⟩;(obtain ⟨hth,hKy,hb3⟩:=Hst.out w2);(have b:=below_next (below_next hb1 hb2) hb3);clear hb1 hb2)
  | (with_reducible (refine id (?_:wpList _ _ _ _ _ _));refine wpList_store_mid rfl 43 _ _ rfl w2.heap.size 0 LK.toArray rfl rfl hth hj2 hjo ?_))
 dsimp only [Act.put]
 have hgk:w2.heap.size<((w2.alloc (.cells (zb 176) 43)).setCells w2.heap.size 0 LK).heap.size:=block_lt_of_cell (hKy 0 (by decide)).1
 clear hth hb3 Hst hj2 hjo hz
 generalize (w2.alloc (.cells (zb 176) 43)).setCells w2.heap.size 0 LK=U at *
 generalize w2.heap.size=gk at *
 obtain ⟨B,hBe⟩:∃ B,B=bckS K bs:=⟨_,rfl⟩
 have hBB:∀ r,B16 (B r):=fun r=>by rw [hBe];exact bckS_B hbB hK r
 have hB1:thrN unN (rowN 3 (addN K 10 bs))=B 1:=by rw [hBe];rfl
 have hBs:∀ m,m<9→thrN unN (rowN 3 (colN mB (addN K (m+1) (B (9 - m)))))=B (9 - m+1):=fun m hm=>by
  rw [hBe]
  show _=thrN unN (rowN 3 (if 9 - m=0 then addN K (10 - (9 - m)) (bckS K bs (9 - m)) else colN mB (addN K (10 - (9 - m)) (bckS K bs (9 - m)))))
  rw [if_neg (by omega),show 10 - (9 - m)=m+1 by omega]
 have hBn:addN K 0 (B 10)=bckN K bs:=by rw [hBe];rfl
 have k1:=fun g W h=>bk2 (addN K 10 bs) (addN_B hbB hK 10) g W h
 rw [hB1] at k1
 have HBs:=Hid.mk' hBs
 have HBn:=Hid.mk' hBn
 clear hBe hB1 hBs hBn
 go_cut [7] from 9 (fun s7 wc=>∃ gs,s7 = .pointer (some ⟨gs,0,none⟩)∧RowAt .u8 wc gs 0 16 (B 1)∧U.heap.size≤gs∧RowAt .u8 wc gk 0 176 K∧Below w.heap.size w wc)
 case first =>
  have hdrew:Below U.heap.size U U.drew:=(Below.refl _ _).drew
  replace hKy:=hKy.still hdrew
  refine wp_region_noPanic ?_
  refine wp_region_held_drew (S:=fun w'=>Below U.drew.heap.size U.drew w') (by kernel_rfl) (Below.refl _ _) (fun hS => ?_)
  generalize U.drew=Vk4 at *
  refine tk 0 (.slice xb 16 cb) hS (hy:=(yR)) (h := ?_)
  (try simp only [pS])
  refine tk 2 (pA gk 160) hS (hy:=(yR)) (h := ?_)
  (try simp only [pS])
  refine tk 3 (.agg (ints .u8 16 (fun j=>K (16*10+j))).toArray) hS (hy:=(ldH (key_at hKy 10 (by decide)) 42 22 Try.underlying42 (infoS _))) (h := ?_)
  (try simp only [pS])
  refine dag_root (fun G hG0 => ?_)
  have hG:=Hid.mk' hG0
  clear hG0
  obtain ⟨F,hF0⟩:∃ F:Value→Value→Value→Value→Value→Act,∀ v7 v21 v24 v25 v26,F v7 v21 v24 v25 v26={ tmps:=#[.slice xk 16 ck,.slice xb 16 cb,undef,undef,.slice none 0 0,.int .i64 0,pA gk 0,v7,undef,.slice xk 16 ck,.int .i64 16,.bool false,.bool false,.slice xb 16 cb,.int .i64 16,.bool false,.bool false,.slice xk 16 ck,.agg (ints .u8 16 (ks)).toArray,.agg LK.toArray,.slice xb 16 cb,v21,pA gk 160,.agg (ints .u8 16 (fun j=>K (16*10+j))).toArray,v24,v25,v26,undef,undef,undef,undef,undef,undef,undef,undef,undef,undef,undef,undef,undef,undef,undef,undef],defers:=[] }:=⟨_,fun _ _ _ _ _=>rfl⟩
  have hF:=Hid.mk' hF0
  clear hF0
  have stk40:Hid (∀ (cur:World) (g5 g7:Nat),Below Vk4.heap.size Vk4 cur→RW cur g7 0 (ints .u8 16 (B 1))→Vk4.heap.size≤g5→Vk4.heap.size≤g7→G 0 #[true,true,true,true,true,true,true,true,true] (F (pA g7 0) (.agg (ints .u8 16 (bs)).toArray) (.agg (ints .u8 16 (addN K 10 bs)).toArray) (.slice (some ⟨g5,0,none⟩) 2 2) (.agg (ints .u8 16 (B 1)).toArray)) cur):=Hid.mk' (by
   intro cur g5 g7 hS r7 G5 G7
   rw [hF.out,hG.out]
   refine wpAnyH_done (by kernel_rfl) ?_ _
   refine NoPanic.normal ?_
   go_wp2
   go_meet
   case rel=>exact ⟨g7,rfl,rowAt_of r7,Nat.le_trans hdrew.size G7,hKy.still hS,below_next (below_next b hdrew) hS⟩)
  have stk41:Hid (∀ (cur:World) (g5 g7:Nat),Below Vk4.heap.size Vk4 cur→RW cur g7 0 (ints .u8 16 (fun _=>0))→Vk4.heap.size≤g5→Vk4.heap.size≤g7→G 1 #[true,true,true,true,true,true,true,true,false] (F (pA g7 0) (.agg (ints .u8 16 (bs)).toArray) (.agg (ints .u8 16 (addN K 10 bs)).toArray) (.slice (some ⟨g5,0,none⟩) 2 2) (.agg (ints .u8 16 (B 1)).toArray)) cur):=Hid.mk' (by
   intro cur g5 g7 hS r7 G5 G7
   rw [hF.out,hG.out]
   refine wpAnyH_ready (rs:=[8]) (by kernel_rfl) (by simp) ?_
   refine aT qk48 42 7 26 (ints .u8 16 (B 1)) r7 (by rw [ints_len,ints_len]) (below_setCells G7 _ _ _ hS) (infoSA _) (oneU 16 _) (fun rr=>dagW hG (stk40.out _ g5 g7 (below_setCells G7 _ _ _ hS) rr G5 G7) (hF.out _ _ _ _ _)) ?_
   exact AllReadyH.nil)
  have stk42:Hid (∀ (cur:World) (g5:Nat),Below Vk4.heap.size Vk4 cur→Vk4.heap.size≤g5→G 2 #[true,true,true,true,true,true,true,false,false] (F undef (.agg (ints .u8 16 (bs)).toArray) (.agg (ints .u8 16 (addN K 10 bs)).toArray) (.slice (some ⟨g5,0,none⟩) 2 2) (.agg (ints .u8 16 (B 1)).toArray)) cur):=Hid.mk' (by
   intro cur g5 hS G5
   rw [hF.out,hG.out]
   clear stk40
   refine wpAnyH_ready (rs:=[7]) (by kernel_rfl) (by simp) ?_
   refine aG qk47 (fun g=>pA g 0) (ints .u8 16 (fun _=>0)) 42 (fun u hb=>below_next hS hb) (fun w1 g7 lg hb rr=>dagW hG (stk41.out w1 g5 g7 (below_next hS hb) rr G5 (Nat.le_trans hS.size lg)) (hF.out _ _ _ _ _)) ?_
   exact AllReadyH.nil)
  have stk43:Hid (∀ (cur:World) (g5 g7:Nat),Below Vk4.heap.size Vk4 cur→RW cur g5 0 ([fnV 35,fnV 36])→RW cur g7 0 (ints .u8 16 (fun _=>0))→Vk4.heap.size≤g5→Vk4.heap.size≤g7→G 2 #[true,true,true,true,true,true,false,true,false] (F (pA g7 0) (.agg (ints .u8 16 (bs)).toArray) (.agg (ints .u8 16 (addN K 10 bs)).toArray) (.slice (some ⟨g5,0,none⟩) 2 2) undef) cur):=Hid.mk' (by
   intro cur g5 g7 hS r5 r7 G5 G7
   rw [hF.out,hG.out]
   clear stk40 stk42
   refine wpAnyH_ready (rs:=[6]) (by kernel_rfl) (by simp) ?_
   refine arC qk46 (k1 _ cur r5) (fun e w1 ⟨he,hb⟩=>⟨_,he,below_next hS hb,dagW hG (stk41.out w1 g5 g7 (below_next hS hb) (r7.still hb) G5 G7) (hF.out _ _ _ _ _)⟩) ?_
   exact AllReadyH.nil)
  have stk44:Hid (∀ (cur:World) (g5:Nat),Below Vk4.heap.size Vk4 cur→RW cur g5 0 ([fnV 35,fnV 36])→Vk4.heap.size≤g5→G 3 #[true,true,true,true,true,true,false,false,false] (F undef (.agg (ints .u8 16 (bs)).toArray) (.agg (ints .u8 16 (addN K 10 bs)).toArray) (.slice (some ⟨g5,0,none⟩) 2 2) undef) cur):=Hid.mk' (by
   intro cur g5 hS r5 G5
   rw [hF.out,hG.out]
   clear stk40 stk41
   refine wpAnyH_ready (rs:=[6,7]) (by kernel_rfl) (by simp) ?_
   refine arC qk46 (k1 _ cur r5) (fun e w1 ⟨he,hb⟩=>⟨_,he,below_next hS hb,dagW hG (stk42.out w1 g5 (below_next hS hb) G5) (hF.out _ _ _ _ _)⟩) ?_
   refine aG qk47 (fun g=>pA g 0) (ints .u8 16 (fun _=>0)) 42 (fun u hb=>below_next hS hb) (fun w1 g7 lg hb rr=>dagW hG (stk43.out w1 g5 g7 (below_next hS hb) (r5.still hb) rr G5 (Nat.le_trans hS.size lg)) (hF.out _ _ _ _ _)) ?_
   exact AllReadyH.nil)
  have stk45:Hid (∀ (cur:World) (g7:Nat),Below Vk4.heap.size Vk4 cur→RW cur g7 0 (ints .u8 16 (fun _=>0))→Vk4.heap.size≤g7→G 3 #[true,true,true,true,true,false,false,true,false] (F (pA g7 0) (.agg (ints .u8 16 (bs)).toArray) (.agg (ints .u8 16 (addN K 10 bs)).toArray) undef undef) cur):=Hid.mk' (by
   intro cur g7 hS r7 G7
   rw [hF.out,hG.out]
   clear stk40 stk41 stk42 stk44
   refine wpAnyH_ready (rs:=[5]) (by kernel_rfl) (by simp) ?_
   refine aG qk45 (fun g => .slice (some ⟨g,0,none⟩) 2 2) ([fnV 35,fnV 36]) 47 (fun u hb=>below_next hS hb) (fun w1 g5 lg hb rr=>dagW hG (stk43.out w1 g5 g7 (below_next hS hb) rr (r7.still hb) (Nat.le_trans hS.size lg) G7) (hF.out _ _ _ _ _)) ?_
   exact AllReadyH.nil)
  have stk46:Hid (∀ (cur:World),Below Vk4.heap.size Vk4 cur→G 4 #[true,true,true,true,true,false,false,false,false] (F undef (.agg (ints .u8 16 (bs)).toArray) (.agg (ints .u8 16 (addN K 10 bs)).toArray) undef undef) cur):=Hid.mk' (by
   intro cur  hS 
   rw [hF.out,hG.out]
   clear stk40 stk41 stk42 stk43
   refine wpAnyH_ready (rs:=[5,7]) (by kernel_rfl) (by simp) ?_
   refine aG qk45 (fun g => .slice (some ⟨g,0,none⟩) 2 2) ([fnV 35,fnV 36]) 47 (fun u hb=>below_next hS hb) (fun w1 g5 lg hb rr=>dagW hG (stk44.out w1 g5 (below_next hS hb) rr (Nat.le_trans hS.size lg)) (hF.out _ _ _ _ _)) ?_
   refine aG qk47 (fun g=>pA g 0) (ints .u8 16 (fun _=>0)) 42 (fun u hb=>below_next hS hb) (fun w1 g7 lg hb rr=>dagW hG (stk45.out w1 g7 (below_next hS hb) rr (Nat.le_trans hS.size lg)) (hF.out _ _ _ _ _)) ?_
   exact AllReadyH.nil)
  have stk47:Hid (∀ (cur:World) (g5 g7:Nat),Below Vk4.heap.size Vk4 cur→RW cur g5 0 ([fnV 35,fnV 36])→RW cur g7 0 (ints .u8 16 (fun _=>0))→Vk4.heap.size≤g5→Vk4.heap.size≤g7→G 3 #[true,true,true,true,false,true,false,true,false] (F (pA g7 0) (.agg (ints .u8 16 (bs)).toArray) undef (.slice (some ⟨g5,0,none⟩) 2 2) undef) cur):=Hid.mk' (by
   intro cur g5 g7 hS r5 r7 G5 G7
   rw [hF.out,hG.out]
   clear stk40 stk41 stk42 stk44 stk45 stk46
   refine wpAnyH_ready (rs:=[4]) (by kernel_rfl) (by simp) ?_
   refine arC qk44 (plus_key bs K 10 hbB hK cur) (fun e w1 ⟨he,hb⟩=>⟨_,he,below_next hS hb,dagW hG (stk43.out w1 g5 g7 (below_next hS hb) (r5.still hb) (r7.still hb) G5 G7) (hF.out _ _ _ _ _)⟩) ?_
   exact AllReadyH.nil)
  have stk48:Hid (∀ (cur:World) (g5:Nat),Below Vk4.heap.size Vk4 cur→RW cur g5 0 ([fnV 35,fnV 36])→Vk4.heap.size≤g5→G 4 #[true,true,true,true,false,true,false,false,false] (F undef (.agg (ints .u8 16 (bs)).toArray) undef (.slice (some ⟨g5,0,none⟩) 2 2) undef) cur):=Hid.mk' (by
   intro cur g5 hS r5 G5
   rw [hF.out,hG.out]
   clear stk40 stk41 stk42 stk43 stk45 stk46
   refine wpAnyH_ready (rs:=[4,7]) (by kernel_rfl) (by simp) ?_
   refine arC qk44 (plus_key bs K 10 hbB hK cur) (fun e w1 ⟨he,hb⟩=>⟨_,he,below_next hS hb,dagW hG (stk44.out w1 g5 (below_next hS hb) (r5.still hb) G5) (hF.out _ _ _ _ _)⟩) ?_
   refine aG qk47 (fun g=>pA g 0) (ints .u8 16 (fun _=>0)) 42 (fun u hb=>below_next hS hb) (fun w1 g7 lg hb rr=>dagW hG (stk47.out w1 g5 g7 (below_next hS hb) (r5.still hb) rr G5 (Nat.le_trans hS.size lg)) (hF.out _ _ _ _ _)) ?_
   exact AllReadyH.nil)
  have stk49:Hid (∀ (cur:World) (g7:Nat),Below Vk4.heap.size Vk4 cur→RW cur g7 0 (ints .u8 16 (fun _=>0))→Vk4.heap.size≤g7→G 4 #[true,true,true,true,false,false,false,true,false] (F (pA g7 0) (.agg (ints .u8 16 (bs)).toArray) undef undef undef) cur):=Hid.mk' (by
   intro cur g7 hS r7 G7
   rw [hF.out,hG.out]
   clear stk40 stk41 stk42 stk43 stk44 stk46 stk48
   refine wpAnyH_ready (rs:=[4,5]) (by kernel_rfl) (by simp) ?_
   refine arC qk44 (plus_key bs K 10 hbB hK cur) (fun e w1 ⟨he,hb⟩=>⟨_,he,below_next hS hb,dagW hG (stk45.out w1 g7 (below_next hS hb) (r7.still hb) G7) (hF.out _ _ _ _ _)⟩) ?_
   refine aG qk45 (fun g => .slice (some ⟨g,0,none⟩) 2 2) ([fnV 35,fnV 36]) 47 (fun u hb=>below_next hS hb) (fun w1 g5 lg hb rr=>dagW hG (stk47.out w1 g5 g7 (below_next hS hb) rr (r7.still hb) (Nat.le_trans hS.size lg) G7) (hF.out _ _ _ _ _)) ?_
   exact AllReadyH.nil)
  have stk410:Hid (∀ (cur:World),Below Vk4.heap.size Vk4 cur→G 5 #[true,true,true,true,false,false,false,false,false] (F undef (.agg (ints .u8 16 (bs)).toArray) undef undef undef) cur):=Hid.mk' (by
   intro cur  hS 
   rw [hF.out,hG.out]
   clear stk40 stk41 stk42 stk43 stk44 stk45 stk47
   refine wpAnyH_ready (rs:=[4,5,7]) (by kernel_rfl) (by simp) ?_
   refine arC qk44 (plus_key bs K 10 hbB hK cur) (fun e w1 ⟨he,hb⟩=>⟨_,he,below_next hS hb,dagW hG (stk46.out w1  (below_next hS hb) ) (hF.out _ _ _ _ _)⟩) ?_
   refine aG qk45 (fun g => .slice (some ⟨g,0,none⟩) 2 2) ([fnV 35,fnV 36]) 47 (fun u hb=>below_next hS hb) (fun w1 g5 lg hb rr=>dagW hG (stk48.out w1 g5 (below_next hS hb) rr (Nat.le_trans hS.size lg)) (hF.out _ _ _ _ _)) ?_
   refine aG qk47 (fun g=>pA g 0) (ints .u8 16 (fun _=>0)) 42 (fun u hb=>below_next hS hb) (fun w1 g7 lg hb rr=>dagW hG (stk49.out w1 g7 (below_next hS hb) rr (Nat.le_trans hS.size lg)) (hF.out _ _ _ _ _)) ?_
   exact AllReadyH.nil)
  have stk411:Hid (∀ (cur:World) (g5 g7:Nat),Below Vk4.heap.size Vk4 cur→RW cur g5 0 ([fnV 35,fnV 36])→RW cur g7 0 (ints .u8 16 (fun _=>0))→Vk4.heap.size≤g5→Vk4.heap.size≤g7→G 4 #[true,false,true,true,false,true,false,true,false] (F (pA g7 0) undef undef (.slice (some ⟨g5,0,none⟩) 2 2) undef) cur):=Hid.mk' (by
   intro cur g5 g7 hS r5 r7 G5 G7
   rw [hF.out,hG.out]
   clear stk40 stk41 stk42 stk43 stk44 stk45 stk46 stk48 stk49 stk410
   refine wpAnyH_ready (rs:=[1]) (by kernel_rfl) (by simp) ?_
   refine arC qk41 (squareOf_16 _ bs cur (hu.keep (below_next (below_next b hdrew) hS))) (fun e w1 ⟨he,hb⟩=>⟨_,he,below_next hS hb,dagW hG (stk47.out w1 g5 g7 (below_next hS hb) (r5.still hb) (r7.still hb) G5 G7) (hF.out _ _ _ _ _)⟩) ?_
   exact AllReadyH.nil)
  have stk412:Hid (∀ (cur:World) (g5:Nat),Below Vk4.heap.size Vk4 cur→RW cur g5 0 ([fnV 35,fnV 36])→Vk4.heap.size≤g5→G 5 #[true,false,true,true,false,true,false,false,false] (F undef undef undef (.slice (some ⟨g5,0,none⟩) 2 2) undef) cur):=Hid.mk' (by
   intro cur g5 hS r5 G5
   rw [hF.out,hG.out]
   clear stk40 stk41 stk42 stk43 stk44 stk45 stk46 stk47 stk49 stk410
   refine wpAnyH_ready (rs:=[1,7]) (by kernel_rfl) (by simp) ?_
   refine arC qk41 (squareOf_16 _ bs cur (hu.keep (below_next (below_next b hdrew) hS))) (fun e w1 ⟨he,hb⟩=>⟨_,he,below_next hS hb,dagW hG (stk48.out w1 g5 (below_next hS hb) (r5.still hb) G5) (hF.out _ _ _ _ _)⟩) ?_
   refine aG qk47 (fun g=>pA g 0) (ints .u8 16 (fun _=>0)) 42 (fun u hb=>below_next hS hb) (fun w1 g7 lg hb rr=>dagW hG (stk411.out w1 g5 g7 (below_next hS hb) (r5.still hb) rr G5 (Nat.le_trans hS.size lg)) (hF.out _ _ _ _ _)) ?_
   exact AllReadyH.nil)
  have stk413:Hid (∀ (cur:World) (g7:Nat),Below Vk4.heap.size Vk4 cur→RW cur g7 0 (ints .u8 16 (fun _=>0))→Vk4.heap.size≤g7→G 5 #[true,false,true,true,false,false,false,true,false] (F (pA g7 0) undef undef undef undef) cur):=Hid.mk' (by
   intro cur g7 hS r7 G7
   rw [hF.out,hG.out]
   clear stk40 stk41 stk42 stk43 stk44 stk45 stk46 stk47 stk48 stk410 stk412
   refine wpAnyH_ready (rs:=[1,5]) (by kernel_rfl) (by simp) ?_
   refine arC qk41 (squareOf_16 _ bs cur (hu.keep (below_next (below_next b hdrew) hS))) (fun e w1 ⟨he,hb⟩=>⟨_,he,below_next hS hb,dagW hG (stk49.out w1 g7 (below_next hS hb) (r7.still hb) G7) (hF.out _ _ _ _ _)⟩) ?_
   refine aG qk45 (fun g => .slice (some ⟨g,0,none⟩) 2 2) ([fnV 35,fnV 36]) 47 (fun u hb=>below_next hS hb) (fun w1 g5 lg hb rr=>dagW hG (stk411.out w1 g5 g7 (below_next hS hb) rr (r7.still hb) (Nat.le_trans hS.size lg) G7) (hF.out _ _ _ _ _)) ?_
   exact AllReadyH.nil)
  have stk414:Hid (∀ (cur:World),Below Vk4.heap.size Vk4 cur→G 6 #[true,false,true,true,false,false,false,false,false] (F undef undef undef undef undef) cur):=Hid.mk' (by
   intro cur  hS 
   rw [hF.out,hG.out]
   clear stk40 stk41 stk42 stk43 stk44 stk45 stk46 stk47 stk48 stk49 stk411
   refine wpAnyH_ready (rs:=[1,5,7]) (by kernel_rfl) (by simp) ?_
   refine arC qk41 (squareOf_16 _ bs cur (hu.keep (below_next (below_next b hdrew) hS))) (fun e w1 ⟨he,hb⟩=>⟨_,he,below_next hS hb,dagW hG (stk410.out w1  (below_next hS hb) ) (hF.out _ _ _ _ _)⟩) ?_
   refine aG qk45 (fun g => .slice (some ⟨g,0,none⟩) 2 2) ([fnV 35,fnV 36]) 47 (fun u hb=>below_next hS hb) (fun w1 g5 lg hb rr=>dagW hG (stk412.out w1 g5 (below_next hS hb) rr (Nat.le_trans hS.size lg)) (hF.out _ _ _ _ _)) ?_
   refine aG qk47 (fun g=>pA g 0) (ints .u8 16 (fun _=>0)) 42 (fun u hb=>below_next hS hb) (fun w1 g7 lg hb rr=>dagW hG (stk413.out w1 g7 (below_next hS hb) rr (Nat.le_trans hS.size lg)) (hF.out _ _ _ _ _)) ?_
   exact AllReadyH.nil)
  rw [hG.out]
  exact dagW hG (stk414.out Vk4 hS ) (hF.out _ _ _ _ _)
 case rest =>
 obtain ⟨gs,rfl,hs0,hgs,hKy0,b0⟩:=hcut
 have ngk:gk<gs:=Nat.lt_of_lt_of_le hgk hgs
 have wgs:w.heap.size≤gs:=Nat.le_trans b.size hgs
 have n9:gk≠gs:=Nat.ne_of_lt ngk
 clear hKy b hu hgk hgs k1
 go_wp2
 go_loopw [8] (fun i wr=>∃ r:Nat,r≤9∧i = .int .i64 r∧RowAt .u8 wr gs 0 16 (B (10 - r))∧RowAt .u8 wr gk 0 176 K∧Below w.heap.size w wr) (fun i _=>(intOf i).toNat)
 case atStart=>exact ⟨9,Nat.le_refl _,rfl,hs0,hKy0,b0⟩
 case round =>
  clear hs0 hKy0 b0
  obtain ⟨r,hr,rfl,hs,hKy,b⟩:=hrel
  by_cases hlt:0<r
  · obtain ⟨m,rfl⟩:∃ m,r=m+1:=⟨r - 1,by omega⟩
    rw [show 10 - (m+1)=9 - m by omega] at hs
    replace hs:=hs.rw (by decide)
    have c1:=fun W=>plus_key (B (9 - m)) K (m+1) (hBB _) hK W
    have c2:=fun g W h=>bk3 (addN K (m+1) (B (9 - m))) (addN_B (hBB _) hK _) g W h
    rw [HBs.out m (by omega)] at c2
    generalize addN K (m+1) (B (9 - m))=X2 at *
    have q1:(0:Int)<((m+1:Nat):Int):=by omega
    clear HBs HBn hbB
    go_upto_region 8 with (fail)
    have hdrew:Below wr.heap.size wr wr.drew:=(Below.refl _ _).drew
    replace hs:=hs.still hdrew
    replace hKy:=hKy.still hdrew
    refine wp_region_noPanic ?_
    refine wp_region_held_drew (S:=fun w'=>Out gs 0 16 wr.drew w') (by kernel_rfl) (Out.refl _ _ _ _) (fun hS => ?_)
    generalize wr.drew=Vk8 at *
    refine tk 1 (.int .i64 ((m+1:Nat):Int)) hS (hy:=(yR)) (h := ?_)
    (try simp only [pS])
    refine tk 2 (pA gk ((m+1)*16)) hS (hy:=(y_index 6 32 gk (m+1) (by omega))) (h := ?_)
    (try simp only [pS])
    refine tk 3 (.agg (ints .u8 16 (fun j=>K (16*(m+1)+j))).toArray) hS (hy:=(ldO (key_at' hKy (m+1) (by omega)) n9 42 33 Try.underlying42 (infoS _))) (h := ?_)
    (try simp only [pS])
    refine dag_root (fun G hG0 => ?_)
    have hG:=Hid.mk' hG0
    clear hG0
    obtain ⟨F,hF0⟩:∃ F:Value→Value→Value→Value→Act,∀ v31 v35 v36 v37,F v31 v35 v36 v37={ tmps:=#[.slice xk 16 ck,.slice xb 16 cb,undef,undef,.slice none 0 0,.int .i64 0,pA gk 0,pA gs 0,.int .i64 ((m+1:Nat):Int),u9,u10,u11,u12,u13,u14,u15,u16,u17,u18,u19,u20,u21,u22,u23,u24,u25,u26,.int .i64 ((m+1:Nat):Int),.bool true,u29,u30,v31,.int .i64 ((m+1:Nat):Int),pA gk ((m+1)*16),.agg (ints .u8 16 (fun j=>K (16*(m+1)+j))).toArray,v35,v36,v37,u38,u39,u40,u41,u42],defers:=[] }:=⟨_,fun _ _ _ _=>rfl⟩
    have hF:=Hid.mk' hF0
    clear hF0
    have stk80:Hid (∀ (cur:World) (g5:Nat),Out gs 0 16 Vk8 cur→RW cur gs 0 (ints .u8 16 (B (9 - m+1)))→Vk8.heap.size≤g5→G 0 #[true,true,true,true,true,true,true,true] (F (.agg (ints .u8 16 (B (9 - m))).toArray) (.agg (ints .u8 16 (X2)).toArray) (.slice (some ⟨g5,0,none⟩) 3 3) (.agg (ints .u8 16 (B (9 - m+1))).toArray)) cur):=Hid.mk' (by
     intro cur g5 hS ro G5
     rw [hF.out,hG.out]
     refine wpAnyH_done (by kernel_rfl) ?_ _
     refine NoPanic.normal ?_
     go_wp2
     go_roundw
     case rel=>exact ⟨m,by omega,by go_num,by rw [show 10 - m=9 - m+1 by omega];exact rowAt_of ro,hS.row hKy (Nat.ne_of_lt ngk),(below_next b hdrew).trans (hS.below wgs (below_next b hdrew).size)⟩
     case measure=>simp [intOf];omega)
    have stk81:Hid (∀ (cur:World) (g5:Nat),Out gs 0 16 Vk8 cur→RW cur gs 0 (ints .u8 16 (B (9 - m)))→Vk8.heap.size≤g5→G 1 #[true,true,true,true,true,true,true,false] (F (.agg (ints .u8 16 (B (9 - m))).toArray) (.agg (ints .u8 16 (X2)).toArray) (.slice (some ⟨g5,0,none⟩) 3 3) (.agg (ints .u8 16 (B (9 - m+1))).toArray)) cur):=Hid.mk' (by
     intro cur g5 hS ro G5
     rw [hF.out,hG.out]
     refine wpAnyH_ready (rs:=[7]) (by kernel_rfl) (by simp) ?_
     refine aT qk87 42 7 37 (ints .u8 16 (B (9 - m+1))) ro (by rw [ints_len,ints_len]) (hS.trans (Out.setCells _ _ (Nat.le_refl _) (by rw [ints_len];exact Nat.le_refl _))) (infoSA _) (oneU 16 _) (fun rr=>dagW hG (stk80.out _ g5 (hS.trans (Out.setCells _ _ (Nat.le_refl _) (by rw [ints_len];exact Nat.le_refl _))) rr G5) (hF.out _ _ _ _)) ?_
     exact AllReadyH.nil)
    have stk82:Hid (∀ (cur:World) (g5:Nat),Out gs 0 16 Vk8 cur→RW cur gs 0 (ints .u8 16 (B (9 - m)))→RW cur g5 0 ([fnV 37,fnV 35,fnV 36])→Vk8.heap.size≤g5→G 2 #[true,true,true,true,true,true,false,false] (F (.agg (ints .u8 16 (B (9 - m))).toArray) (.agg (ints .u8 16 (X2)).toArray) (.slice (some ⟨g5,0,none⟩) 3 3) u37) cur):=Hid.mk' (by
     intro cur g5 hS ro r5 G5
     rw [hF.out,hG.out]
     clear stk80
     refine wpAnyH_ready (rs:=[6]) (by kernel_rfl) (by simp) ?_
     refine arC qk86 (c2 _ cur r5) (fun e w1 ⟨he,hb⟩=>⟨_,he,hS.trans (Out.of_below hb ro.lt),dagW hG (stk81.out w1 g5 (hS.trans (Out.of_below hb ro.lt)) (ro.still hb) G5) (hF.out _ _ _ _)⟩) ?_
     exact AllReadyH.nil)
    have stk83:Hid (∀ (cur:World),Out gs 0 16 Vk8 cur→RW cur gs 0 (ints .u8 16 (B (9 - m)))→G 3 #[true,true,true,true,true,false,false,false] (F (.agg (ints .u8 16 (B (9 - m))).toArray) (.agg (ints .u8 16 (X2)).toArray) u36 u37) cur):=Hid.mk' (by
     intro cur  hS ro
     rw [hF.out,hG.out]
     clear stk80 stk81
     refine wpAnyH_ready (rs:=[5]) (by kernel_rfl) (by simp) ?_
     refine aG qk85 (fun g => .slice (some ⟨g,0,none⟩) 3 3) ([fnV 37,fnV 35,fnV 36]) 47 (fun u hb=>hS.trans (Out.of_below hb ro.lt)) (fun w1 g5 lg hb rr=>dagW hG (stk82.out w1 g5 (hS.trans (Out.of_below hb ro.lt)) (ro.still hb) rr (Nat.le_trans hS.size lg)) (hF.out _ _ _ _)) ?_
     exact AllReadyH.nil)
    have stk84:Hid (∀ (cur:World) (g5:Nat),Out gs 0 16 Vk8 cur→RW cur gs 0 (ints .u8 16 (B (9 - m)))→RW cur g5 0 ([fnV 37,fnV 35,fnV 36])→Vk8.heap.size≤g5→G 3 #[true,true,true,true,false,true,false,false] (F (.agg (ints .u8 16 (B (9 - m))).toArray) u35 (.slice (some ⟨g5,0,none⟩) 3 3) u37) cur):=Hid.mk' (by
     intro cur g5 hS ro r5 G5
     rw [hF.out,hG.out]
     clear stk80 stk81 stk83
     refine wpAnyH_ready (rs:=[4]) (by kernel_rfl) (by simp) ?_
     refine arC qk84 (c1 cur) (fun e w1 ⟨he,hb⟩=>⟨_,he,hS.trans (Out.of_below hb ro.lt),dagW hG (stk82.out w1 g5 (hS.trans (Out.of_below hb ro.lt)) (ro.still hb) (r5.still hb) G5) (hF.out _ _ _ _)⟩) ?_
     exact AllReadyH.nil)
    have stk85:Hid (∀ (cur:World),Out gs 0 16 Vk8 cur→RW cur gs 0 (ints .u8 16 (B (9 - m)))→G 4 #[true,true,true,true,false,false,false,false] (F (.agg (ints .u8 16 (B (9 - m))).toArray) u35 u36 u37) cur):=Hid.mk' (by
     intro cur  hS ro
     rw [hF.out,hG.out]
     clear stk80 stk81 stk82
     refine wpAnyH_ready (rs:=[4,5]) (by kernel_rfl) (by simp) ?_
     refine arC qk84 (c1 cur) (fun e w1 ⟨he,hb⟩=>⟨_,he,hS.trans (Out.of_below hb ro.lt),dagW hG (stk83.out w1  (hS.trans (Out.of_below hb ro.lt)) (ro.still hb)) (hF.out _ _ _ _)⟩) ?_
     refine aG qk85 (fun g => .slice (some ⟨g,0,none⟩) 3 3) ([fnV 37,fnV 35,fnV 36]) 47 (fun u hb=>hS.trans (Out.of_below hb ro.lt)) (fun w1 g5 lg hb rr=>dagW hG (stk84.out w1 g5 (hS.trans (Out.of_below hb ro.lt)) (ro.still hb) rr (Nat.le_trans hS.size lg)) (hF.out _ _ _ _)) ?_
     exact AllReadyH.nil)
    have stk86:Hid (∀ (cur:World) (g5:Nat),Out gs 0 16 Vk8 cur→RW cur gs 0 (ints .u8 16 (B (9 - m)))→RW cur g5 0 ([fnV 37,fnV 35,fnV 36])→Vk8.heap.size≤g5→G 4 #[false,true,true,true,false,true,false,false] (F u31 u35 (.slice (some ⟨g5,0,none⟩) 3 3) u37) cur):=Hid.mk' (by
     intro cur g5 hS ro r5 G5
     rw [hF.out,hG.out]
     clear stk80 stk81 stk82 stk83 stk85
     refine wpAnyH_ready (rs:=[0]) (by kernel_rfl) (by simp) ?_
     refine aL qk80 42 7 ro hS Try.underlying42 (infoS _) (dagW hG (stk84.out cur g5 hS ro r5 G5) (hF.out _ _ _ _)) ?_
     exact AllReadyH.nil)
    have stk87:Hid (∀ (cur:World),Out gs 0 16 Vk8 cur→RW cur gs 0 (ints .u8 16 (B (9 - m)))→G 5 #[false,true,true,true,false,false,false,false] (F u31 u35 u36 u37) cur):=Hid.mk' (by
     intro cur  hS ro
     rw [hF.out,hG.out]
     clear stk80 stk81 stk82 stk83 stk84
     refine wpAnyH_ready (rs:=[0,5]) (by kernel_rfl) (by simp) ?_
     refine aL qk80 42 7 ro hS Try.underlying42 (infoS _) (dagW hG (stk85.out cur  hS ro) (hF.out _ _ _ _)) ?_
     refine aG qk85 (fun g => .slice (some ⟨g,0,none⟩) 3 3) ([fnV 37,fnV 35,fnV 36]) 47 (fun u hb=>hS.trans (Out.of_below hb ro.lt)) (fun w1 g5 lg hb rr=>dagW hG (stk86.out w1 g5 (hS.trans (Out.of_below hb ro.lt)) (ro.still hb) rr (Nat.le_trans hS.size lg)) (hF.out _ _ _ _)) ?_
     exact AllReadyH.nil)
    rw [hG.out]
    exact dagW hG (stk87.out Vk8 hS hs) (hF.out _ _ _ _)
  · obtain rfl:r=0:=by omega
    have hAr:=(hs.rw (by decide)).range
    have hKr:=(key_at hKy 0 (by decide)).range
    have c1:=fun W=>plus_key (B 10) K 0 (hBB 10) hK W
    rw [HBn.out,←HZ.out] at c1
    have hi1:=infoS (B 10)
    have hi0:=infoS (fun j=>K (16*0+j))
    have hi2:=infoSA Z
    have ho:=oneU 16 Z
    have hst:∀ W,RowAt .u8 W gs 0 16 (B 10)→W.there gs 0 (ints .u8 16 Z).toArray.size∧RowAt .u8 (W.setCells gs 0 (ints .u8 16 Z)) gs 0 16 Z:=fun W h=>⟨by rw [ints_size];exact h.there,h.stored⟩
    have Hst:=Hid.mk' hst
    clear HBs HBn hbB hst
    generalize ints .u8 16 (fun j=>K (16*0+j))=LA at *
    generalize ints .u8 16 Z=LZ at *
    go_wp2_with (first
     | (refine wpList_load_mid rfl 42 _ rfl gs 0 rfl (ints .u8 16 (B 10)) _ hAr Try.underlying42 rfl hi1 ?_)
     | (refine wpList_load_mid rfl 42 _ rfl gk 0 rfl LA _ hKr Try.underlying42 rfl hi0 ?_)
     | (go_at_call 26;refine (c1 _).mono ?_;clear c1 hAr hKr;rintro e w3 ⟨rfl,hb3⟩;(obtain ⟨hth,hfin⟩:=Hst.out w3 (hs.still hb3));(have bf:=below_setCells wgs LZ 0 _ (below_next b hb3)))
     | (with_reducible (refine id (?_:wpList _ _ _ _ _ _));refine wpList_store_mid rfl 42 _ _ rfl gs 0 LZ.toArray rfl rfl hth hi2 ho ?_))
    go_ret2
    exact ⟨gs,rfl,hfin,bf⟩
end Go.Proofs.Ytplnmmokafomaaa
namespace Go.Proofs.Ytplnmmokafomaaa
open Go.RowKit
theorem conv16 {W:World} {g:Nat} {X:Nat→Nat} (h:RowAt .u8 W g 0 16 X) (hX:B16 X) {W':World} (hb:Below W.heap.size W W') (c:Nat):(convert 25 9 (.slice (some ⟨g,0,none⟩) 16 c)).run Try.prog W' = .ok (.string (strB 16 X)) W':=by
 have e:strB 16 X=strB 16 (fun j=>X j%256):=strB_congr (fun j hj=>(Nat.mod_eq_of_lt (hX j hj)).symm)
 rw [e]
 exact conv_bytes W' g 0 16 c (fun j=>X j%256) (fun j=>Nat.mod_lt _ (by decide)) (fun j hj=>by
  rw [Nat.mod_eq_of_lt (hX j hj)]
  exact ((h.still hb) j hj).1)
end Go.Proofs.Ytplnmmokafomaaa
namespace Go.Proofs.Ytplnmmokafomaaa
open Go.RowKit
theorem lentB {w:World} {g n cap:Nat} {bs:Nat→Nat} (h:RowAt .u8 w g 0 (n+2) (cat n bs room)) (hc:n+2≤cap):BytesIn w (.slice (some ⟨g,0,none⟩) n cap) n bs :=
 .inr ⟨g,0,cap,rfl,block_lt_of_cell (h 0 (by omega)).1,by omega,fun j hj=>by have:=(h j (by omega)).1;rwa [cat_left hj] at this⟩
theorem convN {W:World} {g n cap:Nat} {X:Nat→Nat} (h:RowAt .u8 W g 0 n X) (hX:∀ j,X j<256):(convert 25 9 (.slice (some ⟨g,0,none⟩) n cap)).run Try.prog W = .ok (.string (strB n X)) W :=
 conv_bytes W g 0 n cap X hX (fun j hj=>(h j hj).1)
theorem conv_nil8 (W:World):(convert 25 9 (.slice none 0 0)).run Try.prog W = .ok (.string (strB 0 (fun _=>0))) W :=
 BytesIn.conv (w:=W) (v := .slice none 0 0) (n:=0) (bs:=fun _=>0) (.inl ⟨none,rfl,rfl⟩) (fun _=>by decide) W (Below.refl _ _)
set_option maxRecDepth 20000 in
set_option maxHeartbeats 8000000 in
theorem aesKeys_any (v:Value) (n:Nat) (ks:Nat→Nat) (hks:∀ j,ks j<256) (w:World) (hv:BytesIn w v n ks) (hn:n<140737488355000) :
 Calls Try.prog 4 #[v] w fun e w'=>e = .returned (.bool true)∧Below w.heap.size w w':=by
 have c1:=lent_any v n ks w hv hn
 have cs:=fun g cap W hc hr hb=>stays_any g cap n v ks hks W hn hc hr (hv.keep hb)
 have ck:=knows8
 by_cases h16:n=16
 · subst h16
   have c2:=fun x W hx=>keys_good x ks hks W hx
   have c3:=fun W hb=>rKeys_good v ks hks W (hv.keep hb)
   have hY:=kyN_lt hks
   generalize kyN ks=Y at *
   have cv:=fun W g cap h=>convN (W:=W) (g:=g) (n:=176) (cap:=cap) h hY
   generalize strB 176 Y=S at *
   obtain ⟨xk,ckk,rfl,-,-,-⟩:=hv.src
   clear hv hY hks
   go_enter Try.func4,Try.ntmps4
   go_wp2_with (first
    | (go_at_call 11;refine c1.mono ?_;clear c1;rintro e w1 ⟨g1,k1,rfl,hk1,-,r1,b⟩;(have c2':=c2 _ w1 (lentB r1 hk1));clear c2)
    | (go_at_call 12;refine c2'.mono ?_;clear c2';rintro e w2 ⟨g2,k2,rfl,hk2,r2,hb2⟩;(replace r1:=r1.still hb2);(replace b:=below_next b hb2);clear hb2;(have c3':=c3 w2 b);clear c3)
    | (go_at_call 13;refine c3'.mono ?_;clear c3';rintro e w3 ⟨s3,rfl,⟨g3,k3,hs3,hk3,r3⟩,hb3⟩;subst hs3;(replace r1:=r1.still hb3);(replace r2:=r2.still hb3);(replace b:=below_next b hb3);clear hb3;(have q1:=cv w3 g2 k2 r2);(have q2:=cv w3 g3 k3 r3);(have cs':=cs g1 k1 w3 hk1 r1 b);clear cv cs r2 r3)
    | (go_at_call 14;refine (num8_any _ _).mono ?_;rintro e wn ⟨rfl,hwn⟩;subst hwn)
    | rw [q1]
    | rw [q2]
    | (go_at_call 15;refine cs'.mono ?_;clear cs';rintro e w4 ⟨rfl,hb4⟩;(replace b:=below_next b hb4);clear hb4)
    | (go_at_call 10;refine (ck _).mono ?_;clear ck;rintro e w5 ⟨rfl,hb5⟩))
   go_ret
   exact ⟨rfl,below_next b hb5⟩
 · have c2:=fun x W hx=>keys_bad x n ks W hx h16
   have c3:=fun W hb=>rKeys_bad v n ks W (hv.keep hb) h16
   have cv:=conv_nil8
   generalize strB 0 (fun _=>0)=S at *
   obtain ⟨xk,ckk,rfl,-,-,-⟩:=hv.src
   clear hv hks h16
   go_enter Try.func4,Try.ntmps4
   go_wp2_with (first
    | (go_at_call 11;refine c1.mono ?_;clear c1;rintro e w1 ⟨g1,k1,rfl,hk1,-,r1,b⟩;(have c2':=c2 _ w1 (lentB r1 hk1));clear c2;(have c3':=c3 w1 b);clear c3;(have q1:=cv w1);(have cs':=cs g1 k1 w1 hk1 r1 b);clear cv cs)
    | (go_at_call 12;refine c2'.mono ?_;clear c2';rintro e w2 ⟨rfl,hw2⟩;subst hw2)
    | (go_at_call 13;refine c3'.mono ?_;clear c3';rintro e w3 ⟨rfl,hw3⟩;subst hw3)
    | (go_at_call 14;refine (num8_any _ _).mono ?_;rintro e wn ⟨rfl,hwn⟩;subst hwn)
    | rw [q1]
    | (go_at_call 15;refine cs'.mono ?_;clear cs';rintro e w4 ⟨rfl,hb4⟩;(replace b:=below_next b hb4);clear hb4)
    | (go_at_call 10;refine (ck _).mono ?_;clear ck;rintro e w5 ⟨rfl,hb5⟩))
   go_ret
   exact ⟨rfl,below_next b hb5⟩
end Go.Proofs.Ytplnmmokafomaaa
namespace Go.Proofs.Ytplnmmokafomaaa
open Go.ChangeShapes Go.WideShapes Go.ChangeAt Go.RowKit
theorem ownKnobs:ownKnob Try.prog.godebug=none:=by kernel_rfl
theorem laidOut:laidOutB Try.prog=true:=by kernel_rfl
theorem cellsOfByte:Try.prog.cellsOf 5=1:=by kernel_rfl
theorem bytesOfByte:Try.prog.bytesOf 5=1:=by kernel_rfl
set_option maxRecDepth 20000 in
theorem open_bytes {H:Type} {enc:TypeId × Value→H} {W:World} {base:Nat} {v:Value} {d:DataW H} {ps:List MemPlace} (hval:Value.okWide Try.prog W .any base 25 v) (h:DataW.Trod enc Try.prog W 0 (fun _=>true) true 25 v d ps) :
 ∃ n bs,BytesIn W v n bs∧(∀ j,bs j<256)∧(n=0∨∃ elems spare,d = .slice elems spare∧elems.length=n):=by
 obtain ⟨a0,len,cap,rfl⟩:=okWide_slice Try.underlying25 hval
 obtain ⟨fuel,hf⟩:=h
 have hc:Cell.ok Try.prog W .any base 25 (.slice a0 len cap):=by
  unfold Value.okWide Cell.okWide at hval
  simp only [Try.underlying25] at hval
  exact hval
 rcases open_ints Try.underlying25 Try.underlying5 cellsOfByte hf with ⟨hcs,hx⟩ | ⟨a,len',cap',zs,hcs,_,hl,hm,hz,hx,hcell,hwz⟩
 · simp [Value.cells] at hcs
   obtain ⟨rfl,rfl,rfl⟩:=hcs
   exact ⟨0,fun _=>0,.inl ⟨none,rfl,rfl⟩,fun _=>Nat.zero_lt_succ _,.inl rfl⟩
 · simp [Value.cells] at hcs
   obtain ⟨rfl,rfl,rfl⟩:=hcs
   simp only [Prod.mk.injEq] at hx
   obtain ⟨rfl,rfl⟩:=hx
   simp only [if_true] at hz
   unfold Cell.ok at hc
   simp only [Try.underlying25] at hc
   obtain ⟨_,_,_,hs,row,cells,hsh,_⟩:=hc
   obtain ⟨b,off,spot⟩:=a
   subst hs
   have hbl:b<W.heap.size:=by
    rcases Nat.lt_or_ge b W.heap.size with h | h
    · exact h
    · unfold World.shape? at hsh
      rw [Array.getElem?_eq_none h] at hsh
      cases hsh
   have hn:∀ j,0≤zs.getD j 0∧zs.getD j 0<256:=fun j=>by
    rw [List.getD_eq_getElem?_getD]
    cases h:zs[j]? with
    | none=>simp
    | some x =>
     have:=hwz x (List.mem_of_getElem? h)
     have h0:(0:Int)≤x∧x≤255:=by simpa [Lit.wf,IntKind.min,IntKind.max,IntKind.signed,IntKind.bits] using this
     show 0≤x∧x<256
     omega
   refine ⟨len,fun j=>(zs.getD j 0).toNat,.inr ⟨b,off,cap,rfl,hbl,hl,fun j hj => ?_⟩,fun j => ?_,.inr ⟨_,_,rfl,?_⟩⟩
   · have h:=hcell j (by omega)
     rw [Addr.add_mid] at h
     rw [h,Int.toNat_of_nonneg (hn j).1]
   · have:=hn j
     show (zs.getD j 0).toNat<256
     omega
   · simp [lits];omega
theorem bytes_reach {H:Type} {ts:List TypeId} {ds:List (DataW H)} (hR:(DataW.weightsEach Try.prog ts ds).all (·≤reachBytes)=true) {j n:Nat} {d:DataW H} (ht:ts[j]? = some 25) (hd:ds[j]? = some d) (h:n=0∨∃ elems spare,d = .slice elems spare∧elems.length=n):n<140737488355000:=by
 rcases h with h | ⟨elems,spare,rfl,rfl⟩
 · omega
 · have:=sized_slice hR ht hd Try.underlying25
   rw [bytesOfByte] at this
   unfold reachBytes at this
   omega
end Go.Proofs.Ytplnmmokafomaaa
