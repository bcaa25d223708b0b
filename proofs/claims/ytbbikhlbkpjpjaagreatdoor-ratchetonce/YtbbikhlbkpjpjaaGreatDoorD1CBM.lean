/- What the proof stands on: D1CB, D1CE5, D1Pcs, D1CF, D1CK. -/
import Derived.Test.YtbbikhlbkpjpjaaGreatDoorQAppM
import Derived.Test.YtbbikhlbkpjpjaaGreatDoorR8TM
namespace Go.Proofs.YtbbikhlbkpjpjaaGreatDoor
open Go.RowKit
def knI (n:Int):Nat:=if n / 2 ^ 6=0 then 0 else if n / 2 ^ 14=0 then 1 else if n / 2 ^ 30=0 then 2 else 3
theorem knI_at (n:Int) (k:Nat) (hk:k<3) (h:n / 2 ^ lbN k=0) (hl:∀ q,q<k→¬n / 2 ^ lbN q=0):knI n=k:=by
 unfold knI
 rcases (show k=0∨k=1∨k=2 by omega) with rfl | rfl | rfl
 · exact if_pos h
 · exact (if_neg (hl 0 (by decide))).trans (if_pos h)
 · exact (if_neg (hl 0 (by decide))).trans ((if_neg (hl 1 (by decide))).trans (if_pos h))
theorem knI_none (n:Int) (hl:∀ q,q<3→¬n / 2 ^ lbN q=0):knI n=3:=by
 unfold knI
 exact (if_neg (hl 0 (by decide))).trans ((if_neg (hl 1 (by decide))).trans (if_neg (hl 2 (by decide))))
set_option maxRecDepth 20000 in
set_option maxHeartbeats 4000000 in
theorem cKind_any (n:Int) (w:World):Calls Tryz.prog 153 #[.int .i64 n] w fun e w'=>e = .returned (.int .i64 ((knI n:Nat):Int))∧w'=w:=by
 go_enter Tryz.func153,Tryz.ntmps153
 go_wp2
 go_loopw [4] (fun i wr=>∃ k:Nat,k≤3∧i = .int .i64 k∧w=wr∧∀ q,q<k→¬n / 2 ^ lbN q=0) (fun i _=>3 - (intOf i).toNat)
 case atStart=>exact ⟨0,Nat.zero_le _,rfl,rfl,fun q hq=>absurd hq (Nat.not_lt_zero _)⟩
 case round =>
  obtain ⟨k,hk,rfl,rfl,hl⟩:=hrel
  by_cases hlt:k<3
  · have cb:=cBits_any k hlt w
    have t1:(k:Int)<3:=by omega
    obtain ⟨b,hb⟩:∃ b,b=lbN k:=⟨_,rfl⟩
    have hb64:b<64:=by rw [hb];rcases (show k=0∨k=1∨k=2 by omega) with rfl | rfl | rfl <;> decide
    have t2:(0:Int)≤(b:Int)∧(b:Int)<64:=by omega
    rw [←hb] at cb
    have e4:IntKind.u64.wrap (b:Int)=(b:Int):=by show (b:Int)%18446744073709551616=_;omega
    by_cases hn:n / 2 ^ b=0
    · have hkn:knI n=k:=knI_at n k hlt (by rw [←hb];exact hn) hl
      clear hl hb
      go_wp2_with (go_at_call 154;refine cb.mono ?_;clear cb;rintro e w1 ⟨rfl,hw⟩;obtain rfl:=hw.symm)
      go_ret
      exact ⟨by rw [hkn];rfl,rfl⟩
    · have Hb:=Hid.mk' hb
      have Hl:=Hid.mk' hl
      clear hl hb
      go_wp2_with (go_at_call 154;refine cb.mono ?_;clear cb;rintro e w1 ⟨rfl,hw⟩;obtain rfl:=hw.symm)
      go_roundw
      case rel=>exact ⟨k+1,hlt,by go_num,trivial,fun q hq=>by
       by_cases e:q=k
       · subst e;rw [←Hb.out];exact hn
       · exact Hl.out q (by omega)⟩
      case measure=>simp [intOf];omega
  · obtain rfl:k=3:=by omega
    have hkn:=knI_none n hl
    clear hl
    go_wp2
    go_ret
    exact ⟨by rw [hkn];rfl,rfl⟩
theorem cNum11_good (n s:Nat) (h:szB s=true) (hn:n<mstN s) (w:World):Calls Tryz.prog 85 #[.int .i64 n,.int .i64 s] w fun e w'=>∃ v,e = .returned (.tuple #[v,.int .i64 0])∧BytesIn w' v s (beN n s)∧Below w.heap.size w w':=by
 have c:=cSize_any s w
 rw [h] at c
 have hs:=szB_cases h
 have cm:=cMost_any s (by omega) w
 have cs:=cSplit_any n s (by omega) w
 obtain ⟨y,hy⟩:∃ y:Int,y=((mstN s - 1:Nat):Int):=⟨_,rfl⟩
 rw [←hy] at cm
 have t1:¬y<(n:Int):=by omega
 have t2:¬(n:Int)<0:=by omega
 clear hy hn hs
 go_enter Tryz.func85,Tryz.ntmps85
 go_wp2_with (first
  | (go_at_call 98;refine c.mono ?_;clear c;rintro e w1 ⟨rfl,hw⟩;obtain rfl:=hw.symm)
  | (go_at_call 99;refine cm.mono ?_;clear cm;rintro e w1 ⟨rfl,hw⟩;obtain rfl:=hw.symm)
  | (go_at_call 100;refine cs.mono ?_;clear cs;rintro e w1 ⟨v1,rfl,hv1,b1⟩))
 go_ret2
 exact ⟨v1,rfl,hv1,b1⟩
theorem cLen11_kind (n k q:Nat) (hk:k<3) (hkn:knI n=k) (hq:bits .or .i64 ((k*2 ^ lbN k:Nat):Int) (n:Int)=(q:Int)) (w:World):Calls Tryz.prog 141 #[.int .i64 n] w fun e w'=>∃ v,e = .returned (.tuple #[v,.int .i64 0])∧BytesIn w' v (2 ^ k) (beN q (2 ^ k))∧Below w.heap.size w w':=by
 have c:=cKind_any n w
 rw [hkn] at c
 clear hkn
 have cb:=cBits_any k hk w.drew
 have bd:Below w.heap.size w w.drew:=(Below.refl _ _).drew
 rcases (show k=0∨k=1∨k=2 by omega) with rfl | rfl | rfl
 · have cs:=cSplit_any q 1 (by decide) w.drew
   replace hq:bits .or .i64 (0:Int) (n:Int)=(q:Int):=hq
   clear hk
   go_enter Tryz.func141,Tryz.ntmps141
   go_wp2_with (go_at_call 153;refine c.mono ?_;clear c;rintro e w1 ⟨rfl,hw⟩;obtain rfl:=hw.symm)
   go_upto_region 4 with (fail)
   refine wp_region_held_drew (S:=fun u=>Below w.drew.heap.size w.drew u) (by kernel_rfl) (Below.refl _ _) (fun hS => ?_)
   refine tg 0 hS ?_
   (try simp only [pS])
   refine tg 1 hS ?_
   (try simp only [pS])
   refine tg 4 hS ?_
   (try simp only [pS])
   refine tg 6 hS ?_
   (try simp only [pS])
   refine tg 7 hS (v := .int .i64 1) ?_ (hy:=fun u _=>by kernel_rfl)
   (try simp only [pS])
   refine cl 2 cb ?_
   rintro e w2 ⟨rfl,hw⟩
   obtain rfl:=hw.symm
   refine ⟨_,rfl,hS,?_⟩
   (try simp only [pS])
   refine tg 3 hS (v := .int .i64 0) ?_ (hy:=fun u _=>by kernel_rfl)
   (try simp only [pS])
   refine tg 5 hS (v := .int .i64 (q:Int)) ?_ (hy := ?_)
   rotate_left
   · exact fun u _=>Eq.trans (b := .ok (.value (.int .i64 (bits .or .i64 (0:Int) (n:Int)))) u) (by kernel_rfl) (by rw [hq])
   (try simp only [pS])
   refine cn 8 cs ?_
   rintro e w3 ⟨v3,rfl,hv3,b3⟩
   refine ⟨_,rfl,b3,?_⟩
   (try simp only [pS])
   refine tg 9 (Below.refl _ _) ?_
   (try simp only [pS])
   refine tg 10 (Below.refl _ _) ?_
   (try simp only [pS])
   refine wpAnyH_done (by kernel_rfl) ?_ _
   go_wp2
   go_ret2
   exact ⟨_,rfl,hv3,below_next bd b3⟩
 · have cs:=cSplit_any q 2 (by decide) w.drew
   replace hq:bits .or .i64 (16384:Int) (n:Int)=(q:Int):=hq
   clear hk
   go_enter Tryz.func141,Tryz.ntmps141
   go_wp2_with (go_at_call 153;refine c.mono ?_;clear c;rintro e w1 ⟨rfl,hw⟩;obtain rfl:=hw.symm)
   go_upto_region 4 with (fail)
   refine wp_region_held_drew (S:=fun u=>Below w.drew.heap.size w.drew u) (by kernel_rfl) (Below.refl _ _) (fun hS => ?_)
   refine tg 0 hS ?_
   (try simp only [pS])
   refine tg 1 hS ?_
   (try simp only [pS])
   refine tg 4 hS ?_
   (try simp only [pS])
   refine tg 6 hS ?_
   (try simp only [pS])
   refine tg 7 hS (v := .int .i64 2) ?_ (hy:=fun u _=>by kernel_rfl)
   (try simp only [pS])
   refine cl 2 cb ?_
   rintro e w2 ⟨rfl,hw⟩
   obtain rfl:=hw.symm
   refine ⟨_,rfl,hS,?_⟩
   (try simp only [pS])
   refine tg 3 hS (v := .int .i64 16384) ?_ (hy:=fun u _=>by kernel_rfl)
   (try simp only [pS])
   refine tg 5 hS (v := .int .i64 (q:Int)) ?_ (hy := ?_)
   rotate_left
   · exact fun u _=>Eq.trans (b := .ok (.value (.int .i64 (bits .or .i64 (16384:Int) (n:Int)))) u) (by kernel_rfl) (by rw [hq])
   (try simp only [pS])
   refine cn 8 cs ?_
   rintro e w3 ⟨v3,rfl,hv3,b3⟩
   refine ⟨_,rfl,b3,?_⟩
   (try simp only [pS])
   refine tg 9 (Below.refl _ _) ?_
   (try simp only [pS])
   refine tg 10 (Below.refl _ _) ?_
   (try simp only [pS])
   refine wpAnyH_done (by kernel_rfl) ?_ _
   go_wp2
   go_ret2
   exact ⟨_,rfl,hv3,below_next bd b3⟩
 · have cs:=cSplit_any q 4 (by decide) w.drew
   replace hq:bits .or .i64 (2147483648:Int) (n:Int)=(q:Int):=hq
   clear hk
   go_enter Tryz.func141,Tryz.ntmps141
   go_wp2_with (go_at_call 153;refine c.mono ?_;clear c;rintro e w1 ⟨rfl,hw⟩;obtain rfl:=hw.symm)
   go_upto_region 4 with (fail)
   refine wp_region_held_drew (S:=fun u=>Below w.drew.heap.size w.drew u) (by kernel_rfl) (Below.refl _ _) (fun hS => ?_)
   refine tg 0 hS ?_
   (try simp only [pS])
   refine tg 1 hS ?_
   (try simp only [pS])
   refine tg 4 hS ?_
   (try simp only [pS])
   refine tg 6 hS ?_
   (try simp only [pS])
   refine tg 7 hS (v := .int .i64 4) ?_ (hy:=fun u _=>by kernel_rfl)
   (try simp only [pS])
   refine cl 2 cb ?_
   rintro e w2 ⟨rfl,hw⟩
   obtain rfl:=hw.symm
   refine ⟨_,rfl,hS,?_⟩
   (try simp only [pS])
   refine tg 3 hS (v := .int .i64 2147483648) ?_ (hy:=fun u _=>by kernel_rfl)
   (try simp only [pS])
   refine tg 5 hS (v := .int .i64 (q:Int)) ?_ (hy := ?_)
   rotate_left
   · exact fun u _=>Eq.trans (b := .ok (.value (.int .i64 (bits .or .i64 (2147483648:Int) (n:Int)))) u) (by kernel_rfl) (by rw [hq])
   (try simp only [pS])
   refine cn 8 cs ?_
   rintro e w3 ⟨v3,rfl,hv3,b3⟩
   refine ⟨_,rfl,b3,?_⟩
   (try simp only [pS])
   refine tg 9 (Below.refl _ _) ?_
   (try simp only [pS])
   refine tg 10 (Below.refl _ _) ?_
   (try simp only [pS])
   refine wpAnyH_done (by kernel_rfl) ?_ _
   go_wp2
   go_ret2
   exact ⟨_,rfl,hv3,below_next bd b3⟩
theorem cLen11_good (n:Nat) (hn:n<1073741824) (w:World):Calls Tryz.prog 141 #[.int .i64 n] w fun e w'=>∃ v,e = .returned (.tuple #[v,.int .i64 0])∧BytesIn w' v (lnS n) (lnB n)∧Below w.heap.size w w':=by
 unfold lnB
 by_cases h2:n<64
 · have e1:lnW n=n:=by unfold lnW;rw [if_pos h2]
   have e2:lnS n=2 ^ 0:=by unfold lnS;rw [if_pos h2]
   rw [e1,e2]
   refine cLen11_kind n 0 n (by decide) (knI_at _ 0 (by decide) (show (n:Int) / 64=0 by omega) (fun q hq=>absurd hq (Nat.not_lt_zero _))) ?_ w
   have:=i64_or_nat 0 n (by decide) (by omega)
   rw [Nat.zero_or] at this
   exact this
 · have g0:¬(n:Int) / 64=0:=by omega
   by_cases h3:n<16384
   · have e1:lnW n=n+16384:=by unfold lnW;rw [if_neg h2,if_pos h3]
     have e2:lnS n=2 ^ 1:=by unfold lnS;rw [if_neg h2,if_pos h3]
     rw [e1,e2]
     refine cLen11_kind n 1 (n+16384) (by decide) (knI_at _ 1 (by decide) (show (n:Int) / 16384=0 by omega) (fun q hq=>by
      obtain rfl:q=0:=by omega
      exact g0)) ?_ w
     have h:=Nat.two_pow_add_eq_or_of_lt (i:=14) (b:=n) h3 1
     have:=i64_or_nat 16384 n (by decide) (by omega)
     rw [←(show 16384+n=16384 ||| n from h),Nat.add_comm] at this
     exact this
   · have g1:¬(n:Int) / 16384=0:=by omega
     have e1:lnW n=n+2147483648:=by unfold lnW;rw [if_neg h2,if_neg h3]
     have e2:lnS n=2 ^ 2:=by unfold lnS;rw [if_neg h2,if_neg h3]
     rw [e1,e2]
     refine cLen11_kind n 2 (n+2147483648) (by decide) (knI_at _ 2 (by decide) (show (n:Int) / 1073741824=0 by omega) (fun q hq=>by
      rcases (show q=0∨q=1 by omega) with rfl | rfl
      · exact g0
      · exact g1)) ?_ w
     have h:=Nat.two_pow_add_eq_or_of_lt (i:=31) (b:=n) (by omega) 1
     have:=i64_or_nat 2147483648 n (by decide) (by omega)
     rw [←(show 2147483648+n=2147483648 ||| n from h),Nat.add_comm] at this
     exact this
end Go.Proofs.YtbbikhlbkpjpjaaGreatDoor
namespace Go.Proofs.YtbbikhlbkpjpjaaGreatDoor
open Go.RowKit
theorem parts_two (w:World) (v u:Value) (n m:Nat) (t s:Nat→Nat) (ty:TypeId) (h1:BytesIn w v n t) (h2:BytesIn w u m s):Parts (w.alloc (.cells #[v,u] ty)) w.heap.size 2 (n+m) (cat n t s):=by
 have b:=(Below.refl _ w).alloc (Nat.le_refl _) (.cells #[v,u] ty)
 refine ⟨fun i=>if i=0 then v else u,fun i=>if i=0 then 0 else if i=1 then n else n+m,rfl,rfl,fun i hi => ?_⟩
 rcases (show i=0∨i=1 by omega) with rfl | rfl
 · refine ⟨by simp,Nat.zero_le _,Nat.le_add_right _ _,?_⟩
   show BytesIn _ v (n - 0) (fun j=>cat n t s (0+j))
   rw [Nat.sub_zero]
   exact (h1.keep b).cong fun j hj=>by rw [Nat.zero_add,cat_left hj]
 · refine ⟨by simp,Nat.le_add_right _ _,Nat.le_refl _,?_⟩
   show BytesIn _ u (n+m - n) (fun j=>cat n t s (n+j))
   rw [Nat.add_sub_cancel_left]
   exact (h2.keep b).cong fun j hj=>by rw [cat_right]
theorem cVec11_size (v:Value) (n:Nat) (b:Nat→Nat) (hn:65536<n) (w:World) (hv:BytesIn w v n b):Calls Tryz.prog 128 #[v] w fun e w'=>e = .returned (.tuple #[.slice none 0 0,.int .i64 6])∧Below w.heap.size w w':=by
 obtain ⟨x1,c1,rfl,-,-,-⟩:=hv.src
 clear hv
 have t1:(65536:Int)<(n:Int):=by omega
 clear hn
 go_enter Tryz.func128,Tryz.ntmps128
 go_wp2
 go_ret2
 exact ⟨rfl,Below.refl _ _⟩
set_option maxRecDepth 20000 in
set_option maxHeartbeats 4000000 in
theorem cVec11_good (v:Value) (n:Nat) (b:Nat→Nat) (hn:n≤65536) (w:World) (hv:BytesIn w v n b):Calls Tryz.prog 128 #[v] w fun e w'=>∃ s,e = .returned (.tuple #[s,.int .i64 0])∧Own w.heap.size w' s (vcL n) (vcB n b)∧Below w.heap.size w w':=by
 have HV:=Hid.mk' hv
 obtain ⟨x1,c1,rfl,-,-,-⟩:=hv.src
 clear hv
 have cl:=cLen11_good n (by omega) w
 have hs:=lnS_pos n
 obtain ⟨z,hz⟩:∃ z:Int,z=(n:Int):=⟨_,rfl⟩
 have t1:¬(65536:Int)<(n:Int):=by omega
 have hL:vcL n≤1000000:=by unfold vcL;omega
 have h0:0<vcL n:=by unfold vcL;omega
 clear hn hz hs
 go_enter Tryz.func128,Tryz.ntmps128
 go_wp2_with (first
  | (go_at_call 141;refine cl.mono ?_;clear cl;rintro e w1 ⟨h1,rfl,hh1,b1⟩;(obtain ⟨x2,c2,e2,-,-,-⟩:=hh1.src);subst e2;(have hP:=parts_two w1 _ _ _ _ _ _ 22 hh1 (HV.out.keep b1));(have cc:=concat_parts w1.heap.size 2 (vcL n) (vcB n b) _ hP (by decide) hL h0);clear hP)
  | (go_at_call 142;refine cc.mono ?_;clear cc;rintro e w2 ⟨s,rfl,own2,b2⟩))
 go_ret2
 have ba:=below_next b1 ((Below.refl w1.heap.size w1).alloc (Nat.le_refl _) (.cells #[.slice x2 (lnS n) c2,.slice x1 n c1] 22))
 exact ⟨s,rfl,World.ownsRow.mono own2 ba.size,below_next ba b2⟩
end Go.Proofs.YtbbikhlbkpjpjaaGreatDoor
namespace Go.Proofs.YtbbikhlbkpjpjaaGreatDoor
open Go.RowKit
def sumN (pn:Nat→Nat):Nat→Nat
 | 0=>0
 | i+1=>sumN pn i+pn i
def allB (pn:Nat→Nat) (pb:Nat→Nat→Nat):Nat→Nat→Nat
 | 0=>fun _=>0
 | i+1=>cat (sumN pn i) (allB pn pb i) (pb i)
theorem sumN_le (pn:Nat→Nat) {i j:Nat} (h:i≤j):sumN pn i≤sumN pn j:=by
 induction h with
 | refl=>exact Nat.le_refl _
 | step _ ih=>exact Nat.le_trans ih (Nat.le_add_right _ _)
theorem allB_lt {pn:Nat→Nat} {pb:Nat→Nat→Nat} (h:∀ i j,pb i j<256):∀ i j,allB pn pb i j<256
 | 0,_=>Nat.zero_lt_succ _
 | i+1,j=>cat_lt (allB_lt h i) (h i) j
structure PiecesIn (w:World) (xo:Option Addr) (cnt:Nat) (pv:Nat→Value) (pn:Nat→Nat) (pb:Nat→Nat→Nat):Prop where
 cell:∀ q,q<cnt→∃ lb lo,xo=some ⟨lb,lo,none⟩∧∀ i,i<cnt→w.cell? ⟨lb,lo+i,none⟩=some (pv i)
 each:∀ i,i<cnt→BytesIn w (pv i) (pn i) (pb i)
 byte:∀ i j,pb i j<256
theorem PiecesIn.keep {w w':World} {xo:Option Addr} {cnt:Nat} {pv:Nat→Value} {pn:Nat→Nat} {pb:Nat→Nat→Nat} (h:PiecesIn w xo cnt pv pn pb) (hb:Below w.heap.size w w'):PiecesIn w' xo cnt pv pn pb:=by
 refine ⟨fun q hq => ?_,fun i hi=>(h.each i hi).keep hb,h.byte⟩
 obtain ⟨lb,lo,rfl,hc⟩:=h.cell q hq
 exact ⟨lb,lo,rfl,fun i hi=>(hb.cell (p:=⟨lb,lo+i,none⟩) (block_lt_of_cell (hc i hi))).trans (hc i hi)⟩
def vsL (pn:Nat→Nat):Nat→Nat:=sumN (fun i=>vcL (pn i))
def vsB (pn:Nat→Nat) (pb:Nat→Nat→Nat):Nat→Nat→Nat:=allB (fun i=>vcL (pn i)) (fun i=>vcB (pn i) (pb i))
theorem vsL_le (pn:Nat→Nat):∀ n,vsL pn n≤sumN pn n+4*n
 | 0=>Nat.le_refl _
 | n+1=>by
  have h1:=vsL_le pn n
  have h2:=lnS_pos (pn n)
  show vsL pn n+(lnS (pn n)+pn n)≤sumN pn n+pn n+4*(n+1)
  omega
def bigN (pn:Nat→Nat):Nat→Bool
 | 0=>false
 | n+1=>bigN pn n || decide (65536<pn n)
end Go.Proofs.YtbbikhlbkpjpjaaGreatDoor
namespace Go.Proofs.YtbbikhlbkpjpjaaGreatDoor
open Go.RowKit
theorem bigN_up {pn:Nat→Nat}:∀ {n m},n≤m→bigN pn n=true→bigN pn m=true
 | n,0,h,hb=>by
  obtain rfl:n=0:=by omega
  exact hb
 | n,m+1,h,hb=>by
  by_cases e:n=m+1
  · subst e;exact hb
  · show (bigN pn m || _)=true
    rw [bigN_up (by omega:n≤m) hb];rfl
set_option maxRecDepth 20000 in
set_option maxHeartbeats 4000000 in
theorem cVecs_any (xo:Option Addr) (cnt cap:Nat) (pv:Nat→Value) (pn:Nat→Nat) (pb:Nat→Nat→Nat) (hcnt:cnt≤1048576) (hsum:sumN pn cnt≤1048576) (w:World) (hP:PiecesIn w xo cnt pv pn pb) :
 Calls Tryz.prog 113 #[.slice xo cnt cap] w fun e w'=>((bigN pn cnt=true∧e = .returned (.tuple #[.slice none 0 0,.int .i64 6]))∨(bigN pn cnt=false∧∃ v,e = .returned (.tuple #[v,.int .i64 0])∧Own w.heap.size w' v (vsL pn cnt) (vsB pn pb cnt)))∧Below w.heap.size w w':=by
 have hall:=vsL_le pn cnt
 go_enter Tryz.func113,Tryz.ntmps113
 go_wp2
 go_loopw [4,11] (fun al i wr=>∃ q:Nat,q≤cnt∧i = .int .i64 q∧(∃ xa ca,al = .slice xa (vsL pn q) ca∧Own w.heap.size wr (.slice xa (vsL pn q) ca) (vsL pn q) (vsB pn pb q))∧bigN pn q=false∧Below w.heap.size w wr) (fun _ i _=>cnt - (intOf i).toNat)
 case atStart=>exact ⟨0,Nat.zero_le _,rfl,⟨none,0,rfl,Own.nil _ _ _⟩,rfl,Below.refl _ _⟩
 case round =>
  obtain ⟨q,hq,rfl,⟨xa,ca,rfl,own⟩,hbg,hb⟩:=hrel
  by_cases hlt:q<cnt
  · obtain ⟨lb,lo,rfl,hcell⟩:=(hP.keep hb).cell q hlt
    have hBq:=(hP.keep hb).each q hlt
    have hc0:=hcell q hlt
    have hqi:(0:Int)≤(q:Int)∧(q:Int)<cnt:=by omega
    have hq1:(q:Int)<(cnt:Int):=by omega
    by_cases hz:65536<pn q
    · have hv:=cVec11_size (pv q) (pn q) (pb q) hz wr hBq
      have hB1:bigN pn cnt=true:=bigN_up hlt (by show (bigN pn q || decide (65536<pn q))=true;rw [decide_eq_true hz,Bool.or_true])
      obtain ⟨vv,hvv⟩:∃ vv,vv=pv q:=⟨_,rfl⟩
      rw [←hvv] at hv hc0
      clear hvv hBq hcell hP hz own hbg
      go_wp2_with (go_at_call 128;refine hv.mono ?_;clear hv;rintro e w1 ⟨rfl,b1⟩)
      go_ret2
      exact ⟨.inl ⟨hB1,rfl⟩,below_next hb b1⟩
    have hv:=cVec11_good (pv q) (pn q) (pb q) (by omega) wr hBq
    have hbg2:bigN pn (q+1)=false:=by show (bigN pn q || decide (65536<pn q))=false;rw [hbg,decide_eq_false hz];rfl
    have HN:Hid (vsL pn (q+1)=vsL pn q+vcL (pn q)∧vsB pn pb (q+1)=cat (vsL pn q) (vsB pn pb q) (vcB (pn q) (pb q))):=Hid.mk' ⟨rfl,rfl⟩
    have hle:vsL pn (q+1)≤vsL pn cnt:=sumN_le _ hlt
    rw [HN.out.1] at hle
    obtain ⟨T,hT⟩:∃ T,T=vsL pn q:=⟨_,rfl⟩
    obtain ⟨F,hF⟩:∃ F,F=vsB pn pb q:=⟨_,rfl⟩
    obtain ⟨m,hm⟩:∃ m,m=vcL (pn q):=⟨_,rfl⟩
    obtain ⟨G,hG⟩:∃ G,G=vcB (pn q) (pb q):=⟨_,rfl⟩
    obtain ⟨vv,hvv⟩:∃ vv,vv=pv q:=⟨_,rfl⟩
    rw [←hT,←hF,←hm,←hG] at HN
    rw [←hT,←hm] at hle
    rw [←hT,←hF] at own
    rw [←hm,←hG,←hvv] at hv
    rw [←hvv] at hc0
    rw [←hT]
    have hTm:T+m≤140737488355328:=by omega
    clear hT hF hm hG hvv hBq hcell hP hle hz hbg
    go_wp2_with (first
     | (go_at_call 128;refine hv.mono ?_;clear hv;rintro e w1 ⟨s1,rfl,own1,b1⟩;(obtain ⟨x1,c1,hs1,hxn1,hc1,hsrc1⟩:=(BytesIn.of_own own1).src);subst hs1;have hsrc:=hsrc1 w1 (Below.refl _ _);have ownW:=own.below b1;have hbw1:=below_next hb b1)
     | (at_builtin;refine wpList_append_bytes rfl (.tmp 23) (.tmp 24) rfl w.heap.size _ T F rfl ownW x1 m c1 G rfl hsrc hxn1 hTm hbw1.size ?_;intro v2 w2 own2 grow2;have hbw2:=Own.grown hbw1 grow2 ownW (Nat.le_refl _) hbw1.size;(obtain ⟨x2,c2,hv2⟩:=own2.slice);subst hv2))
    go_roundw
    case rel=>exact ⟨q+1,hlt,by go_num,⟨x2,c2,by rw [HN.out.1],by rw [HN.out.1,HN.out.2];exact own2⟩,hbg2,hbw2⟩
    case measure=>simp [intOf];omega
  · obtain rfl:q=cnt:=by omega
    have hq1:¬(q:Int)<(q:Int):=by omega
    go_wp2
    go_ret2
    exact ⟨⟨_,rfl,own⟩,hb⟩
end Go.Proofs.YtbbikhlbkpjpjaaGreatDoor
namespace Go.Proofs.YtbbikhlbkpjpjaaGreatDoor
open Go.RowKit
theorem cVecs_good (xo:Option Addr) (cnt cap:Nat) (pv:Nat→Value) (pn:Nat→Nat) (pb:Nat→Nat→Nat) (hbig:bigN pn cnt=false) (hcnt:cnt≤1048576) (hsum:sumN pn cnt≤1048576) (w:World) (hP:PiecesIn w xo cnt pv pn pb) :
 Calls Tryz.prog 113 #[.slice xo cnt cap] w fun e w'=>∃ v,e = .returned (.tuple #[v,.int .i64 0])∧Own w.heap.size w' v (vsL pn cnt) (vsB pn pb cnt)∧Below w.heap.size w w' :=
 (cVecs_any xo cnt cap pv pn pb hcnt hsum w hP).mono fun e w' ⟨h,b⟩=>h.elim (fun h=>by rw [hbig] at h;cases h.1) (fun ⟨_,v,h1,h2⟩=>⟨v,h1,h2,b⟩)
end Go.Proofs.YtbbikhlbkpjpjaaGreatDoor
