/- What the proof stands on: G9C, G9F, G9D, G9G, G9J. -/
import Derived.Test.YtcgkajlehdgpoaaGreatDoorA8BlcM
import Derived.Test.YtcgkajlehdgpoaaGreatDoorHHmacM
import Derived.Test.YtcgkajlehdgpoaaGreatDoorZFM
namespace Go.Proofs.YtcgkajlehdgpoaaGreatDoor
open Go.RowKit
theorem RW.set0 {w:World} {g a b:Nat} (r:RW w g 0 (b2 a b)) (y:Nat):RW (w.setCell ⟨g,0,none⟩ (.int .u64 y)) g 0 (b2 y b):=by
 have l:RW w g 0 [.int .u64 a]:=RW.left (ds:=[.int .u64 b]) r
 have q:RW w g (0+1) [.int .u64 b]:=RW.right (cs:=[.int .u64 a]) r
 exact (l.stored [.int .u64 y] rfl).join (q.far g 0 [.int .u64 y] (.inr (.inr (Nat.le_refl _))))
theorem RW.set1 {w:World} {g a b:Nat} (r:RW w g 0 (b2 a b)) (y:Nat):RW (w.setCell ⟨g,1,none⟩ (.int .u64 y)) g 0 (b2 a y):=by
 have l:RW w g 0 [.int .u64 a]:=RW.left (ds:=[.int .u64 b]) r
 have q:RW w g (0+1) [.int .u64 b]:=RW.right (cs:=[.int .u64 a]) r
 exact (l.far g 1 [.int .u64 y] (.inr (.inl (Nat.le_refl _)))).join (q.stored [.int .u64 y] rfl)
abbrev RV (w:World) (g:Nat) (v:V8):Prop:=RW w g 0 (b2 (wd v 0) (wd v 64))
theorem RV.next {w:World} {g:Nat} {X:Nat→Nat} {k:Nat} (r:RV w g (toV (gpadN k X))) (hX:∀ j,X j<256) (hk:k<16):RV (w.setCell ⟨g,k / 8,none⟩ (.int .u64 ((wd (toV (gpadN k X)) (64*(k / 8)) ||| X k*2 ^ (56 - 8*(k%8))%18446744073709551616:Nat):Int))) g (toV (gpadN (k+1) X)):=by
 rw [←pad_word X hX k hk]
 unfold RV
 by_cases h:k<8
 · rw [show k / 8=0 by omega,pad_other X k 64 hk (.inr ⟨rfl,h⟩)]
   exact r.set0 _
 · rw [show k / 8=1 by omega,pad_other X k 0 hk (.inl ⟨rfl,by omega⟩)]
   exact r.set1 _
theorem RW.cellAt {w:World} {g a b q:Nat} (r:RW w g 0 (b2 a b)) (x:Nat) (hx:q=0∧x=a∨q=1∧x=b):w.cell? ⟨g,q,none⟩=some (.int .u64 x)∧w.frozen? ⟨g,q,none⟩=false:=by
 have h1:=r.range q (.int .u64 x) (by rcases hx with ⟨rfl,rfl⟩ | ⟨rfl,rfl⟩ <;> rfl)
 have h2:=(r.there q (by show q<2;omega)).2
 rw [Nat.zero_add] at h1 h2
 exact ⟨h1,h2⟩
set_option maxRecDepth 20000 in
set_option maxHeartbeats 2000000 in
theorem gblockOf_any (v:Value) (n:Nat) (X:Nat→Nat) (hn:n≤16) (hX:∀ j,X j<256) (w:World) (hv:BytesIn w v n X) :
 Calls Tryz.prog 70 #[v] w fun e w'=>e = .returned (blV (toV (gpadN n X)))∧Below w.heap.size w w':=by
 have cs:=fun k hk W=>shiftOf_any k hk W
 obtain ⟨xv,cv,rfl,-,-,-⟩:=hv.src
 have r0:RW ((w.alloc (.cells #[.int .u64 0,.int .u64 0] 101)).alloc (.cells #[.int .u64 0,.int .u64 0] 101)) w.heap.size 0 (b2 0 0):=(RW.fresh w (b2 0 0) 101).still ((Below.refl _ _).alloc (Nat.le_refl _) _)
 have r1:=RW.fresh (w.alloc (.cells #[.int .u64 0,.int .u64 0] 101)) (b2 0 0) 101
 have b1:Below w.heap.size w ((w.alloc (.cells #[.int .u64 0,.int .u64 0] 101)).alloc (.cells #[.int .u64 0,.int .u64 0] 101)):=((Below.refl _ _).alloc (Nat.le_refl _) _).alloc (by simp) _
 rw [World.size_alloc] at r1
 have r1':RV ((w.alloc (.cells #[.int .u64 0,.int .u64 0] 101)).alloc (.cells #[.int .u64 0,.int .u64 0] 101)) (w.heap.size+1) (toV (gpadN 0 X)):=by
  rw [pad_none];unfold RV;rw [wd_zero,wd_zero];exact r1
 obtain ⟨F,hF⟩:∃ F,F=toV (gpadN n X):=⟨_,rfl⟩
 rw [←hF]
 have HF:=Hid.mk' hF
 unfold blV
 obtain ⟨fx,hx⟩:∃ x,x=wd F 0:=⟨_,rfl⟩
 obtain ⟨fy,hy⟩:∃ y,y=wd F 64:=⟨_,rfl⟩
 rw [←hx,←hy]
 have Hx:=Hid.mk' hx
 have Hy:=Hid.mk' hy
 clear hx hy
 clear r1 hF
 go_enter Tryz.func70,Tryz.ntmps70
 go_wp2
 generalize (w.alloc (.cells #[.int .u64 0,.int .u64 0] 101)).alloc (.cells #[.int .u64 0,.int .u64 0] 101)=V at *
 go_loopw [8] (fun i wr=>∃ k:Nat,k≤n∧i = .int .i64 k∧RV wr (w.heap.size+1) (toV (gpadN k X))∧RW wr w.heap.size 0 (b2 0 0)∧Below w.heap.size w wr) (fun i _=>n - (intOf i).toNat)
 case atStart=>exact ⟨0,Nat.zero_le _,rfl,r1',r0,b1⟩
 case round =>
  clear r1' r0 b1
  obtain ⟨k,hk,rfl,hA,r,b⟩:=hrel
  by_cases hlt:k<n
  · clear Hx Hy
    obtain ⟨bb,ob,cb,hvt,hbb,-,hcell⟩:=hv.resolve_left (fun ⟨_,_,h⟩=>by omega)
    cases hvt
    have hlt':(k:Int)<(n:Int):=by omega
    have hs:=hA.next hX (show k<16 by omega)
    obtain ⟨q,hq⟩:∃ q,q=k / 8:=⟨_,rfl⟩
    obtain ⟨sh,hsh⟩:∃ sh,sh=56 - 8*(k%8):=⟨_,rfl⟩
    obtain ⟨x,hx⟩:∃ x,x=wd (toV (gpadN k X)) (64*q):=⟨_,rfl⟩
    obtain ⟨hc,hcf⟩:=hA.cellAt (q:=q) x (by
     rcases (show q=0∨q=1 by omega) with rfl | rfl
     · exact .inl ⟨rfl,hx⟩
     · exact .inr ⟨rfl,hx⟩)
    have cs1:=cs k (by omega)
    rw [←hsh] at cs1
    have hxl:x<18446744073709551616:=by rw [hx];exact wd_lt _ _
    rw [←hq,←hx,←hsh] at hs
    have ho:=u64_or_nat x (X k*2 ^ sh%18446744073709551616) hxl (Nat.mod_lt _ (by decide))
    obtain ⟨y,hy⟩:∃ y,y=x ||| X k*2 ^ sh%18446744073709551616:=⟨_,rfl⟩
    rw [←hy] at hs ho
    rw [show ((X k*2 ^ sh%18446744073709551616:Nat):Int)=IntKind.u64.wrap (IntKind.u64.wrap (X k:Int)*2 ^ sh) by
     rw [show IntKind.u64.wrap (X k:Int)=(X k:Int) from (by
      show (X k:Int)%18446744073709551616=_
      have:=hX k
      omega)]
     show _=(X k:Int)*2 ^ sh%18446744073709551616
     simp] at ho
    have rk:wr.cell? ⟨bb,ob+k,none⟩=some (.int .u8 (X k)):=(b.cell (p:=⟨bb,ob+k,none⟩) hbb).trans (hcell k hlt)
    have hxk:=hX k
    have t1:(k:Int).tdiv 8=(q:Int):=by rw [Int.tdiv_eq_ediv_of_nonneg (by omega)];omega
    have t2:(k:Int) / 8=(q:Int):=by omega
    have t6:IntKind.i64.wrap ((k:Int).tdiv 8)=(q:Int):=by rw [t1];simp only [IntKind.wrap_i64];omega
    have t7:IntKind.i64.wrap (q:Int)=(q:Int):=by simp only [IntKind.wrap_i64];omega
    have t3:(0:Int)≤(q:Int)∧(q:Int)<2:=by omega
    have t4:(0:Int)≤(k:Int)∧(k:Int)<(n:Int):=by omega
    have t5:(0:Int)≤(sh:Int)∧(sh:Int)<64:=by omega
    clear hq hsh hx cs hxl hv hy
    go_wp2
    go_region_with (go_at_call 96;refine (cs1 _).mono ?_;clear cs1;rintro e w1 ⟨rfl,rfl⟩)
    all_goals
     go_wp2
     go_roundw
     case rel=>exact ⟨k+1,hlt,by go_num,hs.drew,(r.far (w.heap.size+1) q [.int .u64 y] (.inl (by omega))).drew,(b.setCell (Nat.le_succ _) _).drew⟩
     case measure=>simp [intOf];omega
  · obtain rfl:k=n:=by omega
    unfold RV at hA
    rw [←HF.out,←Hx.out,←Hy.out] at hA
    clear cs HF hv hX Hx Hy
    have t0:wr.there w.heap.size 0 (b2 fx fy).toArray.size:=r.there
    go_wp2_with (first
     | (refine wpList_load_mid rfl 101 _ rfl (w.heap.size+1) 0 rfl (b2 fx fy) _ hA.range Tryz.underlying101 rfl info2 ?_)
     | (refine wpList_store_mid rfl 101 _ _ rfl w.heap.size 0 (b2 fx fy).toArray rfl rfl t0 (info2a fx fy) (one2 fx fy) ?_))
    (try simp only [Exit.inBlock,Exit.then])
    refine bodyPost_ret (results_cell_mid Tryz.results70 _ _ w.heap.size 0 (b2 fx fy) _ rfl (r.stored (b2 fx fy) rfl).range Tryz.underlying101 rfl info2) rfl ⟨rfl,?_⟩
    exact below_setCells (Nat.le_refl _) _ _ _ b
end Go.Proofs.YtcgkajlehdgpoaaGreatDoor
namespace Go.Proofs.YtcgkajlehdgpoaaGreatDoor
open Go.RowKit Go.Shelf
attribute [local go_sem] Oper.semAt_some
set_option maxHeartbeats 1000000 in
theorem blocks_any (xo:Option Addr) (n c:Nat) (w:World) :
 Calls Tryz.prog 90 #[.slice xo n c] w fun e w'=>e = .returned (.func (.func 117) #[] #[.pointer (some ⟨w.heap.size,0,none⟩)])∧w'=w.alloc (.cells #[.slice xo n c] 74):=by
 go_enter Tryz.func90,Tryz.ntmps90
 go_wp2
 go_ret
 exact ⟨rfl,rfl⟩
def nb (n:Nat):Nat:=(n+15) / 16
def blkT (n:Nat) (X:Nat→Nat) (k:Nat):V8:=toV (fun j=>gpadN n X (16*k+j))
theorem blkT_min (n:Nat) (X:Nat→Nat) (k m:Nat) (hm:m=16∧16*k+16≤n∨16*k+m=n∧m≤16):toV (gpadN m (fun j=>X (16*k+j)))=blkT n X k:=by
 unfold blkT
 exact toV_S fun j hj=>by
  unfold gpadN
  by_cases h:j<m
  · rw [if_pos h,if_pos (by omega)]
  · rw [if_neg h,if_neg (by omega)]
set_option maxRecDepth 100000 in
set_option maxHeartbeats 4000000 in
theorem giter_in (n:Nat) (l pb lb L:Nat) (N:Nat→Nat) (X:Nat→Nat→Nat) (hX:∀ i j,X i j<256) (U:Nat→Value) (Inv:Nat→Nat→World→Prop)
 (hlist:∀ i k W,Inv i k W→W.cell? ⟨pb,0,none⟩=some (.slice (some ⟨lb,0,none⟩) L L))
 (hcell:∀ i k W,Inv i k W→∀ j,j<L→W.cell? ⟨lb,j,none⟩=some (U j))
 (hbytes:∀ i k W,Inv i k W→∀ j,j<L→BytesIn W (U j) (N j) (X j))
 (hN:∀ j,N j<4611686018427387904) (hLn:L<1000)
 (hkeep:∀ i k W W',Inv i k W→Below W.heap.size W W'→Inv i k W')
 (hnext:∀ i W,Inv i (nb (N i)) W→Inv (i+1) 0 W)
 (hY:∀ i k W1,i<L→16*k<N i→Inv i k W1→YieldAt Fence.wide (n - 1) Tryz.prog l #[blV (blkT (N i) (X i) k)] W1 fun e W'=>e = .returned (.bool true)∧Inv i (k+1) W')
 (W:World) (h0:Inv 0 0 W) :
 CallsIn Fence.wide n Tryz.prog 117 #[.func (.yield l) #[] #[],.pointer (some ⟨pb,0,none⟩)] W fun e W'=>(∃ v,e = .returned v)∧Inv L 0 W':=by
 have c0:=hlist 0 0 W h0
 refine callsIn_of_wp Tryz.func117 rfl trivial ?_ rfl
 simp only [Tryz.ntmps117,List.size_toArray,List.length_cons,List.length_nil,Nat.reduceAdd,Nat.reduceSub,Array.replicate_succ,Array.replicate_zero,List.push_toArray,List.append_toArray,List.nil_append,List.cons_append]
 gi_wp2
 clear c0
 gi_loopw [8] (fun s wr=>∃ i:Nat,i≤L∧s = .int .i64 i∧Inv i 0 wr) (fun s _=>L - (intOf s).toNat)
 case atStart=>exact ⟨0,Nat.zero_le _,rfl,h0⟩
 case round =>
  clear h0
  obtain ⟨i,hi,rfl,hI⟩:=hrel
  by_cases hiL:i<L
  · have cl:=hcell i 0 wr hI i hiL
    have hb0:=hbytes i 0 wr hI i hiL
    have hYi:=fun k W1=>hY i k W1 hiL
    have hlt':(i:Int)<(L:Int):=by omega
    have hi0:(0:Int)≤(i:Int)∧(i:Int)<(L:Int):=by omega
    have hNi:=hN i
    obtain ⟨xo,cu,hU,-,hcap,-⟩:=hb0.src
    rw [hU] at cl
    have hbi:∀ k W,Inv i k W→BytesIn W (.slice xo (N i) cu) (N i) (X i):=fun k W h=>by rw [←hU];exact hbytes i k W h i hiL
    have hXi:=hX i
    have hki:=hkeep i
    have hni:=hnext i
    generalize N i=M at *
    generalize X i=Y at *
    clear hY hb0 hU hbytes hX hN hkeep hnext hcell hlist
    gi_wp2
    gi_loopw [5] (fun s wq=>∃ k A:Nat,A=16*k∧A<M+16∧s = .int .i64 A∧Inv i k wq) (fun s _=>M+16 - (intOf s).toNat)
    case atStart=>exact ⟨0,0,rfl,by omega,rfl,hI⟩
    case round =>
     clear hI cl
     obtain ⟨k,A,hA,hAl,rfl,hI⟩:=hrel
     by_cases hlt:A<M
     · obtain ⟨bb,ob,cb,hv,hbb,-,hc⟩:=(hbi k wr hI).resolve_left (fun ⟨_,_,h⟩=>by omega)
       cases hv
       have hAM:(A:Int)<(M:Int):=by omega
       have a1:(0:Int)≤(A:Int):=by omega
       have e1:IntKind.i64.wrap ((A:Int)+16)=(A:Int)+16:=by simp only [IntKind.wrap_i64];omega
       obtain ⟨m,hm,hmc⟩:∃ m,(m=16∧A+16≤M∨A+m=M∧m<16)∧m≤16:=by
        by_cases h:A+16≤M
        · exact ⟨16,.inl ⟨rfl,h⟩,Nat.le_refl _⟩
        · exact ⟨M - A,.inr ⟨by omega,by omega⟩,by omega⟩
       have eb:toV (gpadN m (fun j=>Y (A+j)))=blkT M Y k:=by rw [hA];exact blkT_min M Y k m (by omega)
       have cb:=gblockOf_any (.slice (some ⟨bb,ob+A,none⟩) m (cu - A)) m (fun j=>Y (A+j)) hmc (fun j=>hXi _) wr (.inr ⟨_,_,_,rfl,hbb,by omega,fun j hj=>by
        have:=hc (A+j) (by omega)
        rwa [←Nat.add_assoc] at this⟩)
       rw [eb] at cb
       have hk16:16*k<M:=by omega
       have hyy:=fun W1=>hYi k W1 hk16
       have hkk:=hki k wr
       unfold blV at *
       generalize wd (blkT M Y k) 0=fx at *
       generalize wd (blkT M Y k) 64=fy at *
       have hcu:¬cu=A:=by omega
       have hA2:A+16=16*(k+1):=by omega
       have hA3:A+16<M+16:=by omega
       have HA:=Hid.mk' hA2
       clear hA hA2 eb hbi hc hYi hki hni hXi hk16
       rcases hm with ⟨rfl,hm⟩ | ⟨hm,hm16⟩
       · have hmi:(A:Int)+16≤(M:Int):=by omega
         have e2:A+16 - A=16:=by omega
         have e4:(A:Int)+16≤(cu:Int):=by omega
         gi_wp2_with (refine ⟨trivial,(fun h=>by cases h),?_⟩;gi_at_call 70;refine (callsIn_wide.2 cb).mono ?_;clear cb;rintro e w1 ⟨rfl,hb1⟩;(replace hI:=hkk w1 hI hb1);(obtain ⟨fn,tmps,assign,body,hy,hR⟩:=hyy w1 hI))
         refine ⟨(fun h=>by cases h),hR.mono ?_⟩
         rintro e W' ⟨rfl,hI'⟩
         clear hy hR hyy hkk hI
         gi_wp2
         go_roundw
         case rel=>exact ⟨k+1,A+16,HA.out,hA3,by go_num,hI'⟩
         case measure=>simp [intOf];omega
       · have hmi:¬(A:Int)+16≤(M:Int):=by omega
         have hmj:(M:Int)<(A:Int)+16:=by omega
         have hmk:(M:Int)≤(A:Int)+16:=by omega
         have e2:M - A=m:=by omega
         have e4:(M:Int)≤(cu:Int):=by omega
         have e5:(A:Int)≤(M:Int):=by omega
         clear hm hm16
         gi_wp2_with (refine ⟨trivial,(fun h=>by cases h),?_⟩;gi_at_call 70;refine (callsIn_wide.2 cb).mono ?_;clear cb;rintro e w1 ⟨rfl,hb1⟩;(replace hI:=hkk w1 hI hb1);(obtain ⟨fn,tmps,assign,body,hy,hR⟩:=hyy w1 hI))
         refine ⟨(fun h=>by cases h),hR.mono ?_⟩
         rintro e W' ⟨rfl,hI'⟩
         clear hy hR hyy hkk hI
         gi_wp2
         go_roundw
         case rel=>exact ⟨k+1,A+16,HA.out,hA3,by go_num,hI'⟩
         case measure=>simp [intOf];omega
     · obtain rfl:k=nb M:=by unfold nb;omega
       replace hI:=hni wr hI
       have hlt':¬(A:Int)<(M:Int):=by omega
       clear hA hni hYi hbi
       gi_wp2
       go_roundw
       case rel=>exact ⟨i+1,hiL,by go_num,hI⟩
       case measure=>simp [intOf];omega
  · obtain rfl:i=L:=by omega
    have hlt':¬(i:Int)<(i:Int):=by omega
    clear hY hbytes hX hN hkeep hnext hcell hlist
    gi_wp2
    refine bodyPost_end (results_none rfl _ _ _) rfl ?_
    exact ⟨⟨_,rfl⟩,hI⟩
end Go.Proofs.YtcgkajlehdgpoaaGreatDoor
namespace Go.Proofs.YtcgkajlehdgpoaaGreatDoor
open Go.RowKit
theorem index_2 (x y k:Nat) (hk:k<2) (W:World):(Instr.index 101 (.agg #[.int .u64 x,.int .u64 y]) (.int .i64 k)).run Tryz.prog W = .ok (.int .u64 (if k=0 then x else y:Nat)) W:=by
 rcases (show k=0∨k=1 by omega) with rfl | rfl
 · kernel_rfl
 · kernel_rfl
theorem neg01 (b:Bool):IntKind.u64.wrap (-(if b then 1 else 0:Int))=(if b then 18446744073709551615 else 0:Nat):=by cases b <;> rfl
theorem and_all (x:Nat) (hx:x<18446744073709551616) (b:Bool):bits .and .u64 (x:Int) ((if b then 18446744073709551615 else 0:Nat):Int)=((if b then x else 0:Nat):Int):=by
 rw [u64_and_nat x _ hx (by split <;> decide)]
 cases b
 · simp
 · congr 1
   show x &&& (2 ^ 64 - 1)=x
   rw [Nat.and_two_pow_sub_one_eq_mod]
   exact Nat.mod_eq_of_lt hx
theorem step_words (a b:V8) (i:Nat):wd (gT b (i+1) a) 0=wd (gT b i a) 0 ^^^ (if b.getLsbD i then wd (gXp i a) 0 else 0)∧wd (gT b (i+1) a) 64=wd (gT b i a) 64 ^^^ (if b.getLsbD i then wd (gXp i a) 64 else 0):=by
 have h:∀ o,wd (gT b (i+1) a) o=wd (gT b i a) o ^^^ (if b.getLsbD i then wd (gXp i a) o else 0):=fun o=>by
  show wd (gT b i a ^^^ (if b.getLsbD i then gXp i a else vZ)) o=_
  rw [wd_xor]
  by_cases h:b.getLsbD i
  · rw [if_pos h,if_pos h]
  · rw [if_neg h,if_neg h,wd_zero]
 exact ⟨h 0,h 64⟩
theorem x_hi (v:V8):bits .xor .u64 ((wd v 0:Int) / 2) (bits .and .u64 16212958658533785600 (IntKind.u64.wrap (-bits .and .u64 (wd v 64:Int) 1)))=((wd (gX v) 0:Nat):Int):=by
 have h1:bits .and .u64 (wd v 64:Int) 1=(if v.getLsbD 127 then 1 else 0:Int):=by
  rw [show (1:Int)=((1:Nat):Int) from rfl,u64_and_nat _ _ (wd_lt _ _) (by decide),wd_low]
  cases v.getLsbD 127 <;> rfl
 have hl:=wd_lt v 0
 rw [h1,neg01,show (16212958658533785600:Int)=((16212958658533785600:Nat):Int) from rfl,and_all _ (by decide),show (wd v 0:Int) / 2=((wd v 0 / 2:Nat):Int) by omega,u64_xor_nat _ _ (by omega) (by split <;> decide),gX_hi]
theorem x_lo (v:V8):bits .or .u64 ((wd v 64:Int) / 2) (IntKind.u64.wrap ((wd v 0:Int)*9223372036854775808))=((wd (gX v) 64:Nat):Int):=by
 have hl:=wd_lt v 64
 rw [show IntKind.u64.wrap ((wd v 0:Int)*9223372036854775808)=((wd v 0*9223372036854775808%18446744073709551616:Nat):Int) from (by show (wd v 0:Int)*9223372036854775808%18446744073709551616=_;omega),show (wd v 64:Int) / 2=((wd v 64 / 2:Nat):Int) by omega,u64_or_nat _ _ (by omega) (Nat.mod_lt _ (by decide)),gX_lo]
theorem x_sum (s x W:Nat) (b:Bool) (hs:s<18446744073709551616) (hx:x<18446744073709551616) (hW:W / 9223372036854775808=if b then 1 else 0):bits .xor .u64 (s:Int) (bits .and .u64 (x:Int) (IntKind.u64.wrap (-((W:Int) / 9223372036854775808))))=((s ^^^ (if b then x else 0):Nat):Int):=by
 have h:(W:Int) / 9223372036854775808=(if b then 1 else 0:Int):=by
  have:(W:Int) / 9223372036854775808=((W / 9223372036854775808:Nat):Int):=by omega
  rw [this,hW]
  cases b <;> rfl
 rw [h,neg01,and_all _ hx,u64_xor_nat _ _ hs (by
  cases b
  · exact (by decide:0<18446744073709551616)
  · exact hx)]
set_option maxRecDepth 20000 in
set_option maxHeartbeats 4000000 in
theorem gtimes_any (a b:V8) (w:World) :
 Calls Tryz.prog 119 #[blV a,blV b] w fun e w'=>e = .returned (blV (gTm a b))∧Below w.heap.size w w':=by
 unfold blV
 obtain ⟨fx,hx⟩:∃ x,x=wd (gTm a b) 0:=⟨_,rfl⟩
 obtain ⟨fy,hy⟩:∃ y,y=wd (gTm a b) 64:=⟨_,rfl⟩
 rw [←hx,←hy]
 have Hx:=Hid.mk' hx
 have Hy:=Hid.mk' hy
 clear hx hy
 obtain ⟨a0,ha0⟩:∃ x,x=wd a 0:=⟨_,rfl⟩
 obtain ⟨a1,ha1⟩:∃ x,x=wd a 64:=⟨_,rfl⟩
 obtain ⟨c0,hc0⟩:∃ x,x=wd b 0:=⟨_,rfl⟩
 obtain ⟨c1,hc1⟩:∃ x,x=wd b 64:=⟨_,rfl⟩
 rw [←ha0,←ha1,←hc0,←hc1]
 have Ha0:=Hid.mk' ha0
 have Ha1:=Hid.mk' ha1
 have Hc0:=Hid.mk' hc0
 have Hc1:=Hid.mk' hc1
 clear ha0 ha1 hc0 hc1
 obtain ⟨V,hV⟩:∃ V,V=((w.alloc (.cells #[.int .u64 a0,.int .u64 a1] 101)).alloc (.cells #[.int .u64 c0,.int .u64 c1] 101)).alloc (.cells #[.int .u64 0,.int .u64 0] 101):=⟨_,rfl⟩
 have rV:RW V (w.heap.size+1+1) 0 (b2 0 0):=by
  have:=RW.fresh ((w.alloc (.cells #[.int .u64 a0,.int .u64 a1] 101)).alloc (.cells #[.int .u64 c0,.int .u64 c1] 101)) (b2 0 0) 101
  rw [World.size_alloc,World.size_alloc] at this
  rw [hV];exact this
 have rB:RW V (w.heap.size+1) 0 (b2 c0 c1):=by
  have:=(RW.fresh (w.alloc (.cells #[.int .u64 a0,.int .u64 a1] 101)) (b2 c0 c1) 101).still ((Below.refl _ _).alloc (Nat.le_refl _) (.cells #[.int .u64 0,.int .u64 0] 101))
  rw [World.size_alloc] at this
  rw [hV];exact this
 have rA:RW V w.heap.size 0 (b2 a0 a1):=by
  rw [hV];exact ((RW.fresh w (b2 a0 a1) 101).still ((Below.refl _ _).alloc (Nat.le_refl _) _)).still ((Below.refl _ _).alloc (Nat.le_refl _) _)
 have bV:Below w.heap.size w V:=by rw [hV];exact (((Below.refl _ _).alloc (Nat.le_refl _) _).alloc (by simp) _).alloc (by simp;omega) _
 obtain ⟨q1,-⟩:=rA.cellAt (q:=0) a0 (.inl ⟨rfl,rfl⟩)
 obtain ⟨q2,-⟩:=rA.cellAt (q:=1) a1 (.inr ⟨rfl,rfl⟩)
 have HV:=Hid.mk' hV
 clear hV rA
 go_enter Tryz.func119,Tryz.ntmps119
 go_upto_region 1 with (fail)
 rw [←HV.out]
 clear HV
 replace rB:=rB.drew
 replace rV:=rV.drew
 replace bV:=bV.drew
 go_region
 clear q1 q2
 generalize V.drew=V1 at *
 have hix:=fun k hk W=>index_2 c0 c1 k hk W
 go_wp2_with (refine wpList_load_mid rfl 101 _ rfl (w.heap.size+1) 0 rfl (b2 c0 c1) _ rB.range Tryz.underlying101 rfl info2 ?_)
 go_loopw [5,6,7,8,18] (fun s5 s6 s7 s8 i wr=>∃ q:Nat,q≤2∧i = .int .i64 q∧s5 = .int .u64 (wd (gXp (64*q) a) 0)∧s6 = .int .u64 (wd (gXp (64*q) a) 64)∧s7 = .int .u64 (wd (gT b (64*q) a) 0)∧s8 = .int .u64 (wd (gT b (64*q) a) 64)∧wr=V1) (fun _ _ _ _ i _=>2 - (intOf i).toNat)
 case atStart =>
  refine ⟨0,by decide,rfl,?_,?_,?_,?_,rfl⟩
  · rw [Ha0.out];rfl
  · rw [Ha1.out];rfl
  · show Value.int .u64 0 = .int .u64 ((wd vZ 0:Nat):Int);rw [wd_zero];rfl
  · show Value.int .u64 0 = .int .u64 ((wd vZ 64:Nat):Int);rw [wd_zero];rfl
 case round =>
  obtain ⟨q,hq,rfl,rfl,rfl,rfl,rfl,rfl⟩:=hrel
  by_cases hlt:q<2
  · have hi:=fun W=>hix q hlt W
    have hwd:(if q=0 then c0 else c1)=wd b (64*q):=by
     rcases (show q=0∨q=1 by omega) with rfl | rfl
     · exact Hc0.out
     · exact Hc1.out
    rw [hwd] at hi
    have hlt':(q:Int)<2:=by omega
    clear hix Hx Hy Ha0 Ha1 Hc0 Hc1 rB rV bV hwd
    go_wp2_with (rw [hi])
    clear hi
    go_loopw [5,6,7,8,10,21] (fun s5 s6 s7 s8 s10 i wq=>∃ t:Nat,t≤64∧i = .int .i64 t∧s5 = .int .u64 (wd (gXp (64*q+t) a) 0)∧s6 = .int .u64 (wd (gXp (64*q+t) a) 64)∧s7 = .int .u64 (wd (gT b (64*q+t) a) 0)∧s8 = .int .u64 (wd (gT b (64*q+t) a) 64)∧s10 = .int .u64 ((wd b (64*q)*2 ^ t%18446744073709551616:Nat):Int)∧wq=wr) (fun _ _ _ _ _ i _=>64 - (intOf i).toNat)
    case atStart=>exact ⟨0,by decide,rfl,rfl,rfl,rfl,rfl,by rw [Nat.pow_zero,Nat.mul_one,Nat.mod_eq_of_lt (wd_lt _ _)],rfl⟩
    case round =>
     obtain ⟨t,ht,rfl,rfl,rfl,rfl,rfl,rfl,rfl⟩:=hrel
     by_cases htl:t<64
     · have htl':(t:Int)<64:=by omega
       have e1:=x_hi (gXp (64*q+t) a)
       have e2:=x_lo (gXp (64*q+t) a)
       have e3:=x_sum (wd (gT b (64*q+t) a) 0) (wd (gXp (64*q+t) a) 0) _ _ (wd_lt _ _) (wd_lt _ _) (wd_top b (64*q) t htl)
       have e4:=x_sum (wd (gT b (64*q+t) a) 64) (wd (gXp (64*q+t) a) 64) _ _ (wd_lt _ _) (wd_lt _ _) (wd_top b (64*q) t htl)
       rw [←(step_words a b (64*q+t)).1] at e3
       rw [←(step_words a b (64*q+t)).2] at e4
       have e5:IntKind.u64.wrap (((wd b (64*q)*2 ^ t%18446744073709551616:Nat):Int)*2)=((wd b (64*q)*2 ^ (t+1)%18446744073709551616:Nat):Int):=by
        rw [←wd_next]
        show ((wd b (64*q)*2 ^ t%18446744073709551616:Nat):Int)*2%18446744073709551616=_
        omega
       have hg:∀ o,wd (gXp (64*q+(t+1)) a) o=wd (gX (gXp (64*q+t) a)) o:=fun o=>rfl
       have hT:∀ o,wd (gT b (64*q+(t+1)) a) o=wd (gT b (64*q+t+1) a) o:=fun o=>rfl
       rw [←hg 0] at e1
       rw [←hg 64] at e2
       rw [←hT 0] at e3
       rw [←hT 64] at e4
       generalize wd (gXp (64*q+t) a) 0=F at *
       generalize wd (gXp (64*q+t) a) 64=S at *
       generalize wd (gT b (64*q+t) a) 0=s at *
       generalize wd (gT b (64*q+t) a) 64=s2 at *
       generalize wd b (64*q)*2 ^ t%18446744073709551616=W at *
       clear hg hT
       go_wp2
       go_roundw
       case rel=>exact ⟨t+1,htl,by go_num,rfl,rfl,rfl,rfl,rfl,True.intro⟩
       case measure=>simp [intOf];omega
     · obtain rfl:t=64:=by omega
       go_wp2
       go_roundw
       case rel=>exact ⟨q+1,hlt,by go_num,rfl,rfl,rfl,rfl,True.intro⟩
       case measure=>simp [intOf];omega
  · obtain rfl:q=2:=by omega
    have t0:wr.there (w.heap.size+1+1) 0 (b2 fx fy).toArray.size:=rV.there
    have e1:wd (gT b (64*2) a) 0=fx:=Hx.out.symm
    have e2:wd (gT b (64*2) a) 64=fy:=Hy.out.symm
    rw [e1,e2]
    clear hix e1 e2 Hx Hy Ha0 Ha1 Hc0 Hc1 rB
    go_wp2_with (refine wpList_store_mid rfl 101 _ _ rfl (w.heap.size+1+1) 0 (b2 fx fy).toArray rfl rfl t0 (info2a fx fy) (one2 fx fy) ?_)
    (try simp only [Exit.inBlock,Exit.then])
    refine bodyPost_ret (results_cell_mid Tryz.results119 _ _ (w.heap.size+1+1) 0 (b2 fx fy) _ rfl (rV.stored (b2 fx fy) rfl).range Tryz.underlying101 rfl info2) rfl ⟨rfl,?_⟩
    exact below_setCells (by omega) _ _ _ bV
end Go.Proofs.YtcgkajlehdgpoaaGreatDoor
namespace Go.Proofs.YtcgkajlehdgpoaaGreatDoor
open Go.RowKit Go.Shelf
attribute [local go_sem] Oper.semAt_some
def hsV (h s:V8) (n:Nat) (X:Nat→Nat):Nat→V8
 | 0=>s
 | k+1=>gTm (hsV h s n X k ^^^ blkT n X k) h
def hsC (h:V8) (N:Nat→Nat) (X:Nat→Nat→Nat):Nat→V8
 | 0=>vZ
 | i+1=>hsV h (hsC h N X i) (N i) (X i) (nb (N i))
structure HInv (w:World) (l D:Nat) (rec:Loop) (h s:V8) (W:World):Prop where
 lp:W.heap[l]? = some (.loop rec)
 dfr:W.heap[D]? = some (.deferred (some []))
 key:RV W w.heap.size h
 res:RW W (w.heap.size+1) 0 (b2 0 0)
 sum:RV W (w.heap.size+1+1) s
 bel:Below w.heap.size w W
theorem HInv.below {w:World} {l D:Nat} {rec:Loop} {h s:V8} {W W':World} (H:HInv w l D rec h s W) (hb:Below W.heap.size W W'):HInv w l D rec h s W' :=
 ⟨(hb.block l (Array.getElem?_eq_some_iff.1 H.lp).1).trans H.lp,(hb.block D (Array.getElem?_eq_some_iff.1 H.dfr).1).trans H.dfr,H.key.still hb,H.res.still hb,H.sum.still hb,below_next H.bel hb⟩
set_option maxRecDepth 100000 in
set_option maxHeartbeats 4000000 in
theorem hashed_in (n:Nat) (h:V8) (pb lb L:Nat) (N:Nat→Nat) (X:Nat→Nat→Nat) (hX:∀ i j,X i j<256) (U:Nat→Value) (hN:∀ j,N j<4611686018427387904) (hLn:L<1000) (w:World)
 (hlist:w.cell? ⟨pb,0,none⟩=some (.slice (some ⟨lb,0,none⟩) L L)) (hcell:∀ j,j<L→w.cell? ⟨lb,j,none⟩=some (U j)) (hbytes:∀ j,j<L→BytesIn w (U j) (N j) (X j)) :
 CallsIn Fence.wide n Tryz.prog 95 #[blV h,.func (.func 117) #[] #[.pointer (some ⟨pb,0,none⟩)]] w fun e w'=>e = .returned (blV (hsC h N X L))∧Below w.heap.size w w':=by
 obtain ⟨F,hF⟩:∃ F,F=hsC h N X L:=⟨_,rfl⟩
 rw [←hF]
 have HF:=Hid.mk' hF
 clear hF
 unfold blV
 obtain ⟨a0,ha0⟩:∃ x,x=wd h 0:=⟨_,rfl⟩
 obtain ⟨a1,ha1⟩:∃ x,x=wd h 64:=⟨_,rfl⟩
 obtain ⟨f0,hf0⟩:∃ x,x=wd F 0:=⟨_,rfl⟩
 obtain ⟨f1,hf1⟩:∃ x,x=wd F 64:=⟨_,rfl⟩
 rw [←ha0,←ha1,←hf0,←hf1]
 obtain ⟨w2,hw2⟩:∃ V,V=((w.alloc (.cells #[.int .u64 a0,.int .u64 a1] 101)).alloc (.cells #[.int .u64 0,.int .u64 0] 101)).alloc (.cells #[.int .u64 0,.int .u64 0] 101):=⟨_,rfl⟩
 have rS:RV w2 (w.heap.size+1+1) vZ:=by
  have:=RW.fresh ((w.alloc (.cells #[.int .u64 a0,.int .u64 a1] 101)).alloc (.cells #[.int .u64 0,.int .u64 0] 101)) (b2 0 0) 101
  rw [World.size_alloc,World.size_alloc] at this
  rw [hw2];unfold RV;rw [wd_zero,wd_zero];exact this
 have rR:RW w2 (w.heap.size+1) 0 (b2 0 0):=by
  have:=(RW.fresh (w.alloc (.cells #[.int .u64 a0,.int .u64 a1] 101)) (b2 0 0) 101).still ((Below.refl _ _).alloc (Nat.le_refl _) (.cells #[.int .u64 0,.int .u64 0] 101))
  rw [World.size_alloc] at this
  rw [hw2];exact this
 have rK:RV w2 w.heap.size h:=by
  unfold RV
  rw [hw2,←ha0,←ha1];exact ((RW.fresh w (b2 a0 a1) 101).still ((Below.refl _ _).alloc (Nat.le_refl _) _)).still ((Below.refl _ _).alloc (Nat.le_refl _) _)
 have b2':Below w.heap.size w w2:=by rw [hw2];exact (((Below.refl _ _).alloc (Nat.le_refl _) _).alloc (by simp) _).alloc (by simp;omega) _
 have hs2:w2.heap.size=w.heap.size+3:=by rw [hw2];simp
 have Ha0:=Hid.mk' ha0
 have Ha1:=Hid.mk' ha1
 have Hf0:=Hid.mk' hf0
 have Hf1:=Hid.mk' hf1
 have Hw2:=Hid.mk' hw2
 have Hs2:=Hid.mk' hs2
 clear ha0 ha1 hf0 hf1 hw2 hs2
 refine callsIn_of_wp_marks Tryz.func95 rfl trivial ?_ rfl
 simp only [Tryz.ntmps95,List.size_toArray,List.length_cons,List.length_nil,Nat.reduceAdd,Nat.reduceSub,Array.replicate_succ,Array.replicate_zero,List.push_toArray,List.append_toArray,List.nil_append,List.cons_append]
 gi_wp2
 rw [←Hw2.out]
 clear Hw2
 refine wpIn_range_with rfl (fun _=>trivial) (fun h=>by cases h) rfl (enters_of Tryz.func117 (by kernel_rfl) rfl) (fun q0 e1 e2 e4 e5 e6 e7 => ?_)
 have hs2:=Hs2.out
 clear Hs2
 obtain ⟨W1,hW1⟩:∃ W1,W1=(w2.alloc (.deferred (some []))).alloc (.loop q0):=⟨_,rfl⟩
 obtain ⟨l,hl⟩:∃ l,l=w2.heap.size+1:=⟨_,rfl⟩
 have hbl1:Below w2.heap.size w2 W1:=by rw [hW1];exact ((Below.refl _ _).alloc (Nat.le_refl _) _).alloc (by simp) _
 have hl1:W1.heap[l]? = some (.loop q0):=by
  rw [hW1,hl];have:=World.alloc_heap_new (w2.alloc (.deferred (some []))) (.loop q0);rwa [World.size_alloc] at this
 have hD1:W1.heap[w2.heap.size]? = some (.deferred (some [])):=by
  rw [hW1];exact (Below.heap_alloc _ _ _ (by simp)).trans (World.alloc_heap_new w2 _)
 rw [←hW1,←hl]
 obtain ⟨D,hD⟩:∃ D,D=w2.heap.size:=⟨_,rfl⟩
 have hDl:D<l:=by omega
 rw [←hD] at hD1 ⊢
 have hDc:D=w.heap.size+3:=by omega
 clear hW1 hl
 have hI0:HInv w l D q0 h (hsV h (hsC h N X 0) (N 0) (X 0) 0) W1:=⟨hl1,hD1,rK.still hbl1,rR.still hbl1,rS.still hbl1,b2'.trans (hbl1.mono b2'.size)⟩
 have hY:∀ i k V,i<L→16*k<N i→HInv w l D q0 h (hsV h (hsC h N X i) (N i) (X i) k) V→YieldAt Fence.wide (n - 1 - 1) Tryz.prog l #[blV (blkT (N i) (X i) k)] V fun e W'=>e = .returned (.bool true)∧HInv w l D q0 h (hsV h (hsC h N X i) (N i) (X i) (k+1)) W':=by
  intro i k V _ _ hI
  show YieldAt Fence.wide (n - 1 - 1) Tryz.prog l #[blV (blkT (N i) (X i) k)] V fun e W'=>e = .returned (.bool true)∧HInv w l D q0 h (gTm (hsV h (hsC h N X i) (N i) (X i) k ^^^ blkT (N i) (X i) k) h) W'
  generalize hsV h (hsC h N X i) (N i) (X i) k=s at *
  generalize blkT (N i) (X i) k=b at *
  refine yield_round hI.lp (by rw [e5];rfl) ?_
  rw [e4,e5,e6,e7]
  have cp:=fun W=>gplus_any s b W
  have ct:=fun W=>gtimes_any (s ^^^ b) h W
  unfold blV at *
  obtain ⟨x0,hx0⟩:∃ x,x=wd b 0:=⟨_,rfl⟩
  obtain ⟨x1,hx1⟩:∃ x,x=wd b 64:=⟨_,rfl⟩
  obtain ⟨V1,hV1⟩:∃ V1,V1=V.alloc (.cells #[.int .u64 x0,.int .u64 x1] 101):=⟨_,rfl⟩
  have rB:RW V1 V.heap.size 0 (b2 x0 x1):=by rw [hV1];exact RW.fresh _ _ _
  have bV1:Below V.heap.size V V1:=by rw [hV1];exact (Below.refl _ _).alloc (Nat.le_refl _) _
  have hI1:=hI.below bV1
  obtain ⟨V2,hV2⟩:∃ V2,V2=V1.putObj l (.loop { q0 with state := .busy }):=⟨_,rfl⟩
  have hbV:But (fun k=>k=l) V1 V2:=by rw [hV2];exact but_put _ _ _
  have hlV:V2.heap[l]? = some (.loop { q0 with state := .busy }):=by rw [hV2];exact World.putObj_heap_same (Array.getElem?_eq_some_iff.1 hI1.lp).1
  have hDV:V2.heap[D]? = some (.deferred (some [])):=(hbV.block _ (Array.getElem?_eq_some_iff.1 hI1.dfr).1 (by omega)).trans hI1.dfr
  have hlb:l<V.heap.size:=(Array.getElem?_eq_some_iff.1 hI.lp).1
  have hbeg:(Instr.beginRound l).run Tryz.prog V1 = .ok () V2:=by rw [hV2];exact run_beginRound hI1.lp e1
  replace rB:=rB.but hbV (by omega)
  have rK1:=hI1.key.but hbV (by omega)
  have rR1:=hI1.res.but hbV (by omega)
  have rS1:=hI1.sum.but hbV (by omega)
  have hBV:Below w.heap.size w V2:=hI1.bel.trans (hbV.below hI1.bel.size (by omega))
  have hfin:∀ V3:World,Out (w.heap.size+1+1) 0 2 V2 V3→RV V3 (w.heap.size+1+1) (gTm (s ^^^ b) h)→∃ v W',(Instr.endRound l none).run Tryz.prog V3 = .ok v W'∧(Ending.returned v = .returned (.bool true)∧HInv w l D q0 h (gTm (s ^^^ b) h) W'):=by
   intro V3 hO r3
   have hb3:=hO.but
   have hl3:V3.heap[l]? = some (.loop { q0 with state := .busy }):=(hb3.block l (Array.getElem?_eq_some_iff.1 hlV).1 (by omega)).trans hlV
   have hrec:({ { q0 with state := .busy } with state := .ready,pending:=none }:Loop)=q0:=loop_back q0 e1 e2
   have hb5:=but_put V3 l (.loop q0)
   refine ⟨_,_,run_endRound none hl3,rfl,?_⟩
   simp only [Option.isNone_none,if_true,hrec]
   have hD3:=(hb3.block D (Array.getElem?_eq_some_iff.1 hDV).1 (by omega)).trans hDV
   exact ⟨World.putObj_heap_same (Array.getElem?_eq_some_iff.1 hl3).1,(hb5.block D (Array.getElem?_eq_some_iff.1 hD3).1 (by omega)).trans hD3,(rK1.but hb3 (by omega)).but hb5 (by omega),(rR1.but hb3 (by omega)).but hb5 (by omega),r3.but hb5 (by omega),(hBV.trans (hb3.below hBV.size (by omega))).trans (hb5.below (Nat.le_trans hBV.size hb3.size) (by omega))⟩
  have hsV:w.heap.size+1+1<V2.heap.size:=rS1.lt
  have nB:V.heap.size≠w.heap.size+1+1:=by omega
  have nK:w.heap.size≠w.heap.size+1+1:=by omega
  have HV1:=Hid.mk' hV1
  rw [←hx0,←hx1] at cp ⊢
  unfold RV at *
  generalize wd s 0=s0 at *
  generalize wd s 64=s1 at *
  generalize wd (s ^^^ b) 0=p0 at *
  generalize wd (s ^^^ b) 64=p1 at *
  generalize wd h 0=k0 at *
  generalize wd h 64=k1 at *
  generalize wd (gTm (s ^^^ b) h) 0=m0 at *
  generalize wd (gTm (s ^^^ b) h) 64=m1 at *
  clear hV2 hV1 hx0 hx1 hI e1 e2 e4 e5 e6 e7 hI0 hbV hBV hDV hlV hI1 bV1 rR1 hD hDc hDl
  gi_wp2
  rw [←HV1.out]
  refine ⟨V2,hbeg,?_⟩
  gi_wp2
  have hdr:Below V2.heap.size V2 V2.drew:=(Below.refl _ _).drew
  replace rB:=rB.still hdr
  replace rK1:=rK1.still hdr
  replace rS1:=rS1.still hdr
  have hO0:Out (w.heap.size+1+1) 0 2 V2 V2.drew:=Out.drew _
  replace hsV:w.heap.size+1+1<V2.drew.heap.size:=hsV
  refine wpIn_held (S:=fun u=>Out (w.heap.size+1+1) 0 2 V2.drew u) (by kernel_rfl) (by kernel_rfl) (Out.refl _ _ _ _) (fun hS => ?_)
  generalize V2.drew=V3 at *
  refine tlO 1 rB nB hS 101 Tryz.underlying101 info2 ?_
  (try simp only [pS])
  refine tlO 3 rK1 nK hS 101 Tryz.underlying101 info2 ?_
  (try simp only [pS])
  refine lo 0 101 5 rS1 hS Tryz.underlying101 info2 ?_
  (try simp only [pS])
  refine cl 2 (cp _) ?_
  rintro e V4 ⟨rfl,hb4⟩
  refine ⟨_,rfl,Out.of_below hb4 hsV,?_⟩
  (try simp only [pS])
  refine cl 4 (ct _) ?_
  rintro e V5 ⟨rfl,hb5⟩
  have hb45:=below_next hb4 hb5
  refine ⟨_,rfl,Out.of_below hb45 hsV,?_⟩
  (try simp only [pS])
  replace rS1:=rS1.still hb45
  refine so 5 101 5 13 (b2 m0 m1) rS1 rfl ((Out.of_below hb45 hsV).trans (Out.setCells _ _ (Nat.le_refl _) (Nat.le_refl _))) (info2a m0 m1) (one2 m0 m1) (fun r5 => ?_)
  refine wpAnyH_done (by kernel_rfl) ?_ _
  refine OnlyN.normal ?_
  dsimp only [Act.put]
  have hf:=hfin _ (hO0.trans ((Out.of_below hb45 hsV).trans (Out.setCells _ _ (Nat.le_refl _) (Nat.le_refl _)))) r5
  clear hfin ct cp rB rK1 rS1 hb4 hb5 hb45 hS
  gi_wp2
  exact hf
 have hL0:hsV h (hsC h N X L) (N L) (X L) 0=F:=HF.out.symm
 have hcells:∀ i k W,HInv w l D q0 h (hsV h (hsC h N X i) (N i) (X i) k) W→Below w.heap.size w W:=fun _ _ _ H=>H.bel
 refine (giter_in (n - 1) l pb lb L N X hX U (fun i k W=>HInv w l D q0 h (hsV h (hsC h N X i) (N i) (X i) k) W) (fun i k W H=>(H.bel.cell (block_lt_of_cell hlist)).trans hlist) (fun i k W H j hj=>(H.bel.cell (block_lt_of_cell (hcell j hj))).trans (hcell j hj)) (fun i k W H j hj=>(hbytes j hj).keep H.bel) hN hLn (fun i k W W' H hb=>H.below hb) (fun i W H=>H) hY W1 hI0).mono ?_
 rintro e W2 ⟨⟨v,rfl⟩,hG⟩
 rw [hL0] at hG
 obtain ⟨V,hV⟩:∃ V,V=W2.putObj l (.loop { q0 with state := .exhausted }):=⟨_,rfl⟩
 have hbV:But (fun k=>k=l) W2 V:=by rw [hV];exact but_put _ _ _
 have hDV:V.heap[D]? = some (.deferred (some [])):=(hbV.block _ (Array.getElem?_eq_some_iff.1 hG.dfr).1 (by omega)).trans hG.dfr
 have hBV:Below w.heap.size w V:=hG.bel.trans (hbV.below hG.bel.size (by omega))
 have hsum:=hG.sum.but hbV (by omega)
 have hres:=hG.res.but hbV (by omega)
 refine ⟨none,V,?_,?_⟩
 · have h:=run_endLoop (P:=Tryz.prog) hG.lp (by rw [e1];simp)
   rw [←hV,e2] at h
   exact h
 have f0e:=Hf0.out
 have f1e:=Hf1.out
 rw [←f0e,←f1e] at hsum
 have t0:V.there (w.heap.size+1) 0 (b2 f0 f1).toArray.size:=hres.there
 have hD':D<V.heap.size:=(Array.getElem?_eq_some_iff.1 hDV).1
 clear hV hY hI0 e1 e2 e4 e5 e6 e7 hbl1 hl1 hD1 hG hcells hL0 HF Hf0 Hf1 f0e f1e Ha0 Ha1 hlist hcell hbytes hN rS rR rK
 gi_wp2_with (first
  | (refine wpListIn_load_mid rfl 101 _ rfl (w.heap.size+1+1) 0 rfl (b2 f0 f1) _ hsum.range Tryz.underlying101 rfl info2 ?_)
  | (refine wpListIn_store_mid rfl 101 _ _ rfl (w.heap.size+1) 0 (b2 f0 f1).toArray rfl rfl t0 (info2a f0 f1) (one2 f0 f1) ?_))
 subst hDc
 dsimp only [Act.put]
 have hD4:(V.setCells (w.heap.size+1) 0 (b2 f0 f1)).heap[w.heap.size+3]? = some (.deferred (some [])):=(heap_setCells_other _ _ _ _ _ (by omega)).trans hDV
 have hr4:RW (V.setCells (w.heap.size+1) 0 (b2 f0 f1)) (w.heap.size+1) 0 (b2 f0 f1):=hres.stored (b2 f0 f1) rfl
 have hB4:Below w.heap.size w (V.setCells (w.heap.size+1) 0 (b2 f0 f1)):=below_setCells (by omega) _ _ _ hBV
 have hbV2:=but_put (V.setCells (w.heap.size+1) 0 (b2 f0 f1)) (w.heap.size+3) (.deferred none)
 have hr5:=hr4.but hbV2 (by omega)
 have hB5:=hB4.trans (hbV2.below hB4.size (by omega))
 refine ⟨by simp,.inl ⟨_,_,rfl,run_takeDeferred hD4,?_⟩⟩
 exact ⟨_,results_cell_mid Tryz.results95 _ _ (w.heap.size+1) 0 (b2 f0 f1) _ rfl hr5.range Tryz.underlying101 rfl info2,rfl,hB5⟩
theorem hashed_any (h:V8) (pb lb L:Nat) (N:Nat→Nat) (X:Nat→Nat→Nat) (hX:∀ i j,X i j<256) (U:Nat→Value) (hN:∀ j,N j<4611686018427387904) (hLn:L<1000) (w:World)
 (hlist:w.cell? ⟨pb,0,none⟩=some (.slice (some ⟨lb,0,none⟩) L L)) (hcell:∀ j,j<L→w.cell? ⟨lb,j,none⟩=some (U j)) (hbytes:∀ j,j<L→BytesIn w (U j) (N j) (X j)) :
 Calls Tryz.prog 95 #[blV h,.func (.func 117) #[] #[.pointer (some ⟨pb,0,none⟩)]] w fun e w'=>e = .returned (blV (hsC h N X L))∧Below w.heap.size w w' :=
 callsIn_wide.1 (hashed_in 9 h pb lb L N X hX U hN hLn w hlist hcell hbytes)
end Go.Proofs.YtcgkajlehdgpoaaGreatDoor
namespace Go.Proofs.YtcgkajlehdgpoaaGreatDoor
open Go.RowKit
def hsG (h:V8) (B:Nat→V8) (s:V8):Nat→V8
 | 0=>s
 | k+1=>gTm (hsG h B s k ^^^ B k) h
theorem hsV_G (h s:V8) (n:Nat) (X:Nat→Nat):∀ k,hsV h s n X k=hsG h (blkT n X) s k
 | 0=>rfl
 | k+1=>by
  show gTm (hsV h s n X k ^^^ blkT n X k) h=gTm (hsG h (blkT n X) s k ^^^ blkT n X k) h
  rw [hsV_G h s n X k]
theorem hsS_G (h Z:Nat→Nat):∀ k,toV (hsS h Z k)=hsG (toV h) (fun k=>toV (fun j=>Z (16*k+j))) vZ k
 | 0=>toV_zero
 | k+1=>by
  show toV (tmN (fun j=>hsS h Z k j ^^^ Z (16*k+j)) h)=gTm (hsG (toV h) (fun k=>toV (fun j=>Z (16*k+j))) vZ k ^^^ toV (fun j=>Z (16*k+j))) (toV h)
  rw [←hsS_G h Z k,←toV_xor]
  exact toV_byV _
theorem hsG_S (h:V8) {B C:Nat→V8} (s:V8):∀ k,(∀ j,j<k→B j=C j)→hsG h B s k=hsG h C s k
 | 0,_=>rfl
 | k+1,e=>by
  show gTm (hsG h B s k ^^^ B k) h=gTm (hsG h C s k ^^^ C k) h
  rw [hsG_S h s k (fun j hj=>e j (by omega)),e k (by omega)]
theorem hsG_add (h:V8) (B:Nat→V8) (s:V8) (a:Nat):∀ b,hsG h B s (a+b)=hsG h (fun k=>B (a+k)) (hsG h B s a) b
 | 0=>rfl
 | b+1=>by
  show gTm (hsG h B s (a+b) ^^^ B (a+b)) h=gTm (hsG h (fun k=>B (a+k)) (hsG h B s a) b ^^^ B (a+b)) h
  rw [hsG_add h B s a b]
theorem pad_nb (n:Nat):pad n=16*nb n:=by unfold pad nb;omega
def three {α:Type} (a b c:α) (i:Nat):α:=if i=0 then a else if i=1 then b else c
theorem hash_tag (h M D:Nat→Nat) (ml dl:Nat):toV (hsN h (pad ml+pad dl+16) (auN ml M dl D))=hsC (toV h) (three ml dl 16) (three M D (byV (lnV ml dl))) 3:=by
 show toV (hsS h (gpadN (pad ml+pad dl+16) (auN ml M dl D)) (pad (pad ml+pad dl+16) / 16))=hsV (toV h) (hsV (toV h) (hsV (toV h) vZ ml M (nb ml)) dl D (nb dl)) 16 (byV (lnV ml dl)) (nb 16)
 have e0:pad (pad ml+pad dl+16) / 16=nb ml+(nb dl+1):=by unfold pad nb;omega
 rw [hsS_G,hsV_G,hsV_G,hsV_G,e0,hsG_add,hsG_add]
 have p1:=pad_nb ml
 have p2:=pad_nb dl
 have e1:hsG (toV h) (fun k=>toV (fun j=>gpadN (pad ml+pad dl+16) (auN ml M dl D) (16*k+j))) vZ (nb ml)=hsG (toV h) (blkT ml M) vZ (nb ml):=hsG_S _ _ _ fun k hk=>toV_S fun j hj=>by
  unfold gpadN auN cat
  rw [if_pos (by omega),if_pos (by omega),if_pos (by omega),if_pos (by omega)]
  rfl
 rw [e1]
 have e2:hsG (toV h) (fun k=>toV (fun j=>gpadN (pad ml+pad dl+16) (auN ml M dl D) (16*(nb ml+k)+j))) (hsG (toV h) (blkT ml M) vZ (nb ml)) (nb dl)=hsG (toV h) (blkT dl D) (hsG (toV h) (blkT ml M) vZ (nb ml)) (nb dl):=hsG_S _ _ _ fun k hk=>toV_S fun j hj=>by
  unfold gpadN auN cat
  rw [if_pos (by omega),if_pos (by omega),if_pos (by omega),if_neg (by omega),show 16*(nb ml+k)+j - pad ml=16*k+j by omega]
  rfl
 rw [e2]
 refine hsG_S _ _ _ fun k hk => ?_
 obtain rfl:k=0:=by omega
 have e3:blkT 16 (byV (lnV ml dl)) 0=lnV ml dl:=by
  have:blkT 16 (byV (lnV ml dl)) 0=toV (byV (lnV ml dl)):=toV_S fun j hj=>by
   unfold gpadN
   rw [if_pos (by omega),Nat.mul_zero,Nat.zero_add]
  rw [this,toV_byV]
 rw [e3]
 unfold lnV
 refine toV_S fun j hj => ?_
 unfold gpadN auN cat
 rw [if_pos (by omega)]
 by_cases h8:j<8
 · rw [if_pos (by omega),if_neg (by omega),if_pos h8]
   congr 1
   omega
 · rw [if_neg (by omega),if_neg h8]
   congr 1
   omega
theorem tag_block (ks nn M D:Nat→Nat) (ml dl:Nat):toV (tgN ks nn ml M dl D)=hsC (toV (h0N ks)) (three ml dl 16) (three M D (byV (lnV ml dl))) 3 ^^^ toV (ctB ks nn 1):=by
 rw [←hash_tag,BitVec.xor_comm,←toV_xor]
 rfl
end Go.Proofs.YtcgkajlehdgpoaaGreatDoor
