/- What the proof stands on: G9F, G9D, G9G, G9J, G9E, G9H, G9I, G9K, G9L. -/
import Derived.Test.YtcgkajlehdgpoaaGreatDoorA8BlcM
import Derived.Test.YtcgkajlehdgpoaaGreatDoorHHmacM
namespace Go.Proofs.YtcgkajlehdgpoaaGreatDoor
open Go.RowKit Go.Shelf
attribute [local go_sem] Oper.semAt_some
set_option maxHeartbeats 1000000 in
theorem blocks_any (xo:Option Addr) (n c:Nat) (w:World) :
 Calls Tryz.prog 90 #[.slice xo n c] w fun e w'=>e = .returned (.func (.func 117) #[] #[.pointer (some ⟨w.heap.size,0,none⟩)])∧w'=w.alloc (.cells #[.slice xo n c] 74):=by
 go_enter Tryz.func90,Tryz.ntmps90
 go_wp2
 go_ret
 exact ⟨rfl,rfl⟩
def nb (n:Nat):Nat:=(n+15) / 16
def blkT (n:Nat) (X:Nat→Nat) (k:Nat):V8:=toV (fun j=>gpadN n X (16*k+j))
theorem blkT_min (n:Nat) (X:Nat→Nat) (k m:Nat) (hm:m=16∧16*k+16≤n∨16*k+m=n∧m≤16):toV (gpadN m (fun j=>X (16*k+j)))=blkT n X k:=by
 unfold blkT
 exact toV_S fun j hj=>by
  unfold gpadN
  by_cases h:j<m
  · rw [if_pos h,if_pos (by omega)]
  · rw [if_neg h,if_neg (by omega)]
set_option maxRecDepth 100000 in
set_option maxHeartbeats 4000000 in
theorem giter_in (n:Nat) (l pb lb L:Nat) (N:Nat→Nat) (X:Nat→Nat→Nat) (hX:∀ i j,X i j<256) (U:Nat→Value) (Inv:Nat→Nat→World→Prop)
 (hlist:∀ i k W,Inv i k W→W.cell? ⟨pb,0,none⟩=some (.slice (some ⟨lb,0,none⟩) L L))
 (hcell:∀ i k W,Inv i k W→∀ j,j<L→W.cell? ⟨lb,j,none⟩=some (U j))
 (hbytes:∀ i k W,Inv i k W→∀ j,j<L→BytesIn W (U j) (N j) (X j))
 (hN:∀ j,N j<4611686018427387904) (hLn:L<1000)
 (hkeep:∀ i k W W',Inv i k W→Below W.heap.size W W'→Inv i k W')
 (hnext:∀ i W,Inv i (nb (N i)) W→Inv (i+1) 0 W)
 (hY:∀ i k W1,i<L→16*k<N i→Inv i k W1→YieldAt Fence.wide (n - 1) Tryz.prog l #[blV (blkT (N i) (X i) k)] W1 fun e W'=>e = .returned (.bool true)∧Inv i (k+1) W')
 (W:World) (h0:Inv 0 0 W) :
 CallsIn Fence.wide n Tryz.prog 117 #[.func (.yield l) #[] #[],.pointer (some ⟨pb,0,none⟩)] W fun e W'=>(∃ v,e = .returned v)∧Inv L 0 W':=by
 have c0:=hlist 0 0 W h0
 refine callsIn_of_wp Tryz.func117 rfl trivial ?_ rfl
 simp only [Tryz.ntmps117,List.size_toArray,List.length_cons,List.length_nil,Nat.reduceAdd,Nat.reduceSub,Array.replicate_succ,Array.replicate_zero,List.push_toArray,List.append_toArray,List.nil_append,List.cons_append]
 gi_wp2
 clear c0
 gi_loopw [8] (fun s wr=>∃ i:Nat,i≤L∧s = .int .i64 i∧Inv i 0 wr) (fun s _=>L - (intOf s).toNat)
 case atStart=>exact ⟨0,Nat.zero_le _,rfl,h0⟩
 case round =>
  clear h0
  obtain ⟨i,hi,rfl,hI⟩:=hrel
  by_cases hiL:i<L
  · have cl:=hcell i 0 wr hI i hiL
    have hb0:=hbytes i 0 wr hI i hiL
    have hYi:=fun k W1=>hY i k W1 hiL
    have hlt':(i:Int)<(L:Int):=by omega
    have hi0:(0:Int)≤(i:Int)∧(i:Int)<(L:Int):=by omega
    have hNi:=hN i
    obtain ⟨xo,cu,hU,-,hcap,-⟩:=hb0.src
    rw [hU] at cl
    have hbi:∀ k W,Inv i k W→BytesIn W (.slice xo (N i) cu) (N i) (X i):=fun k W h=>by rw [←hU];exact hbytes i k W h i hiL
    have hXi:=hX i
    have hki:=hkeep i
    have hni:=hnext i
    generalize N i=M at *
    generalize X i=Y at *
    clear hY hb0 hU hbytes hX hN hkeep hnext hcell hlist
    gi_wp2
    gi_loopw [5] (fun s wq=>∃ k A:Nat,A=16*k∧A<M+16∧s = .int .i64 A∧Inv i k wq) (fun s _=>M+16 - (intOf s).toNat)
    case atStart=>exact ⟨0,0,rfl,by omega,rfl,hI⟩
    case round =>
     clear hI cl
     obtain ⟨k,A,hA,hAl,rfl,hI⟩:=hrel
     by_cases hlt:A<M
     · obtain ⟨bb,ob,cb,hv,hbb,-,hc⟩:=(hbi k wr hI).resolve_left (fun ⟨_,_,h⟩=>by omega)
       cases hv
       have hAM:(A:Int)<(M:Int):=by omega
       have a1:(0:Int)≤(A:Int):=by omega
       have e1:IntKind.i64.wrap ((A:Int)+16)=(A:Int)+16:=by simp only [IntKind.wrap_i64];omega
       obtain ⟨m,hm,hmc⟩:∃ m,(m=16∧A+16≤M∨A+m=M∧m<16)∧m≤16:=by
        by_cases h:A+16≤M
        · exact ⟨16,.inl ⟨rfl,h⟩,Nat.le_refl _⟩
        · exact ⟨M - A,.inr ⟨by omega,by omega⟩,by omega⟩
       have eb:toV (gpadN m (fun j=>Y (A+j)))=blkT M Y k:=by rw [hA];exact blkT_min M Y k m (by omega)
       have cb:=gblockOf_any (.slice (some ⟨bb,ob+A,none⟩) m (cu - A)) m (fun j=>Y (A+j)) hmc (fun j=>hXi _) wr (.inr ⟨_,_,_,rfl,hbb,by omega,fun j hj=>by
        have:=hc (A+j) (by omega)
        rwa [←Nat.add_assoc] at this⟩)
       rw [eb] at cb
       have hk16:16*k<M:=by omega
       have hyy:=fun W1=>hYi k W1 hk16
       have hkk:=hki k wr
       unfold blV at *
       generalize wd (blkT M Y k) 0=fx at *
       generalize wd (blkT M Y k) 64=fy at *
       have hcu:¬cu=A:=by omega
       have hA2:A+16=16*(k+1):=by omega
       have hA3:A+16<M+16:=by omega
       have HA:=Hid.mk' hA2
       clear hA hA2 eb hbi hc hYi hki hni hXi hk16
       rcases hm with ⟨rfl,hm⟩ | ⟨hm,hm16⟩
       · have hmi:(A:Int)+16≤(M:Int):=by omega
         have e2:A+16 - A=16:=by omega
         have e4:(A:Int)+16≤(cu:Int):=by omega
         gi_wp2_with (refine ⟨trivial,(fun h=>by cases h),?_⟩;gi_at_call 70;refine (callsIn_wide.2 cb).mono ?_;clear cb;rintro e w1 ⟨rfl,hb1⟩;(replace hI:=hkk w1 hI hb1);(obtain ⟨fn,tmps,assign,body,hy,hR⟩:=hyy w1 hI))
         refine ⟨(fun h=>by cases h),hR.mono ?_⟩
         rintro e W' ⟨rfl,hI'⟩
         clear hy hR hyy hkk hI
         gi_wp2
         go_roundw
         case rel=>exact ⟨k+1,A+16,HA.out,hA3,by go_num,hI'⟩
         case measure=>simp [intOf];omega
       · have hmi:¬(A:Int)+16≤(M:Int):=by omega
         have hmj:(M:Int)<(A:Int)+16:=by omega
         have hmk:(M:Int)≤(A:Int)+16:=by omega
         have e2:M - A=m:=by omega
         have e4:(M:Int)≤(cu:Int):=by omega
         have e5:(A:Int)≤(M:Int):=by omega
         clear hm hm16
         gi_wp2_with (refine ⟨trivial,(fun h=>by cases h),?_⟩;gi_at_call 70;refine (callsIn_wide.2 cb).mono ?_;clear cb;rintro e w1 ⟨rfl,hb1⟩;(replace hI:=hkk w1 hI hb1);(obtain ⟨fn,tmps,assign,body,hy,hR⟩:=hyy w1 hI))
         refine ⟨(fun h=>by cases h),hR.mono ?_⟩
         rintro e W' ⟨rfl,hI'⟩
         clear hy hR hyy hkk hI
         gi_wp2
         go_roundw
         case rel=>exact ⟨k+1,A+16,HA.out,hA3,by go_num,hI'⟩
         case measure=>simp [intOf];omega
     · obtain rfl:k=nb M:=by unfold nb;omega
       replace hI:=hni wr hI
       have hlt':¬(A:Int)<(M:Int):=by omega
       clear hA hni hYi hbi
       gi_wp2
       go_roundw
       case rel=>exact ⟨i+1,hiL,by go_num,hI⟩
       case measure=>simp [intOf];omega
  · obtain rfl:i=L:=by omega
    have hlt':¬(i:Int)<(i:Int):=by omega
    clear hY hbytes hX hN hkeep hnext hcell hlist
    gi_wp2
    refine bodyPost_end (results_none rfl _ _ _) rfl ?_
    exact ⟨⟨_,rfl⟩,hI⟩
end Go.Proofs.YtcgkajlehdgpoaaGreatDoor
namespace Go.Proofs.YtcgkajlehdgpoaaGreatDoor
open Go.RowKit
theorem index_2 (x y k:Nat) (hk:k<2) (W:World):(Instr.index 101 (.agg #[.int .u64 x,.int .u64 y]) (.int .i64 k)).run Tryz.prog W = .ok (.int .u64 (if k=0 then x else y:Nat)) W:=by
 rcases (show k=0∨k=1 by omega) with rfl | rfl
 · kernel_rfl
 · kernel_rfl
theorem neg01 (b:Bool):IntKind.u64.wrap (-(if b then 1 else 0:Int))=(if b then 18446744073709551615 else 0:Nat):=by cases b <;> rfl
theorem and_all (x:Nat) (hx:x<18446744073709551616) (b:Bool):bits .and .u64 (x:Int) ((if b then 18446744073709551615 else 0:Nat):Int)=((if b then x else 0:Nat):Int):=by
 rw [u64_and_nat x _ hx (by split <;> decide)]
 cases b
 · simp
 · congr 1
   show x &&& (2 ^ 64 - 1)=x
   rw [Nat.and_two_pow_sub_one_eq_mod]
   exact Nat.mod_eq_of_lt hx
theorem step_words (a b:V8) (i:Nat):wd (gT b (i+1) a) 0=wd (gT b i a) 0 ^^^ (if b.getLsbD i then wd (gXp i a) 0 else 0)∧wd (gT b (i+1) a) 64=wd (gT b i a) 64 ^^^ (if b.getLsbD i then wd (gXp i a) 64 else 0):=by
 have h:∀ o,wd (gT b (i+1) a) o=wd (gT b i a) o ^^^ (if b.getLsbD i then wd (gXp i a) o else 0):=fun o=>by
  show wd (gT b i a ^^^ (if b.getLsbD i then gXp i a else vZ)) o=_
  rw [wd_xor]
  by_cases h:b.getLsbD i
  · rw [if_pos h,if_pos h]
  · rw [if_neg h,if_neg h,wd_zero]
 exact ⟨h 0,h 64⟩
theorem x_hi (v:V8):bits .xor .u64 ((wd v 0:Int) / 2) (bits .and .u64 16212958658533785600 (IntKind.u64.wrap (-bits .and .u64 (wd v 64:Int) 1)))=((wd (gX v) 0:Nat):Int):=by
 have h1:bits .and .u64 (wd v 64:Int) 1=(if v.getLsbD 127 then 1 else 0:Int):=by
  rw [show (1:Int)=((1:Nat):Int) from rfl,u64_and_nat _ _ (wd_lt _ _) (by decide),wd_low]
  cases v.getLsbD 127 <;> rfl
 have hl:=wd_lt v 0
 rw [h1,neg01,show (16212958658533785600:Int)=((16212958658533785600:Nat):Int) from rfl,and_all _ (by decide),show (wd v 0:Int) / 2=((wd v 0 / 2:Nat):Int) by omega,u64_xor_nat _ _ (by omega) (by split <;> decide),gX_hi]
theorem x_lo (v:V8):bits .or .u64 ((wd v 64:Int) / 2) (IntKind.u64.wrap ((wd v 0:Int)*9223372036854775808))=((wd (gX v) 64:Nat):Int):=by
 have hl:=wd_lt v 64
 rw [show IntKind.u64.wrap ((wd v 0:Int)*9223372036854775808)=((wd v 0*9223372036854775808%18446744073709551616:Nat):Int) from (by show (wd v 0:Int)*9223372036854775808%18446744073709551616=_;omega),show (wd v 64:Int) / 2=((wd v 64 / 2:Nat):Int) by omega,u64_or_nat _ _ (by omega) (Nat.mod_lt _ (by decide)),gX_lo]
theorem x_sum (s x W:Nat) (b:Bool) (hs:s<18446744073709551616) (hx:x<18446744073709551616) (hW:W / 9223372036854775808=if b then 1 else 0):bits .xor .u64 (s:Int) (bits .and .u64 (x:Int) (IntKind.u64.wrap (-((W:Int) / 9223372036854775808))))=((s ^^^ (if b then x else 0):Nat):Int):=by
 have h:(W:Int) / 9223372036854775808=(if b then 1 else 0:Int):=by
  have:(W:Int) / 9223372036854775808=((W / 9223372036854775808:Nat):Int):=by omega
  rw [this,hW]
  cases b <;> rfl
 rw [h,neg01,and_all _ hx,u64_xor_nat _ _ hs (by
  cases b
  · exact (by decide:0<18446744073709551616)
  · exact hx)]
set_option maxRecDepth 20000 in
set_option maxHeartbeats 4000000 in
theorem gtimes_any (a b:V8) (w:World) :
 Calls Tryz.prog 119 #[blV a,blV b] w fun e w'=>e = .returned (blV (gTm a b))∧Below w.heap.size w w':=by
 unfold blV
 obtain ⟨fx,hx⟩:∃ x,x=wd (gTm a b) 0:=⟨_,rfl⟩
 obtain ⟨fy,hy⟩:∃ y,y=wd (gTm a b) 64:=⟨_,rfl⟩
 rw [←hx,←hy]
 have Hx:=Hid.mk' hx
 have Hy:=Hid.mk' hy
 clear hx hy
 obtain ⟨a0,ha0⟩:∃ x,x=wd a 0:=⟨_,rfl⟩
 obtain ⟨a1,ha1⟩:∃ x,x=wd a 64:=⟨_,rfl⟩
 obtain ⟨c0,hc0⟩:∃ x,x=wd b 0:=⟨_,rfl⟩
 obtain ⟨c1,hc1⟩:∃ x,x=wd b 64:=⟨_,rfl⟩
 rw [←ha0,←ha1,←hc0,←hc1]
 have Ha0:=Hid.mk' ha0
 have Ha1:=Hid.mk' ha1
 have Hc0:=Hid.mk' hc0
 have Hc1:=Hid.mk' hc1
 clear ha0 ha1 hc0 hc1
 obtain ⟨V,hV⟩:∃ V,V=((w.alloc (.cells #[.int .u64 a0,.int .u64 a1] 101)).alloc (.cells #[.int .u64 c0,.int .u64 c1] 101)).alloc (.cells #[.int .u64 0,.int .u64 0] 101):=⟨_,rfl⟩
 have rV:RW V (w.heap.size+1+1) 0 (b2 0 0):=by
  have:=RW.fresh ((w.alloc (.cells #[.int .u64 a0,.int .u64 a1] 101)).alloc (.cells #[.int .u64 c0,.int .u64 c1] 101)) (b2 0 0) 101
  rw [World.size_alloc,World.size_alloc] at this
  rw [hV];exact this
 have rB:RW V (w.heap.size+1) 0 (b2 c0 c1):=by
  have:=(RW.fresh (w.alloc (.cells #[.int .u64 a0,.int .u64 a1] 101)) (b2 c0 c1) 101).still ((Below.refl _ _).alloc (Nat.le_refl _) (.cells #[.int .u64 0,.int .u64 0] 101))
  rw [World.size_alloc] at this
  rw [hV];exact this
 have rA:RW V w.heap.size 0 (b2 a0 a1):=by
  rw [hV];exact ((RW.fresh w (b2 a0 a1) 101).still ((Below.refl _ _).alloc (Nat.le_refl _) _)).still ((Below.refl _ _).alloc (Nat.le_refl _) _)
 have bV:Below w.heap.size w V:=by rw [hV];exact (((Below.refl _ _).alloc (Nat.le_refl _) _).alloc (by simp) _).alloc (by simp;omega) _
 obtain ⟨q1,-⟩:=rA.cellAt (q:=0) a0 (.inl ⟨rfl,rfl⟩)
 obtain ⟨q2,-⟩:=rA.cellAt (q:=1) a1 (.inr ⟨rfl,rfl⟩)
 have HV:=Hid.mk' hV
 clear hV rA
 go_enter Tryz.func119,Tryz.ntmps119
 go_upto_region 1 with (fail)
 rw [←HV.out]
 clear HV
 replace rB:=rB.drew
 replace rV:=rV.drew
 replace bV:=bV.drew
 go_region
 clear q1 q2
 generalize V.drew=V1 at *
 have hix:=fun k hk W=>index_2 c0 c1 k hk W
 go_wp2_with (refine wpList_load_mid rfl 101 _ rfl (w.heap.size+1) 0 rfl (b2 c0 c1) _ rB.range Tryz.underlying101 rfl info2 ?_)
 go_loopw [5,6,7,8,18] (fun s5 s6 s7 s8 i wr=>∃ q:Nat,q≤2∧i = .int .i64 q∧s5 = .int .u64 (wd (gXp (64*q) a) 0)∧s6 = .int .u64 (wd (gXp (64*q) a) 64)∧s7 = .int .u64 (wd (gT b (64*q) a) 0)∧s8 = .int .u64 (wd (gT b (64*q) a) 64)∧wr=V1) (fun _ _ _ _ i _=>2 - (intOf i).toNat)
 case atStart =>
  refine ⟨0,by decide,rfl,?_,?_,?_,?_,rfl⟩
  · rw [Ha0.out];rfl
  · rw [Ha1.out];rfl
  · show Value.int .u64 0 = .int .u64 ((wd vZ 0:Nat):Int);rw [wd_zero];rfl
  · show Value.int .u64 0 = .int .u64 ((wd vZ 64:Nat):Int);rw [wd_zero];rfl
 case round =>
  obtain ⟨q,hq,rfl,rfl,rfl,rfl,rfl,rfl⟩:=hrel
  by_cases hlt:q<2
  · have hi:=fun W=>hix q hlt W
    have hwd:(if q=0 then c0 else c1)=wd b (64*q):=by
     rcases (show q=0∨q=1 by omega) with rfl | rfl
     · exact Hc0.out
     · exact Hc1.out
    rw [hwd] at hi
    have hlt':(q:Int)<2:=by omega
    clear hix Hx Hy Ha0 Ha1 Hc0 Hc1 rB rV bV hwd
    go_wp2_with (rw [hi])
    clear hi
    go_loopw [5,6,7,8,10,21] (fun s5 s6 s7 s8 s10 i wq=>∃ t:Nat,t≤64∧i = .int .i64 t∧s5 = .int .u64 (wd (gXp (64*q+t) a) 0)∧s6 = .int .u64 (wd (gXp (64*q+t) a) 64)∧s7 = .int .u64 (wd (gT b (64*q+t) a) 0)∧s8 = .int .u64 (wd (gT b (64*q+t) a) 64)∧s10 = .int .u64 ((wd b (64*q)*2 ^ t%18446744073709551616:Nat):Int)∧wq=wr) (fun _ _ _ _ _ i _=>64 - (intOf i).toNat)
    case atStart=>exact ⟨0,by decide,rfl,rfl,rfl,rfl,rfl,by rw [Nat.pow_zero,Nat.mul_one,Nat.mod_eq_of_lt (wd_lt _ _)],rfl⟩
    case round =>
     obtain ⟨t,ht,rfl,rfl,rfl,rfl,rfl,rfl,rfl⟩:=hrel
     by_cases htl:t<64
     · have htl':(t:Int)<64:=by omega
       have e1:=x_hi (gXp (64*q+t) a)
       have e2:=x_lo (gXp (64*q+t) a)
       have e3:=x_sum (wd (gT b (64*q+t) a) 0) (wd (gXp (64*q+t) a) 0) _ _ (wd_lt _ _) (wd_lt _ _) (wd_top b (64*q) t htl)
       have e4:=x_sum (wd (gT b (64*q+t) a) 64) (wd (gXp (64*q+t) a) 64) _ _ (wd_lt _ _) (wd_lt _ _) (wd_top b (64*q) t htl)
       rw [←(step_words a b (64*q+t)).1] at e3
       rw [←(step_words a b (64*q+t)).2] at e4
       have e5:IntKind.u64.wrap (((wd b (64*q)*2 ^ t%18446744073709551616:Nat):Int)*2)=((wd b (64*q)*2 ^ (t+1)%18446744073709551616:Nat):Int):=by
        rw [←wd_next]
        show ((wd b (64*q)*2 ^ t%18446744073709551616:Nat):Int)*2%18446744073709551616=_
        omega
       have hg:∀ o,wd (gXp (64*q+(t+1)) a) o=wd (gX (gXp (64*q+t) a)) o:=fun o=>rfl
       have hT:∀ o,wd (gT b (64*q+(t+1)) a) o=wd (gT b (64*q+t+1) a) o:=fun o=>rfl
       rw [←hg 0] at e1
       rw [←hg 64] at e2
       rw [←hT 0] at e3
       rw [←hT 64] at e4
       generalize wd (gXp (64*q+t) a) 0=F at *
       generalize wd (gXp (64*q+t) a) 64=S at *
       generalize wd (gT b (64*q+t) a) 0=s at *
       generalize wd (gT b (64*q+t) a) 64=s2 at *
       generalize wd b (64*q)*2 ^ t%18446744073709551616=W at *
       clear hg hT
       go_wp2
       go_roundw
       case rel=>exact ⟨t+1,htl,by go_num,rfl,rfl,rfl,rfl,rfl,True.intro⟩
       case measure=>simp [intOf];omega
     · obtain rfl:t=64:=by omega
       go_wp2
       go_roundw
       case rel=>exact ⟨q+1,hlt,by go_num,rfl,rfl,rfl,rfl,True.intro⟩
       case measure=>simp [intOf];omega
  · obtain rfl:q=2:=by omega
    have t0:wr.there (w.heap.size+1+1) 0 (b2 fx fy).toArray.size:=rV.there
    have e1:wd (gT b (64*2) a) 0=fx:=Hx.out.symm
    have e2:wd (gT b (64*2) a) 64=fy:=Hy.out.symm
    rw [e1,e2]
    clear hix e1 e2 Hx Hy Ha0 Ha1 Hc0 Hc1 rB
    go_wp2_with (refine wpList_store_mid rfl 101 _ _ rfl (w.heap.size+1+1) 0 (b2 fx fy).toArray rfl rfl t0 (info2a fx fy) (one2 fx fy) ?_)
    (try simp only [Exit.inBlock,Exit.then])
    refine bodyPost_ret (results_cell_mid Tryz.results119 _ _ (w.heap.size+1+1) 0 (b2 fx fy) _ rfl (rV.stored (b2 fx fy) rfl).range Tryz.underlying101 rfl info2) rfl ⟨rfl,?_⟩
    exact below_setCells (by omega) _ _ _ bV
end Go.Proofs.YtcgkajlehdgpoaaGreatDoor
namespace Go.Proofs.YtcgkajlehdgpoaaGreatDoor
open Go.RowKit Go.Shelf
attribute [local go_sem] Oper.semAt_some
def hsV (h s:V8) (n:Nat) (X:Nat→Nat):Nat→V8
 | 0=>s
 | k+1=>gTm (hsV h s n X k ^^^ blkT n X k) h
def hsC (h:V8) (N:Nat→Nat) (X:Nat→Nat→Nat):Nat→V8
 | 0=>vZ
 | i+1=>hsV h (hsC h N X i) (N i) (X i) (nb (N i))
structure HInv (w:World) (l D:Nat) (rec:Loop) (h s:V8) (W:World):Prop where
 lp:W.heap[l]? = some (.loop rec)
 dfr:W.heap[D]? = some (.deferred (some []))
 key:RV W w.heap.size h
 res:RW W (w.heap.size+1) 0 (b2 0 0)
 sum:RV W (w.heap.size+1+1) s
 bel:Below w.heap.size w W
theorem HInv.below {w:World} {l D:Nat} {rec:Loop} {h s:V8} {W W':World} (H:HInv w l D rec h s W) (hb:Below W.heap.size W W'):HInv w l D rec h s W' :=
 ⟨(hb.block l (Array.getElem?_eq_some_iff.1 H.lp).1).trans H.lp,(hb.block D (Array.getElem?_eq_some_iff.1 H.dfr).1).trans H.dfr,H.key.still hb,H.res.still hb,H.sum.still hb,below_next H.bel hb⟩
set_option maxRecDepth 100000 in
set_option maxHeartbeats 4000000 in
theorem hashed_in (n:Nat) (h:V8) (pb lb L:Nat) (N:Nat→Nat) (X:Nat→Nat→Nat) (hX:∀ i j,X i j<256) (U:Nat→Value) (hN:∀ j,N j<4611686018427387904) (hLn:L<1000) (w:World)
 (hlist:w.cell? ⟨pb,0,none⟩=some (.slice (some ⟨lb,0,none⟩) L L)) (hcell:∀ j,j<L→w.cell? ⟨lb,j,none⟩=some (U j)) (hbytes:∀ j,j<L→BytesIn w (U j) (N j) (X j)) :
 CallsIn Fence.wide n Tryz.prog 95 #[blV h,.func (.func 117) #[] #[.pointer (some ⟨pb,0,none⟩)]] w fun e w'=>e = .returned (blV (hsC h N X L))∧Below w.heap.size w w':=by
 obtain ⟨F,hF⟩:∃ F,F=hsC h N X L:=⟨_,rfl⟩
 rw [←hF]
 have HF:=Hid.mk' hF
 clear hF
 unfold blV
 obtain ⟨a0,ha0⟩:∃ x,x=wd h 0:=⟨_,rfl⟩
 obtain ⟨a1,ha1⟩:∃ x,x=wd h 64:=⟨_,rfl⟩
 obtain ⟨f0,hf0⟩:∃ x,x=wd F 0:=⟨_,rfl⟩
 obtain ⟨f1,hf1⟩:∃ x,x=wd F 64:=⟨_,rfl⟩
 rw [←ha0,←ha1,←hf0,←hf1]
 obtain ⟨w2,hw2⟩:∃ V,V=((w.alloc (.cells #[.int .u64 a0,.int .u64 a1] 101)).alloc (.cells #[.int .u64 0,.int .u64 0] 101)).alloc (.cells #[.int .u64 0,.int .u64 0] 101):=⟨_,rfl⟩
 have rS:RV w2 (w.heap.size+1+1) vZ:=by
  have:=RW.fresh ((w.alloc (.cells #[.int .u64 a0,.int .u64 a1] 101)).alloc (.cells #[.int .u64 0,.int .u64 0] 101)) (b2 0 0) 101
  rw [World.size_alloc,World.size_alloc] at this
  rw [hw2];unfold RV;rw [wd_zero,wd_zero];exact this
 have rR:RW w2 (w.heap.size+1) 0 (b2 0 0):=by
  have:=(RW.fresh (w.alloc (.cells #[.int .u64 a0,.int .u64 a1] 101)) (b2 0 0) 101).still ((Below.refl _ _).alloc (Nat.le_refl _) (.cells #[.int .u64 0,.int .u64 0] 101))
  rw [World.size_alloc] at this
  rw [hw2];exact this
 have rK:RV w2 w.heap.size h:=by
  unfold RV
  rw [hw2,←ha0,←ha1];exact ((RW.fresh w (b2 a0 a1) 101).still ((Below.refl _ _).alloc (Nat.le_refl _) _)).still ((Below.refl _ _).alloc (Nat.le_refl _) _)
 have b2':Below w.heap.size w w2:=by rw [hw2];exact (((Below.refl _ _).alloc (Nat.le_refl _) _).alloc (by simp) _).alloc (by simp;omega) _
 have hs2:w2.heap.size=w.heap.size+3:=by rw [hw2];simp
 have Ha0:=Hid.mk' ha0
 have Ha1:=Hid.mk' ha1
 have Hf0:=Hid.mk' hf0
 have Hf1:=Hid.mk' hf1
 have Hw2:=Hid.mk' hw2
 have Hs2:=Hid.mk' hs2
 clear ha0 ha1 hf0 hf1 hw2 hs2
 refine callsIn_of_wp_marks Tryz.func95 rfl trivial ?_ rfl
 simp only [Tryz.ntmps95,List.size_toArray,List.length_cons,List.length_nil,Nat.reduceAdd,Nat.reduceSub,Array.replicate_succ,Array.replicate_zero,List.push_toArray,List.append_toArray,List.nil_append,List.cons_append]
 gi_wp2
 rw [←Hw2.out]
 clear Hw2
 refine wpIn_range_with rfl (fun _=>trivial) (fun h=>by cases h) rfl (enters_of Tryz.func117 (by kernel_rfl) rfl) (fun q0 e1 e2 e4 e5 e6 e7 => ?_)
 have hs2:=Hs2.out
 clear Hs2
 obtain ⟨W1,hW1⟩:∃ W1,W1=(w2.alloc (.deferred (some []))).alloc (.loop q0):=⟨_,rfl⟩
 obtain ⟨l,hl⟩:∃ l,l=w2.heap.size+1:=⟨_,rfl⟩
 have hbl1:Below w2.heap.size w2 W1:=by rw [hW1];exact ((Below.refl _ _).alloc (Nat.le_refl _) _).alloc (by simp) _
 have hl1:W1.heap[l]? = some (.loop q0):=by
  rw [hW1,hl];have:=World.alloc_heap_new (w2.alloc (.deferred (some []))) (.loop q0);rwa [World.size_alloc] at this
 have hD1:W1.heap[w2.heap.size]? = some (.deferred (some [])):=by
  rw [hW1];exact (Below.heap_alloc _ _ _ (by simp)).trans (World.alloc_heap_new w2 _)
 rw [←hW1,←hl]
 obtain ⟨D,hD⟩:∃ D,D=w2.heap.size:=⟨_,rfl⟩
 have hDl:D<l:=by omega
 rw [←hD] at hD1 ⊢
 have hDc:D=w.heap.size+3:=by omega
 clear hW1 hl
 have hI0:HInv w l D q0 h (hsV h (hsC h N X 0) (N 0) (X 0) 0) W1:=⟨hl1,hD1,rK.still hbl1,rR.still hbl1,rS.still hbl1,b2'.trans (hbl1.mono b2'.size)⟩
 have hY:∀ i k V,i<L→16*k<N i→HInv w l D q0 h (hsV h (hsC h N X i) (N i) (X i) k) V→YieldAt Fence.wide (n - 1 - 1) Tryz.prog l #[blV (blkT (N i) (X i) k)] V fun e W'=>e = .returned (.bool true)∧HInv w l D q0 h (hsV h (hsC h N X i) (N i) (X i) (k+1)) W':=by
  intro i k V _ _ hI
  show YieldAt Fence.wide (n - 1 - 1) Tryz.prog l #[blV (blkT (N i) (X i) k)] V fun e W'=>e = .returned (.bool true)∧HInv w l D q0 h (gTm (hsV h (hsC h N X i) (N i) (X i) k ^^^ blkT (N i) (X i) k) h) W'
  generalize hsV h (hsC h N X i) (N i) (X i) k=s at *
  generalize blkT (N i) (X i) k=b at *
  refine yield_round hI.lp (by rw [e5];rfl) ?_
  rw [e4,e5,e6,e7]
  have cp:=fun W=>gplus_any s b W
  have ct:=fun W=>gtimes_any (s ^^^ b) h W
  unfold blV at *
  obtain ⟨x0,hx0⟩:∃ x,x=wd b 0:=⟨_,rfl⟩
  obtain ⟨x1,hx1⟩:∃ x,x=wd b 64:=⟨_,rfl⟩
  obtain ⟨V1,hV1⟩:∃ V1,V1=V.alloc (.cells #[.int .u64 x0,.int .u64 x1] 101):=⟨_,rfl⟩
  have rB:RW V1 V.heap.size 0 (b2 x0 x1):=by rw [hV1];exact RW.fresh _ _ _
  have bV1:Below V.heap.size V V1:=by rw [hV1];exact (Below.refl _ _).alloc (Nat.le_refl _) _
  have hI1:=hI.below bV1
  obtain ⟨V2,hV2⟩:∃ V2,V2=V1.putObj l (.loop { q0 with state := .busy }):=⟨_,rfl⟩
  have hbV:But (fun k=>k=l) V1 V2:=by rw [hV2];exact but_put _ _ _
  have hlV:V2.heap[l]? = some (.loop { q0 with state := .busy }):=by rw [hV2];exact World.putObj_heap_same (Array.getElem?_eq_some_iff.1 hI1.lp).1
  have hDV:V2.heap[D]? = some (.deferred (some [])):=(hbV.block _ (Array.getElem?_eq_some_iff.1 hI1.dfr).1 (by omega)).trans hI1.dfr
  have hlb:l<V.heap.size:=(Array.getElem?_eq_some_iff.1 hI.lp).1
  have hbeg:(Instr.beginRound l).run Tryz.prog V1 = .ok () V2:=by rw [hV2];exact run_beginRound hI1.lp e1
  replace rB:=rB.but hbV (by omega)
  have rK1:=hI1.key.but hbV (by omega)
  have rR1:=hI1.res.but hbV (by omega)
  have rS1:=hI1.sum.but hbV (by omega)
  have hBV:Below w.heap.size w V2:=hI1.bel.trans (hbV.below hI1.bel.size (by omega))
  have hfin:∀ V3:World,Out (w.heap.size+1+1) 0 2 V2 V3→RV V3 (w.heap.size+1+1) (gTm (s ^^^ b) h)→∃ v W',(Instr.endRound l none).run Tryz.prog V3 = .ok v W'∧(Ending.returned v = .returned (.bool true)∧HInv w l D q0 h (gTm (s ^^^ b) h) W'):=by
   intro V3 hO r3
   have hb3:=hO.but
   have hl3:V3.heap[l]? = some (.loop { q0 with state := .busy }):=(hb3.block l (Array.getElem?_eq_some_iff.1 hlV).1 (by omega)).trans hlV
   have hrec:({ { q0 with state := .busy } with state := .ready,pending:=none }:Loop)=q0:=loop_back q0 e1 e2
   have hb5:=but_put V3 l (.loop q0)
   refine ⟨_,_,run_endRound none hl3,rfl,?_⟩
   simp only [Option.isNone_none,if_true,hrec]
   have hD3:=(hb3.block D (Array.getElem?_eq_some_iff.1 hDV).1 (by omega)).trans hDV
   exact ⟨World.putObj_heap_same (Array.getElem?_eq_some_iff.1 hl3).1,(hb5.block D (Array.getElem?_eq_some_iff.1 hD3).1 (by omega)).trans hD3,(rK1.but hb3 (by omega)).but hb5 (by omega),(rR1.but hb3 (by omega)).but hb5 (by omega),r3.but hb5 (by omega),(hBV.trans (hb3.below hBV.size (by omega))).trans (hb5.below (Nat.le_trans hBV.size hb3.size) (by omega))⟩
  have hsV:w.heap.size+1+1<V2.heap.size:=rS1.lt
  have nB:V.heap.size≠w.heap.size+1+1:=by omega
  have nK:w.heap.size≠w.heap.size+1+1:=by omega
  have HV1:=Hid.mk' hV1
  rw [←hx0,←hx1] at cp ⊢
  unfold RV at *
  generalize wd s 0=s0 at *
  generalize wd s 64=s1 at *
  generalize wd (s ^^^ b) 0=p0 at *
  generalize wd (s ^^^ b) 64=p1 at *
  generalize wd h 0=k0 at *
  generalize wd h 64=k1 at *
  generalize wd (gTm (s ^^^ b) h) 0=m0 at *
  generalize wd (gTm (s ^^^ b) h) 64=m1 at *
  clear hV2 hV1 hx0 hx1 hI e1 e2 e4 e5 e6 e7 hI0 hbV hBV hDV hlV hI1 bV1 rR1 hD hDc hDl
  gi_wp2
  rw [←HV1.out]
  refine ⟨V2,hbeg,?_⟩
  gi_wp2
  have hdr:Below V2.heap.size V2 V2.drew:=(Below.refl _ _).drew
  replace rB:=rB.still hdr
  replace rK1:=rK1.still hdr
  replace rS1:=rS1.still hdr
  have hO0:Out (w.heap.size+1+1) 0 2 V2 V2.drew:=Out.drew _
  replace hsV:w.heap.size+1+1<V2.drew.heap.size:=hsV
  refine wpIn_held (S:=fun u=>Out (w.heap.size+1+1) 0 2 V2.drew u) (by kernel_rfl) (by kernel_rfl) (Out.refl _ _ _ _) (fun hS => ?_)
  generalize V2.drew=V3 at *
  refine tlO 1 rB nB hS 101 Tryz.underlying101 info2 ?_
  (try simp only [pS])
  refine tlO 3 rK1 nK hS 101 Tryz.underlying101 info2 ?_
  (try simp only [pS])
  refine lo 0 101 5 rS1 hS Tryz.underlying101 info2 ?_
  (try simp only [pS])
  refine cl 2 (cp _) ?_
  rintro e V4 ⟨rfl,hb4⟩
  refine ⟨_,rfl,Out.of_below hb4 hsV,?_⟩
  (try simp only [pS])
  refine cl 4 (ct _) ?_
  rintro e V5 ⟨rfl,hb5⟩
  have hb45:=below_next hb4 hb5
  refine ⟨_,rfl,Out.of_below hb45 hsV,?_⟩
  (try simp only [pS])
  replace rS1:=rS1.still hb45
  refine so 5 101 5 13 (b2 m0 m1) rS1 rfl ((Out.of_below hb45 hsV).trans (Out.setCells _ _ (Nat.le_refl _) (Nat.le_refl _))) (info2a m0 m1) (one2 m0 m1) (fun r5 => ?_)
  refine wpAnyH_done (by kernel_rfl) ?_ _
  refine OnlyN.normal ?_
  dsimp only [Act.put]
  have hf:=hfin _ (hO0.trans ((Out.of_below hb45 hsV).trans (Out.setCells _ _ (Nat.le_refl _) (Nat.le_refl _)))) r5
  clear hfin ct cp rB rK1 rS1 hb4 hb5 hb45 hS
  gi_wp2
  exact hf
 have hL0:hsV h (hsC h N X L) (N L) (X L) 0=F:=HF.out.symm
 have hcells:∀ i k W,HInv w l D q0 h (hsV h (hsC h N X i) (N i) (X i) k) W→Below w.heap.size w W:=fun _ _ _ H=>H.bel
 refine (giter_in (n - 1) l pb lb L N X hX U (fun i k W=>HInv w l D q0 h (hsV h (hsC h N X i) (N i) (X i) k) W) (fun i k W H=>(H.bel.cell (block_lt_of_cell hlist)).trans hlist) (fun i k W H j hj=>(H.bel.cell (block_lt_of_cell (hcell j hj))).trans (hcell j hj)) (fun i k W H j hj=>(hbytes j hj).keep H.bel) hN hLn (fun i k W W' H hb=>H.below hb) (fun i W H=>H) hY W1 hI0).mono ?_
 rintro e W2 ⟨⟨v,rfl⟩,hG⟩
 rw [hL0] at hG
 obtain ⟨V,hV⟩:∃ V,V=W2.putObj l (.loop { q0 with state := .exhausted }):=⟨_,rfl⟩
 have hbV:But (fun k=>k=l) W2 V:=by rw [hV];exact but_put _ _ _
 have hDV:V.heap[D]? = some (.deferred (some [])):=(hbV.block _ (Array.getElem?_eq_some_iff.1 hG.dfr).1 (by omega)).trans hG.dfr
 have hBV:Below w.heap.size w V:=hG.bel.trans (hbV.below hG.bel.size (by omega))
 have hsum:=hG.sum.but hbV (by omega)
 have hres:=hG.res.but hbV (by omega)
 refine ⟨none,V,?_,?_⟩
 · have h:=run_endLoop (P:=Tryz.prog) hG.lp (by rw [e1];simp)
   rw [←hV,e2] at h
   exact h
 have f0e:=Hf0.out
 have f1e:=Hf1.out
 rw [←f0e,←f1e] at hsum
 have t0:V.there (w.heap.size+1) 0 (b2 f0 f1).toArray.size:=hres.there
 have hD':D<V.heap.size:=(Array.getElem?_eq_some_iff.1 hDV).1
 clear hV hY hI0 e1 e2 e4 e5 e6 e7 hbl1 hl1 hD1 hG hcells hL0 HF Hf0 Hf1 f0e f1e Ha0 Ha1 hlist hcell hbytes hN rS rR rK
 gi_wp2_with (first
  | (refine wpListIn_load_mid rfl 101 _ rfl (w.heap.size+1+1) 0 rfl (b2 f0 f1) _ hsum.range Tryz.underlying101 rfl info2 ?_)
  | (refine wpListIn_store_mid rfl 101 _ _ rfl (w.heap.size+1) 0 (b2 f0 f1).toArray rfl rfl t0 (info2a f0 f1) (one2 f0 f1) ?_))
 subst hDc
 dsimp only [Act.put]
 have hD4:(V.setCells (w.heap.size+1) 0 (b2 f0 f1)).heap[w.heap.size+3]? = some (.deferred (some [])):=(heap_setCells_other _ _ _ _ _ (by omega)).trans hDV
 have hr4:RW (V.setCells (w.heap.size+1) 0 (b2 f0 f1)) (w.heap.size+1) 0 (b2 f0 f1):=hres.stored (b2 f0 f1) rfl
 have hB4:Below w.heap.size w (V.setCells (w.heap.size+1) 0 (b2 f0 f1)):=below_setCells (by omega) _ _ _ hBV
 have hbV2:=but_put (V.setCells (w.heap.size+1) 0 (b2 f0 f1)) (w.heap.size+3) (.deferred none)
 have hr5:=hr4.but hbV2 (by omega)
 have hB5:=hB4.trans (hbV2.below hB4.size (by omega))
 refine ⟨by simp,.inl ⟨_,_,rfl,run_takeDeferred hD4,?_⟩⟩
 exact ⟨_,results_cell_mid Tryz.results95 _ _ (w.heap.size+1) 0 (b2 f0 f1) _ rfl hr5.range Tryz.underlying101 rfl info2,rfl,hB5⟩
theorem hashed_any (h:V8) (pb lb L:Nat) (N:Nat→Nat) (X:Nat→Nat→Nat) (hX:∀ i j,X i j<256) (U:Nat→Value) (hN:∀ j,N j<4611686018427387904) (hLn:L<1000) (w:World)
 (hlist:w.cell? ⟨pb,0,none⟩=some (.slice (some ⟨lb,0,none⟩) L L)) (hcell:∀ j,j<L→w.cell? ⟨lb,j,none⟩=some (U j)) (hbytes:∀ j,j<L→BytesIn w (U j) (N j) (X j)) :
 Calls Tryz.prog 95 #[blV h,.func (.func 117) #[] #[.pointer (some ⟨pb,0,none⟩)]] w fun e w'=>e = .returned (blV (hsC h N X L))∧Below w.heap.size w w' :=
 callsIn_wide.1 (hashed_in 9 h pb lb L N X hX U hN hLn w hlist hcell hbytes)
end Go.Proofs.YtcgkajlehdgpoaaGreatDoor
namespace Go.Proofs.YtcgkajlehdgpoaaGreatDoor
open Go.RowKit
def hsG (h:V8) (B:Nat→V8) (s:V8):Nat→V8
 | 0=>s
 | k+1=>gTm (hsG h B s k ^^^ B k) h
theorem hsV_G (h s:V8) (n:Nat) (X:Nat→Nat):∀ k,hsV h s n X k=hsG h (blkT n X) s k
 | 0=>rfl
 | k+1=>by
  show gTm (hsV h s n X k ^^^ blkT n X k) h=gTm (hsG h (blkT n X) s k ^^^ blkT n X k) h
  rw [hsV_G h s n X k]
theorem hsS_G (h Z:Nat→Nat):∀ k,toV (hsS h Z k)=hsG (toV h) (fun k=>toV (fun j=>Z (16*k+j))) vZ k
 | 0=>toV_zero
 | k+1=>by
  show toV (tmN (fun j=>hsS h Z k j ^^^ Z (16*k+j)) h)=gTm (hsG (toV h) (fun k=>toV (fun j=>Z (16*k+j))) vZ k ^^^ toV (fun j=>Z (16*k+j))) (toV h)
  rw [←hsS_G h Z k,←toV_xor]
  exact toV_byV _
theorem hsG_S (h:V8) {B C:Nat→V8} (s:V8):∀ k,(∀ j,j<k→B j=C j)→hsG h B s k=hsG h C s k
 | 0,_=>rfl
 | k+1,e=>by
  show gTm (hsG h B s k ^^^ B k) h=gTm (hsG h C s k ^^^ C k) h
  rw [hsG_S h s k (fun j hj=>e j (by omega)),e k (by omega)]
theorem hsG_add (h:V8) (B:Nat→V8) (s:V8) (a:Nat):∀ b,hsG h B s (a+b)=hsG h (fun k=>B (a+k)) (hsG h B s a) b
 | 0=>rfl
 | b+1=>by
  show gTm (hsG h B s (a+b) ^^^ B (a+b)) h=gTm (hsG h (fun k=>B (a+k)) (hsG h B s a) b ^^^ B (a+b)) h
  rw [hsG_add h B s a b]
theorem pad_nb (n:Nat):pad n=16*nb n:=by unfold pad nb;omega
def three {α:Type} (a b c:α) (i:Nat):α:=if i=0 then a else if i=1 then b else c
theorem hash_tag (h M D:Nat→Nat) (ml dl:Nat):toV (hsN h (pad ml+pad dl+16) (auN ml M dl D))=hsC (toV h) (three ml dl 16) (three M D (byV (lnV ml dl))) 3:=by
 show toV (hsS h (gpadN (pad ml+pad dl+16) (auN ml M dl D)) (pad (pad ml+pad dl+16) / 16))=hsV (toV h) (hsV (toV h) (hsV (toV h) vZ ml M (nb ml)) dl D (nb dl)) 16 (byV (lnV ml dl)) (nb 16)
 have e0:pad (pad ml+pad dl+16) / 16=nb ml+(nb dl+1):=by unfold pad nb;omega
 rw [hsS_G,hsV_G,hsV_G,hsV_G,e0,hsG_add,hsG_add]
 have p1:=pad_nb ml
 have p2:=pad_nb dl
 have e1:hsG (toV h) (fun k=>toV (fun j=>gpadN (pad ml+pad dl+16) (auN ml M dl D) (16*k+j))) vZ (nb ml)=hsG (toV h) (blkT ml M) vZ (nb ml):=hsG_S _ _ _ fun k hk=>toV_S fun j hj=>by
  unfold gpadN auN cat
  rw [if_pos (by omega),if_pos (by omega),if_pos (by omega),if_pos (by omega)]
  rfl
 rw [e1]
 have e2:hsG (toV h) (fun k=>toV (fun j=>gpadN (pad ml+pad dl+16) (auN ml M dl D) (16*(nb ml+k)+j))) (hsG (toV h) (blkT ml M) vZ (nb ml)) (nb dl)=hsG (toV h) (blkT dl D) (hsG (toV h) (blkT ml M) vZ (nb ml)) (nb dl):=hsG_S _ _ _ fun k hk=>toV_S fun j hj=>by
  unfold gpadN auN cat
  rw [if_pos (by omega),if_pos (by omega),if_pos (by omega),if_neg (by omega),show 16*(nb ml+k)+j - pad ml=16*k+j by omega]
  rfl
 rw [e2]
 refine hsG_S _ _ _ fun k hk => ?_
 obtain rfl:k=0:=by omega
 have e3:blkT 16 (byV (lnV ml dl)) 0=lnV ml dl:=by
  have:blkT 16 (byV (lnV ml dl)) 0=toV (byV (lnV ml dl)):=toV_S fun j hj=>by
   unfold gpadN
   rw [if_pos (by omega),Nat.mul_zero,Nat.zero_add]
  rw [this,toV_byV]
 rw [e3]
 unfold lnV
 refine toV_S fun j hj => ?_
 unfold gpadN auN cat
 rw [if_pos (by omega)]
 by_cases h8:j<8
 · rw [if_pos (by omega),if_neg (by omega),if_pos h8]
   congr 1
   omega
 · rw [if_neg (by omega),if_neg h8]
   congr 1
   omega
theorem tag_block (ks nn M D:Nat→Nat) (ml dl:Nat):toV (tgN ks nn ml M dl D)=hsC (toV (h0N ks)) (three ml dl 16) (three M D (byV (lnV ml dl))) 3 ^^^ toV (ctB ks nn 1):=by
 rw [←hash_tag,BitVec.xor_comm,←toV_xor]
 rfl
end Go.Proofs.YtcgkajlehdgpoaaGreatDoor
namespace Go.Proofs.YtcgkajlehdgpoaaGreatDoor
open Go.RowKit
theorem zeroL (w:World):Sem.run Tryz.prog (zeroValue 97) w = .ok (.agg (zb 32)) w:=by kernel_rfl
theorem infoL (X:Nat→Nat):(Tryz.prog.info? 97).map (·.size)=some (ints .u8 32 X).length:=by rw [ints_len];kernel_rfl
theorem infoLA (X:Nat→Nat):(Tryz.prog.info? 97).map (·.size)=some (ints .u8 32 X).toArray.size:=by rw [ints_size];kernel_rfl
theorem infoH (X:Nat→Nat):(Tryz.prog.info? 95).map (·.size)=some (ints .u8 16 X).length:=by rw [ints_len];kernel_rfl
theorem results_cell_tmp' {P:Program} {fn:Func} {p q:Tmp} {ty:TypeId} (h:fn.results=#[.cell p ty,.tmp q]) (tmps:Array Value) (w:World) (g o:Nat) (cs:List Value) (d:TypeDesc)
 (hp:tmps.getD p undef = .pointer (some ⟨g,o,none⟩)) (hc:w.rangeAt g o cs)
 (hu:P.underlying ty=some d) (hd:d.isRow=true) (hi:(P.info? ty).map (·.size)=some cs.length) :
 (results fn tmps).run P w = .ok (.tuple #[.agg cs.toArray,tmps.getD q undef]) w:=by
 have hp':tmps[p]?.getD undef = .pointer (some ⟨g,o,none⟩):=by simpa using hp
 simp [results,h,hp',asAddr,run_loadVar_mid w g o ty cs d hc hu hd hi]
def lkN (ks nn:Nat→Nat):Nat→Nat:=over (over (fun _=>0) 0 16 ks) 16 12 nn
theorem lkN_key (ks nn:Nat→Nat) (j:Nat) (hj:j<16):lkN ks nn j=ks j:=by
 unfold lkN over
 rw [if_neg (by omega),if_pos (by omega),Nat.sub_zero]
abbrev lkV (ks nn:Nat→Nat):Value := .agg (ints .u8 32 (lkN ks nn)).toArray
set_option maxRecDepth 20000 in
set_option maxHeartbeats 2000000 in
theorem lockOf_good (v u:Value) (ks nn:Nat→Nat) (w:World) (hv:BytesIn w v 16 ks) (hu:BytesIn w u 12 nn) :
 Calls Tryz.prog 66 #[v,u] w fun e w'=>e = .returned (.tuple #[lkV ks nn,.int .i64 0])∧Below w.heap.size w w':=by
 have hz:=zeroL
 have hsz:(Tryz.prog.info? 5).map (·.size)=some 1:=by kernel_rfl
 obtain ⟨xv,cv,rfl,-,-,hsv⟩:=hv.src
 obtain ⟨xu,cu,rfl,-,-,hsu⟩:=hu.src
 obtain ⟨W,hW⟩:∃ W,W=(w.alloc (.cells (zb 32) 97)).alloc (.cells (zb 32) 97):=⟨_,rfl⟩
 have hbW:Below w.heap.size w W:=by rw [hW];exact ((Below.refl _ _).alloc (Nat.le_refl _) _).alloc (by simp) _
 have hA:RowAt .u8 W w.heap.size 0 32 (fun _=>0):=by rw [hW];exact (RowAt.zero w 32 _).alloc (by simp) _
 have hB:RowAt .u8 W (w.heap.size+1) 0 32 (fun _=>0):=by
  have:=RowAt.zero (w.alloc (.cells (zb 32) 97)) 32 97
  rw [World.size_alloc] at this
  rw [hW];exact this
 have src1:=hsv W hbW
 obtain ⟨V,hV⟩:∃ V,V=W.setCells (w.heap.size+1) 0 (ints .u8 16 ks):=⟨_,rfl⟩
 have hbV:Below w.heap.size w V:=by rw [hV];exact below_setCells (by omega) _ _ _ hbW
 have hAV:RowAt .u8 V w.heap.size 0 32 (fun _=>0):=by rw [hV];exact hA.farCells (by omega) _ _
 have hBV:RowAt .u8 V (w.heap.size+1) 0 32 (over (fun _=>0) 0 16 ks):=by
  have:=hB.splice 0 16 ks (by decide)
  rw [Nat.zero_add] at this
  rw [hV];exact this
 have src2:=hsu V hbV
 obtain ⟨U,hU⟩:∃ U,U=V.setCells (w.heap.size+1) 16 (ints .u8 12 nn):=⟨_,rfl⟩
 have hbU:Below w.heap.size w U:=by rw [hU];exact below_setCells (by omega) _ _ _ hbV
 have hAU:RowAt .u8 U w.heap.size 0 32 (fun _=>0):=by rw [hU];exact hAV.farCells (by omega) _ _
 have hBU:RowAt .u8 U (w.heap.size+1) 0 32 (lkN ks nn):=by
  have:=hBV.splice 16 12 nn (by decide)
  rw [Nat.zero_add] at this
  rw [hU];exact this
 have th1:W.there (w.heap.size+1) 0 16:=fun j hj=>hB.there j (by omega)
 have th2:V.there (w.heap.size+1) 16 16:=fun j hj=>by
  have:=hBV.there (16+j) (by omega)
  rwa [Nat.zero_add] at this
 have HW:=Hid.mk' hW
 have HV:=Hid.mk' hV
 have HU:=Hid.mk' hU
 have hi1:=infoL (lkN ks nn)
 have hi2:=infoLA (lkN ks nn)
 have ho:=oneU 32 (lkN ks nn)
 unfold lkV
 generalize lkN ks nn=Z at *
 have th3:U.there w.heap.size 0 (ints .u8 32 Z).toArray.size:=by rw [ints_size];exact hAU.there
 have hrg:=hBU.range
 have m1:16=Nat.min 16 16:=rfl
 have m2:12=Nat.min 12 16:=rfl
 have Hm1:=Hid.mk' m1
 have Hm2:=Hid.mk' m2
 clear hW hV hU hA hB hv hu hsv hsu hAV hBV hBU m1 m2 hbW hbV
 go_enter Tryz.func66,Tryz.ntmps66
 go_wp2_with (first
  | (rw [←HW.out];refine wpList_copy_bytes rfl _ _ 22 22 rfl 5 Tryz.underlying22 hsz (w.heap.size+1) 0 16 16 xv 16 cv rfl rfl 16 ks src1 Hm1.out th1 ?_;rw [←HV.out];clear src1 th1)
  | (refine wpList_copy_bytes rfl _ _ 22 22 rfl 5 Tryz.underlying22 hsz (w.heap.size+1) 16 16 16 xu 12 cu rfl rfl 12 nn src2 Hm2.out th2 ?_;rw [←HU.out];clear src2 th2)
  | (refine wpList_load_mid rfl 97 _ rfl (w.heap.size+1) 0 rfl (ints .u8 32 Z) _ hrg Tryz.underlying97 rfl hi1 ?_)
  | (refine wpList_store_mid rfl 97 _ _ rfl w.heap.size 0 (ints .u8 32 Z).toArray rfl rfl th3 hi2 ho ?_))
 (try simp only [Exit.inBlock,Exit.then])
 refine bodyPost_ret (results_cell_tmp' Tryz.results66 _ _ w.heap.size 0 (ints .u8 32 Z) _ rfl (World.rangeAt_setCells_same _ _ _ _ (by rw [ints_len];exact hAU.there)) Tryz.underlying97 rfl hi1) rfl ⟨rfl,?_⟩
 exact below_setCells (Nat.le_refl _) _ _ _ hbU
theorem blkS_Sg {w a b:Nat→Nat} (h:S16 a b):∀ r,S16 (blkS w a r) (blkS w b r)
 | 0=>addN_S h w 0
 | r+1=>addN_S (colN_S (rowN_S (thrN_S (blkS_Sg h r) boxN) 1) mT) w (r+1)
theorem blkN_Sg {w a b:Nat→Nat} (h:S16 a b):S16 (blkN w a) (blkN w b):=addN_S (rowN_S (thrN_S (blkS_Sg h 9) boxN) 1) w 10
theorem gzb_ints (n:Nat):zb n=(ints .u8 n (fun _=>0)).toArray:=by
 have h:(List.range n).map (fun _=>Value.int .u8 0)=List.replicate n (.int .u8 0):=by
  rw [List.map_const',List.length_range]
 unfold zb ints
 rw [show (fun j:Nat=>Value.int .u8 (((fun _=>0:Nat→Nat) j:Nat):Int))=fun _ => .int .u8 0 from rfl,h]
 simp
set_option maxHeartbeats 1000000 in
theorem bitsOf_any (v:Value) (n:Nat) (X:Nat→Nat) (hn:n<200000) (w:World) (hv:BytesIn w v n X) :
 Calls Tryz.prog 93 #[v] w fun e w'=>e = .returned (.int .u64 ((8*n:Nat):Int))∧w'=w:=by
 obtain ⟨xv,cv,rfl,-,-,-⟩:=hv.src
 have e1:IntKind.u64.wrap (8*(n:Int))=((8*n:Nat):Int):=by show 8*(n:Int)%18446744073709551616=_;omega
 have e2:IntKind.u64.wrap (n:Int)=(n:Int):=by show (n:Int)%18446744073709551616=_;omega
 clear hv
 generalize 8*n=N at *
 go_enter Tryz.func93,Tryz.ntmps93
 go_wp2
 go_ret
 exact ⟨rfl,rfl⟩
set_option maxRecDepth 20000 in
set_option maxHeartbeats 2000000 in
theorem blockBy_any (ks B:Nat→Nat) (hks:∀ j,ks j<256) (hB:∀ j,B j<256) (L:Nat→Nat) (hL:∀ j,j<16→L j=ks j) (w:World) :
 Calls Tryz.prog 94 #[.agg (ints .u8 32 L).toArray,.agg (ints .u8 16 B).toArray] w fun e w'=>e = .returned (blV (toV (blkN (kyN ks) B)))∧Below w.heap.size w w':=by
 obtain ⟨V,hV⟩:∃ V,V=((w.alloc (.cells (ints .u8 32 L).toArray 97)).alloc (.cells (ints .u8 16 B).toArray 95)).alloc (.cells #[.int .u64 0,.int .u64 0] 101):=⟨_,rfl⟩
 have rL:RowAt .u8 V w.heap.size 0 32 L:=by
  rw [hV];exact ((RowAt.box .u8 w 32 L _).alloc (by simp) _).alloc (by simp;omega) _
 have rB:RowAt .u8 V (w.heap.size+1) 0 16 B:=by
  have:=(RowAt.box .u8 (w.alloc (.cells (ints .u8 32 L).toArray 97)) 16 B 95).alloc (by simp) (.cells #[.int .u64 0,.int .u64 0] 101)
  rw [World.size_alloc] at this
  rw [hV];exact this
 have rV:RW V (w.heap.size+1+1) 0 (b2 0 0):=by
  have:=RW.fresh ((w.alloc (.cells (ints .u8 32 L).toArray 97)).alloc (.cells (ints .u8 16 B).toArray 95)) (b2 0 0) 101
  rw [World.size_alloc,World.size_alloc] at this
  rw [hV];exact this
 have bV:Below w.heap.size w V:=by rw [hV];exact (((Below.refl _ _).alloc (Nat.le_refl _) _).alloc (by simp) _).alloc (by simp;omega) _
 have b1:Below V.heap.size V V.drew:=(Below.refl _ _).drew
 have i1:BytesIn V.drew (.slice (some ⟨w.heap.size,0,none⟩) 16 16) 16 ks := .inr ⟨_,_,_,rfl,block_lt_of_cell (rL.drew 0 (by decide)).1,Nat.le_refl _,fun j hj=>by rw [←hL j hj];exact (rL.drew j (by omega)).1⟩
 have i2:BytesIn V.drew (.slice (some ⟨w.heap.size+1,0,none⟩) 16 16) 16 B := .inr ⟨_,_,_,rfl,block_lt_of_cell (rB.drew 0 (by decide)).1,Nat.le_refl _,fun j hj=>(rB.drew j hj).1⟩
 have cB:=block_good _ _ ks B hks (fun j _=>hB j) V.drew i1 i2
 have hbl:=blkN_B (w:=kyN ks) (b:=B) (fun j _=>hB j) (kyN_lt hks)
 obtain ⟨Z,hZ⟩:∃ Z,Z=blkN (kyN ks) B:=⟨_,rfl⟩
 rw [←hZ] at cB hbl ⊢
 have co:=fun v W h=>gblockOf_any v 16 (fun j=>Z j%256) (Nat.le_refl _) (fun j=>Nat.mod_lt _ (by decide)) W h
 have eZ:toV (gpadN 16 (fun j=>Z j%256))=toV Z:=toV_S fun j hj=>by unfold gpadN;rw [if_pos hj];exact Nat.mod_eq_of_lt (hbl j hj)
 rw [eZ] at co
 unfold blV at *
 obtain ⟨fx,hx⟩:∃ x,x=wd (toV Z) 0:=⟨_,rfl⟩
 obtain ⟨fy,hy⟩:∃ y,y=wd (toV Z) 64:=⟨_,rfl⟩
 rw [←hx,←hy] at co ⊢
 have HV:=Hid.mk' hV
 clear hV hx hy hZ eZ i1 i2 rL rB b1
 go_enter Tryz.func94,Tryz.ntmps94
 go_upto_region 1 with (fail)
 rw [←HV.out]
 clear HV
 replace rV:=rV.drew
 replace bV:=bV.drew
 go_region_held3 (fun w'=>Below V.drew.heap.size V.drew w') (first | assumption | exact Below.refl _ _) (first | (go_at_call 118;refine cB.mono ?_;clear cB;rintro e w1 ⟨g1,rfl,r1,hb1⟩))
 have co1:=co (.slice (some ⟨g1,0,none⟩) 16 16) w1 (.inr ⟨_,_,_,rfl,block_lt_of_cell (r1 0 (by decide)).1,Nat.le_refl _,fun j hj=>by
  have e:Z j%256=Z j:=Nat.mod_eq_of_lt (hbl j hj)
  show w1.cell? _=some (.int .u8 ((Z j%256:Nat):Int))
  rw [e];exact (r1 j hj).1⟩)
 replace rV:=rV.still hb1
 have b1:=below_next bV hb1
 have hV2:w.heap.size≤w.heap.size+1+1:=by omega
 clear co hb1 bV r1
 go_wp2_with (first
  | (go_at_call 70;refine co1.mono ?_;clear co1;rintro e w2 ⟨rfl,hb2⟩;(replace rV:=rV.still hb2);(replace b1:=below_next b1 hb2);(have t0:w2.there (w.heap.size+1+1) 0 (b2 fx fy).toArray.size:=rV.there);clear hb2)
  | (refine wpList_store_mid rfl 101 _ _ rfl (w.heap.size+1+1) 0 (b2 fx fy).toArray rfl rfl t0 (info2a fx fy) (one2 fx fy) ?_))
 (try simp only [Exit.inBlock,Exit.then])
 refine bodyPost_ret (results_cell_mid Tryz.results94 _ _ (w.heap.size+1+1) 0 (b2 fx fy) _ rfl (rV.stored (b2 fx fy) rfl).range Tryz.underlying101 rfl info2) rfl ⟨rfl,?_⟩
 exact below_setCells hV2 _ _ _ b1
def lkA (ks nn:Nat→Nat) (n k j:Nat):Nat:=if 32 - k≤j then be4 n (j - 28) else lkN ks nn j
theorem lkA_next (ks nn:Nat→Nat) (n k:Nat) (hk:k<4) (j:Nat) (hj:j<32):upd (lkA ks nn n k) (31 - k) (be4 n (3 - k)) j=lkA ks nn n (k+1) j:=by
 unfold upd lkA
 by_cases e:j=31 - k
 · subst e
   rw [if_pos rfl,if_pos (by omega),show 31 - k - 28=3 - k by omega]
 · rw [if_neg e]
   by_cases e2:32 - k≤j
   · rw [if_pos e2,if_pos (by omega)]
   · rw [if_neg e2,if_neg (by omega)]
theorem lkA_key (ks nn:Nat→Nat) (n j:Nat) (hj:j<16):lkA ks nn n 4 j=ks j:=by
 unfold lkA
 rw [if_neg (by omega),lkN_key _ _ _ hj]
theorem lkA_ctr (ks nn:Nat→Nat) (n j:Nat) (hj:j<16):lkA ks nn n 4 (16+j)=ctN nn n j:=by
 unfold lkA ctN
 by_cases h:j<12
 · rw [if_neg (by omega),if_pos h]
   unfold lkN over
   rw [if_pos (by omega),Nat.add_sub_cancel_left]
 · rw [if_pos (by omega),if_neg h,show 16+j - 28=j - 12 by omega]
set_option maxRecDepth 20000 in
set_option maxHeartbeats 2000000 in
theorem blockAt_any (ks nn:Nat→Nat) (n:Nat) (hks:∀ j,ks j<256) (hnn:∀ j,nn j<256) (w:World) :
 Calls Tryz.prog 92 #[lkV ks nn,.int .u32 n] w fun e w'=>e = .returned (blV (toV (ctB ks nn n)))∧Below w.heap.size w w':=by
 have cb:=fun W=>blockBy_any ks (fun j=>ctN nn n j%256) hks (fun j=>Nat.mod_lt _ (by decide)) (lkA ks nn n 4) (lkA_key ks nn n) W
 have hcl:=ctN_B hnn n
 have eB:ints .u8 16 (fun j=>ctN nn n j%256)=ints .u8 16 (ctN nn n):=ints_congr _ _ _ _ fun j hj=>Nat.mod_eq_of_lt (hcl j hj)
 have eT:toV (blkN (kyN ks) (fun j=>ctN nn n j%256))=toV (ctB ks nn n):=toV_S (blkN_Sg fun j hj=>Nat.mod_eq_of_lt (hcl j hj))
 rw [eB,eT] at cb
 obtain ⟨V,hV⟩:∃ V,V=(w.alloc (.cells (ints .u8 32 (lkN ks nn)).toArray 97)).alloc (.cells #[.int .u64 0,.int .u64 0] 101):=⟨_,rfl⟩
 have rL:RowAt .u8 V w.heap.size 0 32 (lkA ks nn n 0):=by
  rw [hV];exact ((RowAt.box .u8 w 32 (lkN ks nn) _).alloc (by simp) _).congr fun j hj=>by unfold lkA;rw [if_neg (by omega)]
 have rV:RW V (w.heap.size+1) 0 (b2 0 0):=by
  have:=RW.fresh (w.alloc (.cells (ints .u8 32 (lkN ks nn)).toArray 97)) (b2 0 0) 101
  rw [World.size_alloc] at this
  rw [hV];exact this
 have bV:Below w.heap.size w V:=by rw [hV];exact ((Below.refl _ _).alloc (Nat.le_refl _) _).alloc (by simp) _
 unfold blV at *
 obtain ⟨fx,hx⟩:∃ x,x=wd (toV (ctB ks nn n)) 0:=⟨_,rfl⟩
 obtain ⟨fy,hy⟩:∃ y,y=wd (toV (ctB ks nn n)) 64:=⟨_,rfl⟩
 rw [←hx,←hy] at cb ⊢
 have HV:=Hid.mk' hV
 have hi1:=infoL (lkA ks nn n 4)
 have hi3:=infoH (ctN nn n)
 clear hV hx hy eB eT hcl
 go_enter Tryz.func92,Tryz.ntmps92
 go_wp2
 rw [←HV.out]
 clear HV
 go_loopw [6] (fun i wr=>∃ k:Nat,k≤4∧i = .int .i64 k∧RowAt .u8 wr w.heap.size 0 32 (lkA ks nn n k)∧RW wr (w.heap.size+1) 0 (b2 0 0)∧Below w.heap.size w wr) (fun i _=>4 - (intOf i).toNat)
 case atStart=>exact ⟨0,Nat.zero_le _,rfl,rL,rV,bV⟩
 case round =>
  clear rL rV bV
  obtain ⟨k,hk,rfl,rL,rV,bV⟩:=hrel
  by_cases hlt:k<4
  · obtain ⟨c1,f1⟩:=rL (31 - k) (by omega)
    have hs:=rL.set (i:=31 - k) (by omega) (v:=(be4 n (3 - k):Int)) rfl
    rw [Nat.zero_add] at c1 f1 hs
    replace hs:=hs.congr fun j hj=>lkA_next ks nn n k hlt j hj
    obtain ⟨x,hx⟩:∃ x,x=be4 n (3 - k):=⟨_,rfl⟩
    obtain ⟨q,hq⟩:∃ q,q=31 - k:=⟨_,rfl⟩
    obtain ⟨sh,hsh⟩:∃ sh,sh=8*k:=⟨_,rfl⟩
    rw [←hq] at c1 f1 hs
    rw [←hx] at hs
    have e1:IntKind.u8.wrap ((n:Int) / 2 ^ sh)=(x:Int):=by
     rw [hx,hsh]
     unfold be4
     rw [show 3 - (3 - k)=k by omega]
     show (n:Int) / 2 ^ (8*k)%256=_
     simp
    obtain ⟨p,hp⟩:∃ p,p=15 - k:=⟨_,rfl⟩
    have e2:(15:Int) - (k:Int)=(p:Int):=by omega
    have e3:8*(k:Int)=(sh:Int):=by omega
    have e4:16+p=q:=by omega
    have t1:(0:Int)≤(p:Int)∧(p:Int)<16:=by omega
    have t2:(0:Int)≤(sh:Int)∧(sh:Int)<32:=by omega
    have hlt':(k:Int)<4:=by omega
    clear hp hq hsh hx cb hi1 hi3 rL
    go_wp2
    go_roundw
    case rel=>exact ⟨k+1,hlt,by go_num,hs,rV.far w.heap.size q [.int .u8 x] (.inl (by omega)),bV.setCell (Nat.le_refl _) _⟩
    case measure=>simp [intOf];omega
  · obtain rfl:k=4:=by omega
    have hr1:=rL.range
    have rC:RowAt .u8 wr w.heap.size 16 16 (ctN nn n):=fun j hj=>by
     have:=rL (16+j) (by omega)
     rwa [Nat.zero_add,lkA_ctr ks nn n j hj] at this
    have hr2:=rC.range
    generalize lkA ks nn n 4=L at *
    generalize ctN nn n=C at *
    clear rL rC
    go_wp2_with (first
     | (refine wpList_load_mid rfl 97 _ rfl w.heap.size 0 rfl (ints .u8 32 L) _ hr1 Tryz.underlying97 rfl hi1 ?_)
     | (refine wpList_load_mid rfl 95 _ rfl w.heap.size 16 rfl (ints .u8 16 C) _ hr2 Tryz.underlying95 rfl hi3 ?_)
     | (go_at_call 94;refine (cb _).mono ?_;clear cb;rintro e w2 ⟨rfl,hb2⟩;(replace rV:=rV.still hb2);(replace bV:=below_next bV hb2);(have t0:w2.there (w.heap.size+1) 0 (b2 fx fy).toArray.size:=rV.there);clear hb2)
     | (refine wpList_store_mid rfl 101 _ _ rfl (w.heap.size+1) 0 (b2 fx fy).toArray rfl rfl t0 (info2a fx fy) (one2 fx fy) ?_))
    (try simp only [Exit.inBlock,Exit.then])
    refine bodyPost_ret (results_cell_mid Tryz.results92 _ _ (w.heap.size+1) 0 (b2 fx fy) _ rfl (rV.stored (b2 fx fy) rfl).range Tryz.underlying101 rfl info2) rfl ⟨rfl,?_⟩
    exact below_setCells (Nat.le_succ _) _ _ _ bV
end Go.Proofs.YtcgkajlehdgpoaaGreatDoor
namespace Go.Proofs.YtcgkajlehdgpoaaGreatDoor
open Go.RowKit Go.Shelf
attribute [local go_sem] Oper.semAt_some
theorem Own.but {bad:Nat→Prop} {W W':World} {base g n c:Nat} {X:Nat→Nat} (h:Own base W (.slice (some ⟨g,0,none⟩) n c) n X) (hb:But bad W W') (hne:¬bad g):Own base W' (.slice (some ⟨g,0,none⟩) n c) n X:=by
 rcases h.2 with ⟨e,_⟩ | ⟨g',cap,cur,e,h1,h2,h3⟩
 · cases e
 · cases e
   exact ⟨h.1,.inr ⟨g,c,cur,rfl,h1,(hb.block g (Array.getElem?_eq_some_iff.1 h2).1 hne).trans h2,h3⟩⟩
theorem make_roomN (W:World) (n:Nat) (l:Int) (hl:l=(n:Int)) (hn:n≤1000000):(Instr.makeSlice 22 (.int .i64 0) (.int .i64 l)).run Tryz.prog W = .ok (.slice (some ⟨W.heap.size,0,none⟩) 0 n) (W.alloc (.cells (zb n) 5)):=by
 subst hl
 obtain ⟨i0,hi,hz0,hz1,hz2⟩:=info_parts (show (Tryz.prog.info? 5).map (fun i=>(i.zero,i.size,i.bytes))=some (some (.int .u8 0),1,1) by kernel_rfl)
 have:=run_makeSlice (P:=Tryz.prog) W 22 5 i0 (.int .u8 0) Tryz.underlying22 hi hz0 .i64 .i64 0 n (Int.le_refl _) (by omega) (by rw [hz1];simp;omega) (by rw [hz2];omega) (by omega)
 rw [this,hz1]
 simp only [Int.toNat_natCast,Int.toNat_zero,made_zb]
theorem Own.madeN (base:Nat) (W:World) (c:Nat) (X:Nat→Nat) (hb:base≤W.heap.size) (hc:c<1000000):Own base (W.alloc (.cells (zb c) 5)) (.slice (some ⟨W.heap.size,0,none⟩) 0 c) 0 X :=
 ⟨rfl,.inr ⟨W.heap.size,c,zb c,rfl,hb,World.alloc_heap_new _ _,Nat.zero_le _,by unfold maxLen;omega,by simp [zb],by simp [ints]⟩⟩
theorem RowAt.toRW {K:IntKind} {w:World} {g o n:Nat} {X:Nat→Nat} (h:RowAt K w g o n X) (hn:0<n):RW w g o (ints K n X):=⟨h.range,by rw [ints_len];exact h.there,block_lt_of_cell (h 0 hn).1⟩
structure CInv (w:World) (l D:Nat) (rec:Loop) (ks nn T:Nat→Nat) (n N:Nat) (tv:Value) (k:Nat) (W:World):Prop where
 lp:W.heap[l]? = some (.loop rec)
 dfr:W.heap[D]? = some (.deferred (some []))
 lock:RW W w.heap.size 0 (ints .u8 32 (lkN ks nn))
 txt:RW W (w.heap.size+1) 0 [tv]
 own:Own w.heap.size W (.slice (some ⟨w.heap.size+1+1,0,none⟩) (min n (16*k)) N) (min n (16*k)) T
 out:RW W (w.heap.size+1+1+1) 0 [.slice (some ⟨w.heap.size+1+1,0,none⟩) (min n (16*k)) N]
 num:RW W (w.heap.size+1+1+1+1) 0 [.int .u32 ((2+k:Nat):Int)]
 lst:W.cell? ⟨w.heap.size+1+1+1+1+1,0,none⟩=some tv
 box:W.cell? ⟨w.heap.size+1+1+1+1+1+1,0,none⟩=some (.slice (some ⟨w.heap.size+1+1+1+1+1,0,none⟩) 1 1)
 bel:Below w.heap.size w W
theorem CInv.below {w:World} {l D:Nat} {rec:Loop} {ks nn T:Nat→Nat} {n N:Nat} {tv:Value} {k:Nat} {W W':World} (H:CInv w l D rec ks nn T n N tv k W) (hb:Below W.heap.size W W'):CInv w l D rec ks nn T n N tv k W' :=
 ⟨(hb.block l (Array.getElem?_eq_some_iff.1 H.lp).1).trans H.lp,(hb.block D (Array.getElem?_eq_some_iff.1 H.dfr).1).trans H.dfr,H.lock.still hb,H.txt.still hb,H.own.below hb,H.out.still hb,H.num.still hb,(hb.cell (block_lt_of_cell H.lst)).trans H.lst,(hb.cell (block_lt_of_cell H.box)).trans H.box,below_next H.bel hb⟩
theorem cross_start (w:World) (L:Nat→Nat) (tv:Value) (N:Nat) (hN:N<1000000) (T:Nat→Nat) (w2:World)
 (hw:w2=((((((w.alloc (.cells (ints .u8 32 L).toArray 97)).alloc (.cells #[tv] 22)).alloc (.cells (zb N) 5)).alloc (.cells #[.slice (some ⟨w.heap.size+1+1,0,none⟩) 0 N] 22)).alloc (.cells #[.int .u32 2] 126)).alloc (.cells #[tv] 22)).alloc (.cells #[.slice (some ⟨w.heap.size+1+1+1+1+1,0,none⟩) 1 1] 74)) :
 w2.heap.size=w.heap.size+7∧Below w.heap.size w w2∧RW w2 w.heap.size 0 (ints .u8 32 L)∧RW w2 (w.heap.size+1) 0 [tv]∧Own w.heap.size w2 (.slice (some ⟨w.heap.size+1+1,0,none⟩) 0 N) 0 T∧RW w2 (w.heap.size+1+1+1) 0 [.slice (some ⟨w.heap.size+1+1,0,none⟩) 0 N]∧RW w2 (w.heap.size+1+1+1+1) 0 [.int .u32 2] ∧
  w2.cell? ⟨w.heap.size+1+1+1+1+1,0,none⟩=some tv∧w2.cell? ⟨w.heap.size+1+1+1+1+1+1,0,none⟩=some (.slice (some ⟨w.heap.size+1+1+1+1+1,0,none⟩) 1 1):=by
 have al:∀ (W:World) (o:Obj),Below W.heap.size W (W.alloc o):=fun W o=>(Below.refl _ _).alloc (Nat.le_refl _) _
 obtain ⟨a1,e1⟩:∃ a,a=w.alloc (.cells (ints .u8 32 L).toArray 97):=⟨_,rfl⟩
 obtain ⟨a2,e2⟩:∃ a,a=a1.alloc (.cells #[tv] 22):=⟨_,rfl⟩
 obtain ⟨a3,e3⟩:∃ a,a=a2.alloc (.cells (zb N) 5):=⟨_,rfl⟩
 obtain ⟨a4,e4⟩:∃ a,a=a3.alloc (.cells #[.slice (some ⟨w.heap.size+1+1,0,none⟩) 0 N] 22):=⟨_,rfl⟩
 obtain ⟨a5,e5⟩:∃ a,a=a4.alloc (.cells #[.int .u32 2] 126):=⟨_,rfl⟩
 obtain ⟨a6,e6⟩:∃ a,a=a5.alloc (.cells #[tv] 22):=⟨_,rfl⟩
 rw [←e1,←e2,←e3,←e4,←e5,←e6] at hw
 have s1:a1.heap.size=w.heap.size+1:=by rw [e1];simp
 have s2:a2.heap.size=w.heap.size+1+1:=by rw [e2,World.size_alloc,s1]
 have s3:a3.heap.size=w.heap.size+1+1+1:=by rw [e3,World.size_alloc,s2]
 have s4:a4.heap.size=w.heap.size+1+1+1+1:=by rw [e4,World.size_alloc,s3]
 have s5:a5.heap.size=w.heap.size+1+1+1+1+1:=by rw [e5,World.size_alloc,s4]
 have s6:a6.heap.size=w.heap.size+1+1+1+1+1+1:=by rw [e6,World.size_alloc,s5]
 have t6:Below a6.heap.size a6 w2:=by rw [hw];exact al _ _
 have t5:Below a5.heap.size a5 w2:=below_next (by rw [e6];exact al _ _) t6
 have t4:Below a4.heap.size a4 w2:=below_next (by rw [e5];exact al _ _) t5
 have t3:Below a3.heap.size a3 w2:=below_next (by rw [e4];exact al _ _) t4
 have t2:Below a2.heap.size a2 w2:=below_next (by rw [e3];exact al _ _) t3
 have t1:Below a1.heap.size a1 w2:=below_next (by rw [e2];exact al _ _) t2
 have t0:Below w.heap.size w w2:=below_next (by rw [e1];exact al _ _) t1
 have r0:RW a1 w.heap.size 0 (ints .u8 32 L):=by rw [e1];exact RW.fresh _ _ _
 have r1:RW a2 a1.heap.size 0 [tv]:=by rw [e2];exact RW.fresh _ [tv] _
 have r2:Own w.heap.size a3 (.slice (some ⟨a2.heap.size,0,none⟩) 0 N) 0 T:=by rw [e3];exact Own.madeN _ _ _ _ (by omega) hN
 have r3:RW a4 a3.heap.size 0 [.slice (some ⟨w.heap.size+1+1,0,none⟩) 0 N]:=by rw [e4];exact RW.fresh _ [_] _
 have r4:RW a5 a4.heap.size 0 [.int .u32 2]:=by rw [e5];exact RW.fresh _ [_] _
 have r5:RW a6 a5.heap.size 0 [tv]:=by rw [e6];exact RW.fresh _ [tv] _
 have r6:RW w2 a6.heap.size 0 [.slice (some ⟨w.heap.size+1+1+1+1+1,0,none⟩) 1 1]:=by rw [hw];exact RW.fresh _ [_] _
 rw [s1] at r1
 rw [s2] at r2
 rw [s3] at r3
 rw [s4] at r4
 rw [s5] at r5
 rw [s6] at r6
 refine ⟨by rw [hw,World.size_alloc,s6],t0,r0.still t1,r1.still t2,r2.below t3,r3.still t4,r4.still t5,(r5.still t6).range 0 _ rfl,r6.range 0 _ rfl⟩
theorem RW.one {w:World} {g:Nat} {v:Value} (r:RW w g 0 [v]):w.cell? ⟨g,0,none⟩=some v∧w.frozen? ⟨g,0,none⟩=false:=⟨r.range 0 v rfl,(r.there 0 (Nat.zero_lt_succ _)).2⟩
theorem cross_bytes {ks nn X:Nat→Nat} (hks:∀ j,ks j<256) (hnn:∀ j,nn j<256) (hX:∀ j,X j<256) (n k j:Nat) (hj:j<16) (hl:16*k+j<n):byV (blkT n X k ^^^ toV (ctB ks nn (2+k))) j=trN ks nn X (16*k+j):=by
 unfold blkT
 rw [←toV_xor]
 rw [byV_toV (fun i hi=>xor_byte (padN_lt hX _) (ctB_B hks hnn _ i hi)) j hj]
 unfold trN gpadN
 dsimp only
 rw [if_pos hl,show (16*k+j) / 16=k by omega,show (16*k+j)%16=j by omega]
theorem but_of_below {bad:Nat→Prop} {W W':World} (h:Below W.heap.size W W'):But bad W W':=⟨h.os,h.tape,h.output,h.size,fun k hk _=>h.block k hk⟩
set_option maxRecDepth 100000 in
set_option maxHeartbeats 4000000 in
theorem crossed_in (d:Nat) (ks nn X:Nat→Nat) (n:Nat) (hn:n<200000) (hks:∀ j,ks j<256) (hnn:∀ j,nn j<256) (hX:∀ j,X j<256) (v:Value) (w:World) (hv:BytesIn w v n X) :
 CallsIn Fence.wide d Tryz.prog 67 #[lkV ks nn,v] w fun e w'=>∃ g,e = .returned (.slice (some ⟨g,0,none⟩) n (n+16))∧Own w.heap.size w' (.slice (some ⟨g,0,none⟩) n (n+16)) n (trN ks nn X)∧Below w.heap.size w w':=by
 obtain ⟨xv,cv,rfl,-,-,-⟩:=hv.src
 have hmk:=fun W=>make_roomN W (n+16) ((n+16:Nat):Int) rfl (by omega)
 have cb:=fun xo n c W=>blocks_any xo n c W
 have e1:IntKind.i64.wrap ((n:Int)+16)=((n+16:Nat):Int):=by simp only [IntKind.wrap_i64];omega
 have e2:(n:Int)+16=((n+16:Nat):Int):=by omega
 generalize hN:n+16=N at *
 refine callsIn_of_wp_marks Tryz.func67 rfl trivial ?_ rfl
 simp only [Tryz.ntmps67,List.size_toArray,List.length_cons,List.length_nil,Nat.reduceAdd,Nat.reduceSub,Array.replicate_succ,Array.replicate_zero,List.push_toArray,List.append_toArray,List.nil_append,List.cons_append]
 unfold lkV
 gi_wp2_with (first
  | rw [hmk]
  | (refine ⟨trivial,(fun h=>by cases h),?_⟩;gi_at_call 90;refine (callsIn_wide.2 (cb _ _ _ _)).mono ?_;clear cb;rintro e w2 ⟨rfl,hw2⟩))
 obtain ⟨T,hT⟩:∃ T,T=trN ks nn X:=⟨_,rfl⟩
 have hN2:N<1000000:=by omega
 obtain ⟨hs2,hb2,q0,q1,q2,q3,q4,q5,q6⟩:=cross_start w (lkN ks nn) (.slice xv n cv) N hN2 T w2 hw2
 rw [←hw2]
 have HN:=Hid.mk' hN
 clear hw2 hmk e1 e2 hN2 hN
 refine wpIn_range_with rfl (fun _=>trivial) (fun h=>by cases h) rfl (enters_of Tryz.func117 (by kernel_rfl) rfl) (fun q0' e1 e2 e4 e5 e6 e7 => ?_)
 obtain ⟨W1,hW1⟩:∃ W1,W1=(w2.alloc (.deferred (some []))).alloc (.loop q0'):=⟨_,rfl⟩
 obtain ⟨l,hl⟩:∃ l,l=w2.heap.size+1:=⟨_,rfl⟩
 have hbl1:Below w2.heap.size w2 W1:=by rw [hW1];exact ((Below.refl _ _).alloc (Nat.le_refl _) _).alloc (by simp) _
 have hl1:W1.heap[l]? = some (.loop q0'):=by
  rw [hW1,hl];have:=World.alloc_heap_new (w2.alloc (.deferred (some []))) (.loop q0');rwa [World.size_alloc] at this
 have hD1:W1.heap[w2.heap.size]? = some (.deferred (some [])):=by
  rw [hW1];exact (Below.heap_alloc _ _ _ (by simp)).trans (World.alloc_heap_new w2 _)
 rw [←hW1,←hl]
 obtain ⟨D,hD⟩:∃ D,D=w2.heap.size:=⟨_,rfl⟩
 have hDl:D<l:=by omega
 rw [←hD] at hD1 ⊢
 have hDc:D=w.heap.size+7:=by omega
 clear hW1 hl
 have hI0:CInv w l D q0' ks nn T n N (.slice xv n cv) 0 W1:=⟨hl1,hD1,q0.still hbl1,q1.still hbl1,by rw [Nat.mul_zero,Nat.min_zero];exact q2.below hbl1,by rw [Nat.mul_zero,Nat.min_zero];exact q3.still hbl1,q4.still hbl1,(hbl1.cell (block_lt_of_cell q5)).trans q5,(hbl1.cell (block_lt_of_cell q6)).trans q6,hb2.trans (hbl1.mono hb2.size)⟩
 have hY:∀ k V,16*k<n→CInv w l D q0' ks nn T n N (.slice xv n cv) k V→YieldAt Fence.wide (d - 1 - 1) Tryz.prog l #[blV (blkT n X k)] V fun e W'=>e = .returned (.bool true)∧CInv w l D q0' ks nn T n N (.slice xv n cv) (k+1) W':=by
  intro k V hk hI
  obtain ⟨A,hA⟩:∃ A,A=16*k:=⟨_,rfl⟩
  obtain ⟨m,hm,hmc⟩:∃ m,(m=16∧A+16≤n∨A+m=n∧m<16)∧m≤16:=by
   by_cases h:A+16≤n
   · exact ⟨16,.inl ⟨rfl,h⟩,Nat.le_refl _⟩
   · exact ⟨n - A,.inr ⟨by omega,by omega⟩,by omega⟩
  have hA1:min n (16*k)=A:=by omega
  have hA2:min n (16*(k+1))=A+m:=by omega
  refine yield_round hI.lp (by rw [e5];rfl) ?_
  rw [e4,e5,e6,e7]
  have ca:=fun W=>blockAt_any ks nn (2+k) hks hnn W
  have cp:=fun W=>gplus_any (blkT n X k) (toV (ctB ks nn (2+k))) W
  have cy:=fun W=>gbytes_any (blkT n X k ^^^ toV (ctB ks nn (2+k))) W
  have hby:∀ j,j<m→byV (blkT n X k ^^^ toV (ctB ks nn (2+k))) j=T (A+j):=fun j hj=>by rw [hT,hA];exact cross_bytes hks hnn hX n k j (by omega) (by omega)
  unfold blV at *
  generalize toV (ctB ks nn (2+k))=c at *
  generalize blkT n X k=b at *
  generalize (b ^^^ c)=bc at *
  obtain ⟨x0,hx0⟩:∃ x,x=wd b 0:=⟨_,rfl⟩
  obtain ⟨x1,hx1⟩:∃ x,x=wd b 64:=⟨_,rfl⟩
  rw [←hx0,←hx1] at cp ⊢
  generalize wd c 0=c0 at *
  generalize wd c 64=c1 at *
  generalize wd bc 0=p0 at *
  generalize wd bc 64=p1 at *
  obtain ⟨V1,hV1⟩:∃ V1,V1=V.alloc (.cells #[.int .u64 x0,.int .u64 x1] 101):=⟨_,rfl⟩
  have rB:RW V1 V.heap.size 0 (b2 x0 x1):=by rw [hV1];exact RW.fresh _ _ _
  have bV1:Below V.heap.size V V1:=by rw [hV1];exact (Below.refl _ _).alloc (Nat.le_refl _) _
  have hI1:=hI.below bV1
  obtain ⟨V2,hV2⟩:∃ V2,V2=V1.putObj l (.loop { q0' with state := .busy }):=⟨_,rfl⟩
  have hbV:But (fun k=>k=l) V1 V2:=by rw [hV2];exact but_put _ _ _
  have hlV:V2.heap[l]? = some (.loop { q0' with state := .busy }):=by rw [hV2];exact World.putObj_heap_same (Array.getElem?_eq_some_iff.1 hI1.lp).1
  have hDV:V2.heap[D]? = some (.deferred (some [])):=(hbV.block _ (Array.getElem?_eq_some_iff.1 hI1.dfr).1 (by omega)).trans hI1.dfr
  have hlb:l<V.heap.size:=(Array.getElem?_eq_some_iff.1 hI.lp).1
  have hbeg:(Instr.beginRound l).run Tryz.prog V1 = .ok () V2:=by rw [hV2];exact run_beginRound hI1.lp e1
  replace rB:=rB.but hbV (by omega)
  have rL:=hI1.lock.but hbV (by omega)
  have rX:=hI1.txt.but hbV (by omega)
  have rW:=hI1.own.but hbV (by omega)
  have rO:=hI1.out.but hbV (by omega)
  have rN:=hI1.num.but hbV (by omega)
  have rP:=hbV.cell hI1.lst (by omega)
  have rQ:=hbV.cell hI1.box (by omega)
  have hBV:Below w.heap.size w V2:=hI1.bel.trans (hbV.below hI1.bel.size (by omega))
  rw [hA1] at rW rO
  have hAm:A+m≤N:=by have:=HN.out;omega
  have hfin:∀ V6:World,But (fun q=>q=w.heap.size+1+1∨q=w.heap.size+1+1+1∨q=w.heap.size+1+1+1+1) V2 V6→Own w.heap.size V6 (.slice (some ⟨w.heap.size+1+1,0,none⟩) (A+m) N) (A+m) T→RW V6 (w.heap.size+1+1+1) 0 [.slice (some ⟨w.heap.size+1+1,0,none⟩) (A+m) N]→RW V6 (w.heap.size+1+1+1+1) 0 [.int .u32 ((2+(k+1):Nat):Int)] →
   ∃ v W',(Instr.endRound l none).run Tryz.prog V6 = .ok v W'∧(Ending.returned v = .returned (.bool true)∧CInv w l D q0' ks nn T n N (.slice xv n cv) (k+1) W'):=by
   intro V6 hb3 o6 r6 n6
   have hl3:V6.heap[l]? = some (.loop { q0' with state := .busy }):=(hb3.block l (Array.getElem?_eq_some_iff.1 hlV).1 (by omega)).trans hlV
   have hrec:({ { q0' with state := .busy } with state := .ready,pending:=none }:Loop)=q0':=loop_back q0' e1 e2
   have hb5:=but_put V6 l (.loop q0')
   refine ⟨_,_,run_endRound none hl3,rfl,?_⟩
   simp only [Option.isNone_none,if_true,hrec]
   have hD3:=(hb3.block D (Array.getElem?_eq_some_iff.1 hDV).1 (by omega)).trans hDV
   exact ⟨World.putObj_heap_same (Array.getElem?_eq_some_iff.1 hl3).1,(hb5.block D (Array.getElem?_eq_some_iff.1 hD3).1 (by omega)).trans hD3,(rL.but hb3 (by omega)).but hb5 (by omega),(rX.but hb3 (by omega)).but hb5 (by omega),by rw [hA2];exact o6.but hb5 (by omega),by rw [hA2];exact r6.but hb5 (by omega),n6.but hb5 (by omega),hb5.cell (hb3.cell rP (by omega)) (by omega),hb5.cell (hb3.cell rQ (by omega)) (by omega),(hBV.trans (hb3.below hBV.size (by omega))).trans (hb5.below (Nat.le_trans hBV.size hb3.size) (by omega))⟩
  have hk32:IntKind.u32.wrap (((2+k:Nat):Int)+1)=((2+(k+1):Nat):Int):=by
   show (((2+k:Nat):Int)+1)%4294967296=_
   omega
  have HV1:=Hid.mk' hV1
  obtain ⟨u0,-⟩:=rX.one
  obtain ⟨u1,-⟩:=rO.one
  have hiL:=infoL (lkN ks nn)
  have hlO:w.heap.size+1+1+1<V.heap.size:=by have:=hI.out.lt;omega
  clear hV1 hV2 hx0 hx1 e1 e2 e4 e5 e6 e7 hI0 hbV hBV hDV hlV hI1 hI bV1 hD hDc hDl rX rP rQ hT hA2 hA1 q0 q1 q2 q3 q4 q5 q6 hA hk hs2
  obtain ⟨z,hz⟩:∃ z,z=2+k:=⟨_,rfl⟩
  obtain ⟨z1,hz1⟩:∃ z,z=2+(k+1):=⟨_,rfl⟩
  rw [←hz] at hk32 rN ca
  rw [←hz1] at hk32 hfin
  clear hz hz1
  rcases hm with ⟨rfl,hm⟩ | ⟨hm,hm16⟩
  · have v1:IntKind.i64.wrap ((n:Int) - (A:Int))=(n:Int) - (A:Int):=by simp only [IntKind.wrap_i64];omega
    have v2:(16:Int)≤(n:Int) - (A:Int):=by omega
    gi_wp2
    rw [←HV1.out]
    refine ⟨V2,hbeg,?_⟩
    gi_wp2
    have hdr:Below V2.heap.size V2 V2.drew:=(Below.refl _ _).drew
    have bdr:But (fun q=>q=w.heap.size+1+1) V2 V2.drew:=⟨rfl,rfl,rfl,Nat.le_refl _,fun _ _ _=>rfl⟩
    replace rB:=rB.still hdr
    replace rL:=rL.still hdr
    replace rO:=rO.still hdr
    replace rN:=rN.still hdr
    replace rW:=rW.below hdr
    refine wpIn_last 10 (S:=fun u=>But (fun q=>q=w.heap.size+1+1) V2.drew u) (by kernel_rfl) (by kernel_rfl) (by kernel_rfl) (by kernel_rfl) (by kernel_rfl) (But.refl _ _) (fun hS => ?_)
    generalize V2.drew=V3 at *
    refine tlS 1 (fun u hu=>rB.but hu (by omega)) hS 101 Tryz.underlying101 info2 ?_
    (try simp only [pS])
    refine tlS 2 (fun u hu=>rL.but hu (by omega)) hS 97 Tryz.underlying97 hiL ?_
    (try simp only [pS])
    refine tc 0 hS (fun u hu=>(rO.but hu (by omega)).one.1) ?_
    (try simp only [pS])
    refine tc 3 hS (fun u hu=>(rN.but hu (by omega)).one.1) ?_
    (try simp only [pS])
    refine tg 7 hS ?_
    (try simp only [pS])
    refine cl 4 (ca _) ?_
    rintro e V4 ⟨rfl,hb4⟩
    refine ⟨_,rfl,but_of_below hb4,?_⟩
    (try simp only [pS])
    refine cl 5 (cp _) ?_
    rintro e V5 ⟨rfl,hb5⟩
    replace hb5:=below_next hb4 hb5
    refine ⟨_,rfl,but_of_below hb5,?_⟩
    (try simp only [pS])
    refine cl 6 (cy _) ?_
    rintro e V6 ⟨gy,rfl,hgy,ry,hb6⟩
    have hg6:V3.heap.size≤gy:=Nat.le_trans hb5.size hgy
    replace hb6:=below_next hb5 hb6
    refine ⟨_,rfl,but_of_below hb6,?_⟩
    (try simp only [pS])
    refine tg 8 (but_of_below hb6) ?_
    (try simp only [pS])
    refine ao 9 23 31 w.heap.size (w.heap.size+1+1) A N T (rW.below hb6) gy 16 16 (fun j=>T (A+j)) (fun j hj=>by
     have:=(ry j (by omega)).1
     rw [Nat.zero_add,hby j hj] at this
     exact this) hAm ?_
    intro V7 own7 bt7
    have ot7:But (fun q=>q=w.heap.size+1+1) V3 V7:=(but_of_below hb6).trans bt7
    refine ⟨ot7,?_⟩
    (try simp only [pS])
    replace own7:=own7.congr (Y:=T) (fun j _=>by
     unfold cat
     by_cases h:j<A
     · rw [if_pos h]
     · rw [if_neg h]
       dsimp only
       rw [show A+(j - A)=j by omega])
    replace rO:=rO.but ot7 (by omega)
    replace rN:=rN.but ot7 (by omega)
    obtain ⟨y0,y1⟩:=rO.one
    refine wpAnyH_done (by kernel_rfl) ?_ _
    refine lastRun 10 (w':=V7.setCell ⟨w.heap.size+1+1+1,0,none⟩ (.slice (some ⟨w.heap.size+1+1,0,none⟩) (A+16) N)) ?_
    refine OnlyN.normal ?_
    dsimp only [Act.put]
    have r8:=rO.stored [.slice (some ⟨w.heap.size+1+1,0,none⟩) (A+16) N] rfl
    have bt8:But (fun q=>q=w.heap.size+1+1+1) V7 (V7.setCells (w.heap.size+1+1+1) 0 [.slice (some ⟨w.heap.size+1+1,0,none⟩) (A+16) N]):=(Out.setCells (o:=0) (n:=1) _ _ (Nat.le_refl _) (Nat.le_refl _)).but
    have n8:=rN.but bt8 (by omega)
    have own8:=own7.but bt8 (by omega)
    obtain ⟨V8,hV8⟩:∃ V8,V8=V7.setCells (w.heap.size+1+1+1) 0 [.slice (some ⟨w.heap.size+1+1,0,none⟩) (A+16) N]:=⟨_,rfl⟩
    rw [←hV8] at r8 bt8 n8 own8
    rw [show V7.setCell ⟨w.heap.size+1+1+1,0,none⟩ (.slice (some ⟨w.heap.size+1+1,0,none⟩) (A+16) N)=V8 from hV8.symm]
    have bt9:But (fun q=>q=w.heap.size+1+1+1+1) V8 (V8.setCells (w.heap.size+1+1+1+1) 0 [.int .u32 (z1:Int)]):=(Out.setCells (o:=0) (n:=1) _ _ (Nat.le_refl _) (Nat.le_refl _)).but
    have n9:=n8.stored [.int .u32 (z1:Int)] rfl
    obtain ⟨y2,y3⟩:=n8.one
    have hf:=hfin (V8.setCells (w.heap.size+1+1+1+1) 0 [.int .u32 (z1:Int)]) ((((bdr.trans ot7).mono (fun q h => .inl h)).trans (bt8.mono (fun q h => .inr (.inl h)))).trans (bt9.mono (fun q h => .inr (.inr h)))) (own8.but bt9 (by omega)) (r8.but bt9 (by omega)) n9
    clear hfin hV8 bt9 n9 own8 r8 n8 bt8 bt7 ot7 own7 rO rN y0 y1 ca cp cy hby rB rL rW hb4 hb5 hb6 ry
    gi_wp2
    exact hf
  · have v1:IntKind.i64.wrap ((n:Int) - (A:Int))=(m:Int):=by simp only [IntKind.wrap_i64];omega
    have v3:(n:Int) - (A:Int)=(m:Int):=by omega
    have v2:¬(16:Int)≤(m:Int):=by omega
    have v4:(m:Int)<16:=by omega
    have v5:(0:Int)≤(m:Int):=by omega
    have v6:(m:Int)≤16:=by omega
    clear hm hm16
    gi_wp2
    rw [←HV1.out]
    refine ⟨V2,hbeg,?_⟩
    gi_wp2
    have hdr:Below V2.heap.size V2 V2.drew:=(Below.refl _ _).drew
    have bdr:But (fun q=>q=w.heap.size+1+1) V2 V2.drew:=⟨rfl,rfl,rfl,Nat.le_refl _,fun _ _ _=>rfl⟩
    replace rB:=rB.still hdr
    replace rL:=rL.still hdr
    replace rO:=rO.still hdr
    replace rN:=rN.still hdr
    replace rW:=rW.below hdr
    refine wpIn_last 10 (S:=fun u=>But (fun q=>q=w.heap.size+1+1) V2.drew u) (by kernel_rfl) (by kernel_rfl) (by kernel_rfl) (by kernel_rfl) (by kernel_rfl) (But.refl _ _) (fun hS => ?_)
    generalize V2.drew=V3 at *
    refine tlS 1 (fun u hu=>rB.but hu (by omega)) hS 101 Tryz.underlying101 info2 ?_
    (try simp only [pS])
    refine tlS 2 (fun u hu=>rL.but hu (by omega)) hS 97 Tryz.underlying97 hiL ?_
    (try simp only [pS])
    refine tc 0 hS (fun u hu=>(rO.but hu (by omega)).one.1) ?_
    (try simp only [pS])
    refine tc 3 hS (fun u hu=>(rN.but hu (by omega)).one.1) ?_
    (try simp only [pS])
    refine tg 7 hS ?_
    (try simp only [pS])
    refine cl 4 (ca _) ?_
    rintro e V4 ⟨rfl,hb4⟩
    refine ⟨_,rfl,but_of_below hb4,?_⟩
    (try simp only [pS])
    refine cl 5 (cp _) ?_
    rintro e V5 ⟨rfl,hb5⟩
    replace hb5:=below_next hb4 hb5
    refine ⟨_,rfl,but_of_below hb5,?_⟩
    (try simp only [pS])
    refine cl 6 (cy _) ?_
    rintro e V6 ⟨gy,rfl,hgy,ry,hb6⟩
    have hg6:V3.heap.size≤gy:=Nat.le_trans hb5.size hgy
    replace hb6:=below_next hb5 hb6
    refine ⟨_,rfl,but_of_below hb6,?_⟩
    (try simp only [pS])
    refine tg 8 (but_of_below hb6) ?_
    (try simp only [pS])
    refine ao 9 23 31 w.heap.size (w.heap.size+1+1) A N T (rW.below hb6) gy m 16 (fun j=>T (A+j)) (fun j hj=>by
     have:=(ry j (by omega)).1
     rw [Nat.zero_add,hby j hj] at this
     exact this) hAm ?_
    intro V7 own7 bt7
    have ot7:But (fun q=>q=w.heap.size+1+1) V3 V7:=(but_of_below hb6).trans bt7
    refine ⟨ot7,?_⟩
    (try simp only [pS])
    replace own7:=own7.congr (Y:=T) (fun j _=>by
     unfold cat
     by_cases h:j<A
     · rw [if_pos h]
     · rw [if_neg h]
       dsimp only
       rw [show A+(j - A)=j by omega])
    replace rO:=rO.but ot7 (by omega)
    replace rN:=rN.but ot7 (by omega)
    obtain ⟨y0,y1⟩:=rO.one
    refine wpAnyH_done (by kernel_rfl) ?_ _
    refine lastRun 10 (w':=V7.setCell ⟨w.heap.size+1+1+1,0,none⟩ (.slice (some ⟨w.heap.size+1+1,0,none⟩) (A+m) N)) ?_
    refine OnlyN.normal ?_
    dsimp only [Act.put]
    have r8:=rO.stored [.slice (some ⟨w.heap.size+1+1,0,none⟩) (A+m) N] rfl
    have bt8:But (fun q=>q=w.heap.size+1+1+1) V7 (V7.setCells (w.heap.size+1+1+1) 0 [.slice (some ⟨w.heap.size+1+1,0,none⟩) (A+m) N]):=(Out.setCells (o:=0) (n:=1) _ _ (Nat.le_refl _) (Nat.le_refl _)).but
    have n8:=rN.but bt8 (by omega)
    have own8:=own7.but bt8 (by omega)
    obtain ⟨V8,hV8⟩:∃ V8,V8=V7.setCells (w.heap.size+1+1+1) 0 [.slice (some ⟨w.heap.size+1+1,0,none⟩) (A+m) N]:=⟨_,rfl⟩
    rw [←hV8] at r8 bt8 n8 own8
    rw [show V7.setCell ⟨w.heap.size+1+1+1,0,none⟩ (.slice (some ⟨w.heap.size+1+1,0,none⟩) (A+m) N)=V8 from hV8.symm]
    have bt9:But (fun q=>q=w.heap.size+1+1+1+1) V8 (V8.setCells (w.heap.size+1+1+1+1) 0 [.int .u32 (z1:Int)]):=(Out.setCells (o:=0) (n:=1) _ _ (Nat.le_refl _) (Nat.le_refl _)).but
    have n9:=n8.stored [.int .u32 (z1:Int)] rfl
    obtain ⟨y2,y3⟩:=n8.one
    have hf:=hfin (V8.setCells (w.heap.size+1+1+1+1) 0 [.int .u32 (z1:Int)]) ((((bdr.trans ot7).mono (fun q h => .inl h)).trans (bt8.mono (fun q h => .inr (.inl h)))).trans (bt9.mono (fun q h => .inr (.inr h)))) (own8.but bt9 (by omega)) (r8.but bt9 (by omega)) n9
    clear hfin hV8 bt9 n9 own8 r8 n8 bt8 bt7 ot7 own7 rO rN y0 y1 ca cp cy hby rB rL rW hb4 hb5 hb6 ry
    gi_wp2
    exact hf
 have hmin:min n (16*nb n)=n:=by unfold nb;omega
 refine (giter_in (d - 1) l (w.heap.size+1+1+1+1+1+1) (w.heap.size+1+1+1+1+1) 1 (fun _=>n) (fun _=>X) (fun _=>hX) (fun _ => .slice xv n cv) (fun i k W=>CInv w l D q0' ks nn T n N (.slice xv n cv) (if i=0 then k else nb n) W) (fun i k W H=>H.box) (fun i k W H j hj=>by
  obtain rfl:j=0:=by omega
  exact H.lst) (fun i k W H j hj=>hv.keep H.bel) (fun _=>by omega) (by decide) (fun i k W W' H hb=>H.below hb) (fun i W H=>by
   rw [show (if i=0 then nb n else nb n)=nb n by split <;> rfl] at H
   rw [if_neg (by omega)]
   exact H) (fun i k V hi hk H=>by
    obtain rfl:i=0:=by omega
    rw [if_pos rfl] at H ⊢
    exact hY k V hk H) W1 hI0).mono ?_
 rintro e W2 ⟨⟨v,rfl⟩,hG⟩
 rw [if_neg (by decide)] at hG
 obtain ⟨V,hV⟩:∃ V,V=W2.putObj l (.loop { q0' with state := .exhausted }):=⟨_,rfl⟩
 have hbV:But (fun k=>k=l) W2 V:=by rw [hV];exact but_put _ _ _
 have hDV:V.heap[D]? = some (.deferred (some [])):=(hbV.block _ (Array.getElem?_eq_some_iff.1 hG.dfr).1 (by omega)).trans hG.dfr
 have hBV:Below w.heap.size w V:=hG.bel.trans (hbV.below hG.bel.size (by omega))
 have hout:=hG.out.but hbV (by omega)
 have hown:=hG.own.but hbV (by omega)
 rw [hmin] at hout hown
 refine ⟨none,V,?_,?_⟩
 · have h:=run_endLoop (P:=Tryz.prog) hG.lp (by rw [e1];simp)
   rw [←hV,e2] at h
   exact h
 have hD':D<V.heap.size:=(Array.getElem?_eq_some_iff.1 hDV).1
 obtain ⟨u0,-⟩:=hout.one
 have hb5:=but_put V D (.deferred none)
 have own5:=hown.but hb5 (by omega)
 have hB5:=hBV.trans (hb5.below hBV.size (by omega))
 clear hV hY hI0 e1 e2 e4 e5 e6 e7 hbl1 hl1 hD1 hG q0 q1 q2 q3 q4 q5 q6 hout hown hD hDc hs2
 gi_wp2
 refine ⟨by simp,.inl ⟨_,_,rfl,run_takeDeferred hDV,?_⟩⟩
 have hN:=HN.out
 subst hN
 rw [hT] at own5
 exact ⟨_,results_tmp rfl _ _ _,w.heap.size+1+1,rfl,own5,hB5⟩
theorem crossed_any (ks nn X:Nat→Nat) (n:Nat) (hn:n<200000) (hks:∀ j,ks j<256) (hnn:∀ j,nn j<256) (hX:∀ j,X j<256) (v:Value) (w:World) (hv:BytesIn w v n X) :
 Calls Tryz.prog 67 #[lkV ks nn,v] w fun e w'=>∃ g,e = .returned (.slice (some ⟨g,0,none⟩) n (n+16))∧Own w.heap.size w' (.slice (some ⟨g,0,none⟩) n (n+16)) n (trN ks nn X)∧Below w.heap.size w w' :=
 callsIn_wide.1 (crossed_in 9 ks nn X n hn hks hnn hX v w hv)
end Go.Proofs.YtcgkajlehdgpoaaGreatDoor
namespace Go.Proofs.YtcgkajlehdgpoaaGreatDoor
open Go.RowKit
theorem three_all {α:Type} {p:α→Prop} {a b c:α} (ha:p a) (hb:p b) (hc:p c) (i:Nat):p (three a b c i):=by
 unfold three
 split
 · exact ha
 · split
   · exact hb
   · exact hc
set_option maxRecDepth 100000 in
set_option maxHeartbeats 4000000 in
theorem gtag_any (ks nn M D:Nat→Nat) (ml dl:Nat) (hml:ml<200000) (hdl:dl<200000) (hks:∀ j,ks j<256) (hnn:∀ j,nn j<256) (hM:∀ j,M j<256) (hD:∀ j,D j<256) (m d:Value) (w:World) (hm:BytesIn w m ml M) (hd:BytesIn w d dl D) :
 Calls Tryz.prog 68 #[lkV ks nn,m,d] w fun e w'=>e = .returned (blV (toV (tgN ks nn ml M dl D)))∧Below w.heap.size w w':=by
 have cb1:=fun W h=>bitsOf_any m ml M hml W (hm.keep h)
 have cb2:=fun W h=>bitsOf_any d dl D hdl W (hd.keep h)
 have ch:=fun W=>blockBy_any ks (fun _=>0) hks (fun _=>by decide) (lkN ks nn) (lkN_key ks nn) W
 rw [←gzb_ints,show blkN (kyN ks) (fun _=>0)=h0N ks from rfl] at ch
 have cy:=fun W=>gbytes_any (lnV ml dl) W
 have cbk:=fun xo n c W=>blocks_any xo n c W
 have hXs:∀ i j,three M D (byV (lnV ml dl)) i j<256:=fun i=>three_all (p:=fun X:Nat→Nat=>∀ j,X j<256) hM hD (byV_lt _) i
 have hNs:∀ i,three ml dl 16 i<4611686018427387904:=three_all (p:=fun n=>n<4611686018427387904) (by omega) (by omega) (by decide)
 have cH:=fun pb lb U W h1 h2 h3=>hashed_any (toV (h0N ks)) pb lb 3 (three ml dl 16) (three M D (byV (lnV ml dl))) hXs U hNs (by decide) W h1 h2 h3
 have ca:=fun W=>blockAt_any ks nn 1 hks hnn W
 have cp:=fun W=>gplus_any (hsC (toV (h0N ks)) (three ml dl 16) (three M D (byV (lnV ml dl))) 3) (toV (ctB ks nn 1)) W
 rw [tag_block]
 unfold blV at *
 rw [(ln_words ml dl hml hdl).1,(ln_words ml dl hml hdl).2] at cy
 generalize hLb:byV (lnV ml dl)=Lb at *
 generalize wd (hsC (toV (h0N ks)) (three ml dl 16) (three M D Lb) 3 ^^^ toV (ctB ks nn 1)) 0=f0 at *
 generalize wd (hsC (toV (h0N ks)) (three ml dl 16) (three M D Lb) 3 ^^^ toV (ctB ks nn 1)) 64=f1 at *
 generalize wd (hsC (toV (h0N ks)) (three ml dl 16) (three M D Lb) 3) 0=s0 at *
 generalize wd (hsC (toV (h0N ks)) (three ml dl 16) (three M D Lb) 3) 64=s1 at *
 generalize wd (toV (ctB ks nn 1)) 0=c0 at *
 generalize wd (toV (ctB ks nn 1)) 64=c1 at *
 generalize wd (toV (h0N ks)) 0=k0 at *
 generalize wd (toV (h0N ks)) 64=k1 at *
 have h8m:8*ml<18446744073709551616:=by omega
 generalize 8*ml=m8 at *
 generalize 8*dl=d8 at *
 obtain ⟨xm,cm,rfl,-,-,-⟩:=hm.src
 obtain ⟨xd,cd,rfl,-,-,-⟩:=hd.src
 unfold lkV at *
 have hiL:=infoL (lkN ks nn)
 generalize lkN ks nn=L at *
 obtain ⟨V0,hV0⟩:∃ V,V=(w.alloc (.cells (ints .u8 32 L).toArray 97)).alloc (.cells #[.int .u64 0,.int .u64 0] 101):=⟨_,rfl⟩
 have b0:Below w.heap.size w V0:=by rw [hV0];exact ((Below.refl _ _).alloc (Nat.le_refl _) _).alloc (by simp) _
 have rL:RW V0 w.heap.size 0 (ints .u8 32 L):=by rw [hV0];exact (RW.fresh w _ _).still ((Below.refl _ _).alloc (Nat.le_refl _) _)
 have s0z:V0.heap.size=w.heap.size+1+1:=by rw [hV0];simp
 have rR:RW V0 (w.heap.size+1) 0 (b2 0 0):=by
  have:=RW.fresh (w.alloc (.cells (ints .u8 32 L).toArray 97)) (b2 0 0) 101
  rw [World.size_alloc] at this
  rw [hV0];exact this
 obtain ⟨V1,hV1⟩:∃ V,V=V0.alloc (.cells #[.int .u64 m8,.int .u64 d8] 101):=⟨_,rfl⟩
 have b01:Below V0.heap.size V0 V1:=by rw [hV1];exact (Below.refl _ _).alloc (Nat.le_refl _) _
 have rLen:RW V1 V0.heap.size 0 (b2 m8 d8):=by rw [hV1];exact RW.fresh V0 (b2 m8 d8) 101
 replace rL:=rL.still b01
 replace rR:=rR.still b01
 have b1:=below_next b0 b01
 have HV1:=Hid.mk' hV1
 have HV0:=Hid.mk' hV0
 have rLr:=rL.range
 clear hV0 hV1 s0z b01 hks hnn hM hD
 go_enter Tryz.func68,Tryz.ntmps68
 go_upto_region 3 with (first
  | (go_at_call 93;rw [←HV0.out];refine (cb1 V0 b0).mono ?_;clear cb1;rintro e w1 ⟨rfl,rfl⟩)
  | (go_at_call 93;refine (cb2 _ b0).mono ?_;clear cb2;rintro e w2 ⟨rfl,rfl⟩)
  | (rw [←HV1.out];refine wpList_load_mid rfl 97 _ rfl w.heap.size 0 rfl (ints .u8 32 L) _ rLr Tryz.underlying97 rfl hiL ?_)
  | (refine wpList_val (some 15) (.agg (zb 16)) rfl rfl (by kernel_rfl) ?_)
  | (go_at_call 94;refine (ch _).mono ?_;clear ch;rintro e w3 ⟨rfl,hb3⟩))
 replace rL:=rL.still hb3
 replace rR:=rR.still hb3
 replace rLen:=rLen.still hb3
 have b3:=below_next b1 hb3
 obtain ⟨V4,hV4⟩:∃ V,V=w3.alloc (.cells #[.int .u64 k0,.int .u64 k1] 101):=⟨_,rfl⟩
 have b34:Below w3.heap.size w3 V4:=by rw [hV4];exact (Below.refl _ _).alloc (Nat.le_refl _) _
 have rK:RW V4 w3.heap.size 0 (b2 k0 k1):=by rw [hV4];exact RW.fresh w3 (b2 k0 k1) 101
 rw [←hV4]
 replace rL:=rL.still b34
 replace rR:=rR.still b34
 replace rLen:=rLen.still b34
 have b4:=below_next b3 b34
 clear hV4 HV0 HV1 hb3 b3 b34 b1 b0 rLr
 have hdr:Below V4.heap.size V4 V4.drew:=(Below.refl _ _).drew
 replace rL:=rL.still hdr
 replace rR:=rR.still hdr
 replace rLen:=rLen.still hdr
 replace rK:=rK.still hdr
 replace b4:=below_next b4 hdr
 refine wp_last 11 (S:=fun u=>Below V4.drew.heap.size V4.drew u) (by kernel_rfl) (by kernel_rfl) (by kernel_rfl) (by kernel_rfl) (Below.refl _ _) (fun hS => ?_)
 generalize V4.drew=V5 at *
 refine tlS 0 (fun u hu=>rK.still hu) hS 101 Tryz.underlying101 info2 ?_
 (try simp only [pS])
 refine tg 1 hS ?_
 (try simp only [pS])
 refine tg 2 hS ?_
 (try simp only [pS])
 refine tlS 3 (fun u hu=>rLen.still hu) hS 101 Tryz.underlying101 info2 ?_
 (try simp only [pS])
 refine tlS 8 (fun u hu=>rL.still hu) hS 97 Tryz.underlying97 hiL ?_
 (try simp only [pS])
 refine cl 4 (cy _) ?_
 rintro e V6 ⟨gy,rfl,hgy,ry,hb6⟩
 refine ⟨_,rfl,hb6,?_⟩
 (try simp only [pS])
 have nb6:Below V6.heap.size V6 (V6.alloc (.cells #[.slice xm ml cm,.slice xd dl cd,.slice (some ⟨gy,0,none⟩) 16 16] 22)):=(Below.refl _ _).alloc (Nat.le_refl _) _
 have r7:=RW.fresh V6 [.slice xm ml cm,.slice xd dl cd,.slice (some ⟨gy,0,none⟩) 16 16] 22
 refine wo 5 (v := .slice (some ⟨V6.heap.size,0,none⟩) 3 3) (w':=V6.alloc (.cells #[.slice xm ml cm,.slice xd dl cd,.slice (some ⟨gy,0,none⟩) 16 16] 22)) (by kernel_rfl) (below_next hb6 nb6) ?_
 (try simp only [pS])
 replace ry:=ry.still nb6
 replace hb6:=below_next hb6 nb6
 generalize hV7:V6.alloc (.cells #[.slice xm ml cm,.slice xd dl cd,.slice (some ⟨gy,0,none⟩) 16 16] 22)=V7 at *
 clear hV7 nb6
 refine cl 6 (cbk (some ⟨V6.heap.size,0,none⟩) 3 3 V7) ?_
 rintro e V8 ⟨rfl,hV8⟩
 have nb8:Below V7.heap.size V7 V8:=by rw [hV8];exact (Below.refl _ _).alloc (Nat.le_refl _) _
 have r8:V8.cell? ⟨V7.heap.size,0,none⟩=some (.slice (some ⟨V6.heap.size,0,none⟩) 3 3):=by
  rw [hV8];exact (RW.fresh V7 [_] _).range 0 _ rfl
 replace r7:=r7.still nb8
 replace ry:=ry.still nb8
 replace hb6:=below_next hb6 nb8
 clear hV8 nb8
 refine ⟨_,rfl,hb6,?_⟩
 (try simp only [pS])
 have b8:=below_next b4 hb6
 have cH1:=cH V7.heap.size V6.heap.size (three (.slice xm ml cm) (.slice xd dl cd) (.slice (some ⟨gy,0,none⟩) 16 16)) V8 r8 (fun j hj=>by
  have hr:=r7.range j
  rw [Nat.zero_add] at hr
  rcases (show j=0∨j=1∨j=2 by omega) with rfl | rfl | rfl
  · exact hr _ rfl
  · exact hr _ rfl
  · exact hr _ rfl) (fun j hj=>by
  rcases (show j=0∨j=1∨j=2 by omega) with rfl | rfl | rfl
  · exact hm.keep b8
  · exact hd.keep b8
  · exact .inr ⟨gy,0,16,rfl,block_lt_of_cell (ry 0 (by decide)).1,Nat.le_refl _,fun j hj=>(ry j hj).1⟩)
 clear cH
 refine cl 7 cH1 ?_
 rintro e V9 ⟨rfl,hb9⟩
 replace hb6:=below_next hb6 hb9
 refine ⟨_,rfl,hb6,?_⟩
 (try simp only [pS])
 refine cl 9 (ca _) ?_
 rintro e V10 ⟨rfl,hb10⟩
 replace hb6:=below_next hb6 hb10
 refine ⟨_,rfl,hb6,?_⟩
 (try simp only [pS])
 refine cl 10 (cp _) ?_
 rintro e V11 ⟨rfl,hb11⟩
 replace hb6:=below_next hb6 hb11
 refine ⟨_,rfl,hb6,?_⟩
 (try simp only [pS])
 replace rR:=rR.still hb6
 have b11:=below_next b4 hb6
 refine wpAnyH_done (by kernel_rfl) ?_ _
 refine lastRow 11 101 6 27 (b2 f0 f1) rR rfl (info2a f0 f1) (one2 f0 f1) (fun r12 => ?_)
 refine NoPanic.normal ?_
 dsimp only [Act.put]
 clear cH1 ca cp cy cbk
 go_wp2
 refine bodyPost_ret (results_cell_mid Tryz.results68 _ _ (w.heap.size+1) 0 (b2 f0 f1) _ rfl r12.range Tryz.underlying101 rfl info2) rfl ⟨rfl,?_⟩
 exact below_setCells (Nat.le_succ _) _ _ _ b11
end Go.Proofs.YtcgkajlehdgpoaaGreatDoor
namespace Go.Proofs.YtcgkajlehdgpoaaGreatDoor
open Go.RowKit
theorem padN_16 (X:Nat→Nat):toV (gpadN 16 X)=toV X:=toV_S fun j hj=>by unfold gpadN;rw [if_pos hj]
end Go.Proofs.YtcgkajlehdgpoaaGreatDoor
namespace Go.Proofs.YtcgkajlehdgpoaaGreatDoor
open Go.RowKit
theorem own_down {base base':Nat} {w:World} {v:Value} {n:Nat} {X:Nat→Nat} (h:Own base w v n X) (hb:base'≤base):Own base' w v n X :=
 ⟨h.1,h.2.imp id fun ⟨g,cap,cur,e,h1,h2⟩=>⟨g,cap,cur,e,Nat.le_trans hb h1,h2⟩⟩
theorem lock_var (w:World) (L:Nat→Nat) (V:World) (hV:V=(w.alloc (.cells (zb 32) 97)).setCells w.heap.size 0 (ints .u8 32 L)):RW V w.heap.size 0 (ints .u8 32 L)∧Below w.heap.size w V:=by
 subst hV
 have h:=RowAt.zero w 32 97
 refine ⟨(h.toRW (by decide)).stored _ (by rw [ints_len,ints_len]),below_setCells (Nat.le_refl _) _ _ _ ((Below.refl _ _).alloc (Nat.le_refl _) _)⟩
theorem lock_there (w:World) (L:Nat→Nat):(w.alloc (.cells (zb 32) 97)).there w.heap.size 0 (ints .u8 32 L).toArray.size:=by
 rw [ints_size];exact (RowAt.zero w 32 97).there
theorem tgN_B {ks nn M D:Nat→Nat} (hks:∀ j,ks j<256) (hnn:∀ j,nn j<256) (ml dl:Nat):B16 (tgN ks nn ml M dl D):=fun j hj=>xor_byte (ctB_B hks hnn 1 j hj) (hsN_lt _ _ _ j)
set_option maxRecDepth 20000 in
set_option maxHeartbeats 4000000 in
theorem seal_good (v u m t:Value) (ml n:Nat) (ks nn M X:Nat→Nat) (hml:ml≤65536) (hn:n≤65536) (hks:∀ j,ks j<256) (hnn:∀ j,nn j<256) (hM:∀ j,M j<256) (hX:∀ j,X j<256) (w:World) (hv:BytesIn w v 16 ks) (hu:BytesIn w u 12 nn) (hm:BytesIn w m ml M) (ht:BytesIn w t n X) :
 Calls Tryz.prog 46 #[v,u,m,t] w fun e w'=>∃ s,e = .returned (.tuple #[s,.int .i64 0])∧Own w.heap.size w' s (n+16) (slN ks nn ml M n X)∧Below w.heap.size w w':=by
 have c1:=lockOf_good v u ks nn w hv hu
 have hT:=trN_lt (X:=X) hks hnn hX
 have c2:=fun W h=>crossed_any ks nn X n (by omega) hks hnn hX t W (ht.keep h)
 have c3:=fun d W h hd=>gtag_any ks nn M (trN ks nn X) ml n (by omega) (by omega) hks hnn hM hT m d W (hm.keep h) hd
 have c4:=fun W=>gbytes_any (toV (tgN ks nn ml M n (trN ks nn X))) W
 have hfit:=byV_toV (tgN_B (M:=M) (D:=trN ks nn X) hks hnn ml n)
 have hsl:slN ks nn ml M n X=cat n (trN ks nn X) (tgN ks nn ml M n (trN ks nn X)):=rfl
 rw [hsl]
 unfold blV at *
 generalize wd (toV (tgN ks nn ml M n (trN ks nn X))) 0=g0 at *
 generalize wd (toV (tgN ks nn ml M n (trN ks nn X))) 64=g1 at *
 generalize byV (toV (tgN ks nn ml M n (trN ks nn X)))=GB at *
 generalize tgN ks nn ml M n (trN ks nn X)=G at *
 generalize trN ks nn X=T at *
 unfold lkV at *
 have hz:=zeroL
 have hth:=fun W=>lock_there W (lkN ks nn)
 have hi1:=infoL (lkN ks nn)
 have hi2:=infoLA (lkN ks nn)
 have ho:=oneU 32 (lkN ks nn)
 generalize lkN ks nn=L at *
 obtain ⟨xv,cv,rfl,-,-,-⟩:=hv.src
 obtain ⟨xu,cu,rfl,-,-,-⟩:=hu.src
 obtain ⟨xm,cm,rfl,-,-,-⟩:=hm.src
 obtain ⟨xt,ct,rfl,-,-,-⟩:=ht.src
 have hml':¬(65536:Int)<(ml:Int):=by omega
 have hn':¬(65536:Int)<(n:Int):=by omega
 have hfit2:n+16≤140737488355328:=by omega
 clear hv hu hm ht hks hnn hM hX hT hsl
 go_enter Tryz.func46,Tryz.ntmps46
 go_wp2_with (first
  | (go_at_call 66;refine c1.mono ?_;clear c1;rintro e w1 ⟨rfl,b1⟩;(have hth1:=hth w1);(obtain ⟨V,hV⟩:∃ V,V=(w1.alloc (.cells (zb 32) 97)).setCells w1.heap.size 0 (ints .u8 32 L):=⟨_,rfl⟩);(obtain ⟨rL,bV⟩:=lock_var w1 L V hV);(have HV:=Hid.mk' hV);(replace b1:=below_next b1 bV);(have rLr:=rL.range);clear hth hV bV)
  | (with_reducible (refine id (?_:wpList _ _ _ _ _ _));refine wpList_store_mid rfl 97 _ _ rfl w1.heap.size 0 (ints .u8 32 L).toArray rfl rfl hth1 hi2 ho ?_;rw [List.toList_toArray,←HV.out];clear hth1 HV;(have c2':=c2 V b1);clear c2)
  | (refine wpList_load_mid rfl 97 _ rfl w1.heap.size 0 rfl (ints .u8 32 L) _ rLr Tryz.underlying97 rfl hi1 ?_)
  | (go_at_call 67;refine c2'.mono ?_;clear c2';rintro e w2 ⟨gh,rfl,own2,b2⟩;(replace rLr:=(rL.still b2).range);(replace rL:=rL.still b2);(replace own2:Own w.heap.size w2 _ n T:=own_down own2 b1.size);(replace b1:=below_next b1 b2);(have c3':=c3 _ w2 b1 own2.bytesOf);clear c3 b2)
  | (go_at_call 68;refine c3'.mono ?_;clear c3';rintro e w3 ⟨rfl,b3⟩;(replace own2:=own2.below b3);(replace b1:=below_next b1 b3);clear b3)
  | (go_at_call 69;refine (c4 _).mono ?_;clear c4;rintro e w4 ⟨gt,rfl,hgt,r4,b4⟩;(replace own2:=own2.below b4);(replace b1:=below_next b1 b4);(have src4:Src w4 (some ⟨gt,0,none⟩) 16 GB := .inr ⟨gt,0,rfl,fun j hj=>(r4 j hj).1⟩);(have hz4:=b1.size);clear b4)
  | (at_builtin;refine wpList_append_bytes rfl (.tmp 33) (.tmp 38) rfl w.heap.size _ n T rfl own2 _ 16 16 GB rfl src4 (fun h=>by cases h) hfit2 hz4 ?_;intro v5 w5 own5 grow5;(have b5:=Own.grown b1 grow5 own2 (Nat.le_refl _) hz4)))
 go_ret2
 exact ⟨v5,rfl,own5.congr (fun j hj=>by
  unfold cat
  by_cases h:j<n
  · rw [if_pos h,if_pos h]
  · rw [if_neg h,if_neg h];exact hfit _ (by omega)),b5⟩
end Go.Proofs.YtcgkajlehdgpoaaGreatDoor
