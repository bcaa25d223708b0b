/- What the proof stands on: G9H, G9I, G9K, G9L, G9M, G9Num, G9Aes, G9Kn, G9Ans, G9Fit, G9LS, G9LT, G9LB. -/
import Derived.Test.YtalgabgofpmebaaA8RksM
import Derived.Test.YtalgabgofpmebaaBaseM
import Derived.Test.YtalgabgofpmebaaZAb2M
namespace Go.Proofs.Ytalgabgofpmebaa
open Go.RowKit Go.Shelf
attribute [local go_sem] Oper.semAt_some
theorem Own.but {bad:Nat→Prop} {W W':World} {base g n c:Nat} {X:Nat→Nat} (h:Own base W (.slice (some ⟨g,0,none⟩) n c) n X) (hb:But bad W W') (hne:¬bad g):Own base W' (.slice (some ⟨g,0,none⟩) n c) n X:=by
 rcases h.2 with ⟨e,_⟩ | ⟨g',cap,cur,e,h1,h2,h3⟩
 · cases e
 · cases e
   exact ⟨h.1,.inr ⟨g,c,cur,rfl,h1,(hb.block g (Array.getElem?_eq_some_iff.1 h2).1 hne).trans h2,h3⟩⟩
theorem make_roomN (W:World) (n:Nat) (l:Int) (hl:l=(n:Int)) (hn:n≤1000000):(Instr.makeSlice 22 (.int .i64 0) (.int .i64 l)).run Try.prog W = .ok (.slice (some ⟨W.heap.size,0,none⟩) 0 n) (W.alloc (.cells (zb n) 5)):=by
 subst hl
 obtain ⟨i0,hi,hz0,hz1,hz2⟩:=info_parts (show (Try.prog.info? 5).map (fun i=>(i.zero,i.size,i.bytes))=some (some (.int .u8 0),1,1) by kernel_rfl)
 have:=run_makeSlice (P:=Try.prog) W 22 5 i0 (.int .u8 0) Try.underlying22 hi hz0 .i64 .i64 0 n (Int.le_refl _) (by omega) (by rw [hz1];simp;omega) (by rw [hz2];omega) (by omega)
 rw [this,hz1]
 simp only [Int.toNat_natCast,Int.toNat_zero,made_zb]
theorem Own.madeN (base:Nat) (W:World) (c:Nat) (X:Nat→Nat) (hb:base≤W.heap.size) (hc:c<1000000):Own base (W.alloc (.cells (zb c) 5)) (.slice (some ⟨W.heap.size,0,none⟩) 0 c) 0 X :=
 ⟨rfl,.inr ⟨W.heap.size,c,zb c,rfl,hb,World.alloc_heap_new _ _,Nat.zero_le _,by unfold maxLen;omega,by simp [zb],by simp [ints]⟩⟩
theorem RowAt.toRW {K:IntKind} {w:World} {g o n:Nat} {X:Nat→Nat} (h:RowAt K w g o n X) (hn:0<n):RW w g o (ints K n X):=⟨h.range,by rw [ints_len];exact h.there,block_lt_of_cell (h 0 hn).1⟩
structure CInv (w:World) (l D:Nat) (rec:Loop) (ks nn T:Nat→Nat) (n N:Nat) (tv:Value) (k:Nat) (W:World):Prop where
 lp:W.heap[l]? = some (.loop rec)
 dfr:W.heap[D]? = some (.deferred (some []))
 lock:RW W w.heap.size 0 (ints .u8 32 (lkN ks nn))
 txt:RW W (w.heap.size+1) 0 [tv]
 own:Own w.heap.size W (.slice (some ⟨w.heap.size+1+1,0,none⟩) (min n (16*k)) N) (min n (16*k)) T
 out:RW W (w.heap.size+1+1+1) 0 [.slice (some ⟨w.heap.size+1+1,0,none⟩) (min n (16*k)) N]
 num:RW W (w.heap.size+1+1+1+1) 0 [.int .u32 ((2+k:Nat):Int)]
 lst:W.cell? ⟨w.heap.size+1+1+1+1+1,0,none⟩=some tv
 box:W.cell? ⟨w.heap.size+1+1+1+1+1+1,0,none⟩=some (.slice (some ⟨w.heap.size+1+1+1+1+1,0,none⟩) 1 1)
 bel:Below w.heap.size w W
theorem CInv.below {w:World} {l D:Nat} {rec:Loop} {ks nn T:Nat→Nat} {n N:Nat} {tv:Value} {k:Nat} {W W':World} (H:CInv w l D rec ks nn T n N tv k W) (hb:Below W.heap.size W W'):CInv w l D rec ks nn T n N tv k W' :=
 ⟨(hb.block l (Array.getElem?_eq_some_iff.1 H.lp).1).trans H.lp,(hb.block D (Array.getElem?_eq_some_iff.1 H.dfr).1).trans H.dfr,H.lock.still hb,H.txt.still hb,H.own.below hb,H.out.still hb,H.num.still hb,(hb.cell (block_lt_of_cell H.lst)).trans H.lst,(hb.cell (block_lt_of_cell H.box)).trans H.box,below_next H.bel hb⟩
theorem cross_start (w:World) (L:Nat→Nat) (tv:Value) (N:Nat) (hN:N<1000000) (T:Nat→Nat) (w2:World)
 (hw:w2=((((((w.alloc (.cells (ints .u8 32 L).toArray 54)).alloc (.cells #[tv] 22)).alloc (.cells (zb N) 5)).alloc (.cells #[.slice (some ⟨w.heap.size+1+1,0,none⟩) 0 N] 22)).alloc (.cells #[.int .u32 2] 65)).alloc (.cells #[tv] 22)).alloc (.cells #[.slice (some ⟨w.heap.size+1+1+1+1+1,0,none⟩) 1 1] 64)) :
 w2.heap.size=w.heap.size+7∧Below w.heap.size w w2∧RW w2 w.heap.size 0 (ints .u8 32 L)∧RW w2 (w.heap.size+1) 0 [tv]∧Own w.heap.size w2 (.slice (some ⟨w.heap.size+1+1,0,none⟩) 0 N) 0 T∧RW w2 (w.heap.size+1+1+1) 0 [.slice (some ⟨w.heap.size+1+1,0,none⟩) 0 N]∧RW w2 (w.heap.size+1+1+1+1) 0 [.int .u32 2] ∧
  w2.cell? ⟨w.heap.size+1+1+1+1+1,0,none⟩=some tv∧w2.cell? ⟨w.heap.size+1+1+1+1+1+1,0,none⟩=some (.slice (some ⟨w.heap.size+1+1+1+1+1,0,none⟩) 1 1):=by
 have al:∀ (W:World) (o:Obj),Below W.heap.size W (W.alloc o):=fun W o=>(Below.refl _ _).alloc (Nat.le_refl _) _
 obtain ⟨a1,e1⟩:∃ a,a=w.alloc (.cells (ints .u8 32 L).toArray 54):=⟨_,rfl⟩
 obtain ⟨a2,e2⟩:∃ a,a=a1.alloc (.cells #[tv] 22):=⟨_,rfl⟩
 obtain ⟨a3,e3⟩:∃ a,a=a2.alloc (.cells (zb N) 5):=⟨_,rfl⟩
 obtain ⟨a4,e4⟩:∃ a,a=a3.alloc (.cells #[.slice (some ⟨w.heap.size+1+1,0,none⟩) 0 N] 22):=⟨_,rfl⟩
 obtain ⟨a5,e5⟩:∃ a,a=a4.alloc (.cells #[.int .u32 2] 65):=⟨_,rfl⟩
 obtain ⟨a6,e6⟩:∃ a,a=a5.alloc (.cells #[tv] 22):=⟨_,rfl⟩
 rw [←e1,←e2,←e3,←e4,←e5,←e6] at hw
 have s1:a1.heap.size=w.heap.size+1:=by rw [e1];simp
 have s2:a2.heap.size=w.heap.size+1+1:=by rw [e2,World.size_alloc,s1]
 have s3:a3.heap.size=w.heap.size+1+1+1:=by rw [e3,World.size_alloc,s2]
 have s4:a4.heap.size=w.heap.size+1+1+1+1:=by rw [e4,World.size_alloc,s3]
 have s5:a5.heap.size=w.heap.size+1+1+1+1+1:=by rw [e5,World.size_alloc,s4]
 have s6:a6.heap.size=w.heap.size+1+1+1+1+1+1:=by rw [e6,World.size_alloc,s5]
 have t6:Below a6.heap.size a6 w2:=by rw [hw];exact al _ _
 have t5:Below a5.heap.size a5 w2:=below_next (by rw [e6];exact al _ _) t6
 have t4:Below a4.heap.size a4 w2:=below_next (by rw [e5];exact al _ _) t5
 have t3:Below a3.heap.size a3 w2:=below_next (by rw [e4];exact al _ _) t4
 have t2:Below a2.heap.size a2 w2:=below_next (by rw [e3];exact al _ _) t3
 have t1:Below a1.heap.size a1 w2:=below_next (by rw [e2];exact al _ _) t2
 have t0:Below w.heap.size w w2:=below_next (by rw [e1];exact al _ _) t1
 have r0:RW a1 w.heap.size 0 (ints .u8 32 L):=by rw [e1];exact RW.fresh _ _ _
 have r1:RW a2 a1.heap.size 0 [tv]:=by rw [e2];exact RW.fresh _ [tv] _
 have r2:Own w.heap.size a3 (.slice (some ⟨a2.heap.size,0,none⟩) 0 N) 0 T:=by rw [e3];exact Own.madeN _ _ _ _ (by omega) hN
 have r3:RW a4 a3.heap.size 0 [.slice (some ⟨w.heap.size+1+1,0,none⟩) 0 N]:=by rw [e4];exact RW.fresh _ [_] _
 have r4:RW a5 a4.heap.size 0 [.int .u32 2]:=by rw [e5];exact RW.fresh _ [_] _
 have r5:RW a6 a5.heap.size 0 [tv]:=by rw [e6];exact RW.fresh _ [tv] _
 have r6:RW w2 a6.heap.size 0 [.slice (some ⟨w.heap.size+1+1+1+1+1,0,none⟩) 1 1]:=by rw [hw];exact RW.fresh _ [_] _
 rw [s1] at r1
 rw [s2] at r2
 rw [s3] at r3
 rw [s4] at r4
 rw [s5] at r5
 rw [s6] at r6
 refine ⟨by rw [hw,World.size_alloc,s6],t0,r0.still t1,r1.still t2,r2.below t3,r3.still t4,r4.still t5,(r5.still t6).range 0 _ rfl,r6.range 0 _ rfl⟩
theorem RW.one {w:World} {g:Nat} {v:Value} (r:RW w g 0 [v]):w.cell? ⟨g,0,none⟩=some v∧w.frozen? ⟨g,0,none⟩=false:=⟨r.range 0 v rfl,(r.there 0 (Nat.zero_lt_succ _)).2⟩
theorem cross_bytes {ks nn X:Nat→Nat} (hks:∀ j,ks j<256) (hnn:∀ j,nn j<256) (hX:∀ j,X j<256) (n k j:Nat) (hj:j<16) (hl:16*k+j<n):byV (blkT n X k ^^^ toV (ctB ks nn (2+k))) j=trN ks nn X (16*k+j):=by
 unfold blkT
 rw [←toV_xor]
 rw [byV_toV (fun i hi=>xor_byte (padN_lt hX _) (ctB_B hks hnn _ i hi)) j hj]
 unfold trN padN
 dsimp only
 rw [if_pos hl,show (16*k+j) / 16=k by omega,show (16*k+j)%16=j by omega]
theorem but_of_below {bad:Nat→Prop} {W W':World} (h:Below W.heap.size W W'):But bad W W':=⟨h.os,h.tape,h.output,h.size,fun k hk _=>h.block k hk⟩
set_option maxRecDepth 100000 in
set_option maxHeartbeats 4000000 in
theorem crossed_in (d:Nat) (ks nn X:Nat→Nat) (n:Nat) (hn:n<200000) (hks:∀ j,ks j<256) (hnn:∀ j,nn j<256) (hX:∀ j,X j<256) (v:Value) (w:World) (hv:BytesIn w v n X) :
 CallsIn Fence.wide d Try.prog 31 #[lkV ks nn,v] w fun e w'=>∃ g,e = .returned (.slice (some ⟨g,0,none⟩) n (n+16))∧Own w.heap.size w' (.slice (some ⟨g,0,none⟩) n (n+16)) n (trN ks nn X)∧Below w.heap.size w w':=by
 obtain ⟨xv,cv,rfl,-,-,-⟩:=hv.src
 have hmk:=fun W=>make_roomN W (n+16) ((n+16:Nat):Int) rfl (by omega)
 have cb:=fun xo n c W=>blocks_any xo n c W
 have e1:IntKind.i64.wrap ((n:Int)+16)=((n+16:Nat):Int):=by simp only [IntKind.wrap_i64];omega
 have e2:(n:Int)+16=((n+16:Nat):Int):=by omega
 generalize hN:n+16=N at *
 refine callsIn_of_wp_marks Try.func31 rfl trivial ?_ rfl
 simp only [Try.ntmps31,List.size_toArray,List.length_cons,List.length_nil,Nat.reduceAdd,Nat.reduceSub,Array.replicate_succ,Array.replicate_zero,List.push_toArray,List.append_toArray,List.nil_append,List.cons_append]
 unfold lkV
 gi_wp2_with (first
  | rw [hmk]
  | (refine ⟨trivial,(fun h=>by cases h),?_⟩;gi_at_call 28;refine (callsIn_wide.2 (cb _ _ _ _)).mono ?_;clear cb;rintro e w2 ⟨rfl,hw2⟩))
 obtain ⟨T,hT⟩:∃ T,T=trN ks nn X:=⟨_,rfl⟩
 have hN2:N<1000000:=by omega
 obtain ⟨hs2,hb2,q0,q1,q2,q3,q4,q5,q6⟩:=cross_start w (lkN ks nn) (.slice xv n cv) N hN2 T w2 hw2
 rw [←hw2]
 have HN:=Hid.mk' hN
 clear hw2 hmk e1 e2 hN2 hN
 refine wpIn_range_with rfl (fun _=>trivial) (fun h=>by cases h) rfl (enters_of Try.func39 (by kernel_rfl) rfl) (fun q0' e1 e2 e4 e5 e6 e7 => ?_)
 obtain ⟨W1,hW1⟩:∃ W1,W1=(w2.alloc (.deferred (some []))).alloc (.loop q0'):=⟨_,rfl⟩
 obtain ⟨l,hl⟩:∃ l,l=w2.heap.size+1:=⟨_,rfl⟩
 have hbl1:Below w2.heap.size w2 W1:=by rw [hW1];exact ((Below.refl _ _).alloc (Nat.le_refl _) _).alloc (by simp) _
 have hl1:W1.heap[l]? = some (.loop q0'):=by
  rw [hW1,hl];have:=World.alloc_heap_new (w2.alloc (.deferred (some []))) (.loop q0');rwa [World.size_alloc] at this
 have hD1:W1.heap[w2.heap.size]? = some (.deferred (some [])):=by
  rw [hW1];exact (Below.heap_alloc _ _ _ (by simp)).trans (World.alloc_heap_new w2 _)
 rw [←hW1,←hl]
 obtain ⟨D,hD⟩:∃ D,D=w2.heap.size:=⟨_,rfl⟩
 have hDl:D<l:=by omega
 rw [←hD] at hD1 ⊢
 have hDc:D=w.heap.size+7:=by omega
 clear hW1 hl
 have hI0:CInv w l D q0' ks nn T n N (.slice xv n cv) 0 W1:=⟨hl1,hD1,q0.still hbl1,q1.still hbl1,by rw [Nat.mul_zero,Nat.min_zero];exact q2.below hbl1,by rw [Nat.mul_zero,Nat.min_zero];exact q3.still hbl1,q4.still hbl1,(hbl1.cell (block_lt_of_cell q5)).trans q5,(hbl1.cell (block_lt_of_cell q6)).trans q6,hb2.trans (hbl1.mono hb2.size)⟩
 have hY:∀ k V,16*k<n→CInv w l D q0' ks nn T n N (.slice xv n cv) k V→YieldAt Fence.wide (d - 1 - 1) Try.prog l #[blV (blkT n X k)] V fun e W'=>e = .returned (.bool true)∧CInv w l D q0' ks nn T n N (.slice xv n cv) (k+1) W':=by
  intro k V hk hI
  obtain ⟨A,hA⟩:∃ A,A=16*k:=⟨_,rfl⟩
  obtain ⟨m,hm,hmc⟩:∃ m,(m=16∧A+16≤n∨A+m=n∧m<16)∧m≤16:=by
   by_cases h:A+16≤n
   · exact ⟨16,.inl ⟨rfl,h⟩,Nat.le_refl _⟩
   · exact ⟨n - A,.inr ⟨by omega,by omega⟩,by omega⟩
  have hA1:min n (16*k)=A:=by omega
  have hA2:min n (16*(k+1))=A+m:=by omega
  refine yield_round hI.lp (by rw [e5];rfl) ?_
  rw [e4,e5,e6,e7]
  have ca:=fun W=>blockAt_any ks nn (2+k) hks hnn W
  have cp:=fun W=>gplus_any (blkT n X k) (toV (ctB ks nn (2+k))) W
  have cy:=fun W=>gbytes_any (blkT n X k ^^^ toV (ctB ks nn (2+k))) W
  have hby:∀ j,j<m→byV (blkT n X k ^^^ toV (ctB ks nn (2+k))) j=T (A+j):=fun j hj=>by rw [hT,hA];exact cross_bytes hks hnn hX n k j (by omega) (by omega)
  unfold blV at *
  generalize toV (ctB ks nn (2+k))=c at *
  generalize blkT n X k=b at *
  generalize (b ^^^ c)=bc at *
  obtain ⟨x0,hx0⟩:∃ x,x=wd b 0:=⟨_,rfl⟩
  obtain ⟨x1,hx1⟩:∃ x,x=wd b 64:=⟨_,rfl⟩
  rw [←hx0,←hx1] at cp ⊢
  generalize wd c 0=c0 at *
  generalize wd c 64=c1 at *
  generalize wd bc 0=p0 at *
  generalize wd bc 64=p1 at *
  obtain ⟨V1,hV1⟩:∃ V1,V1=V.alloc (.cells #[.int .u64 x0,.int .u64 x1] 43):=⟨_,rfl⟩
  have rB:RW V1 V.heap.size 0 (b2 x0 x1):=by rw [hV1];exact RW.fresh _ _ _
  have bV1:Below V.heap.size V V1:=by rw [hV1];exact (Below.refl _ _).alloc (Nat.le_refl _) _
  have hI1:=hI.below bV1
  obtain ⟨V2,hV2⟩:∃ V2,V2=V1.putObj l (.loop { q0' with state := .busy }):=⟨_,rfl⟩
  have hbV:But (fun k=>k=l) V1 V2:=by rw [hV2];exact but_put _ _ _
  have hlV:V2.heap[l]? = some (.loop { q0' with state := .busy }):=by rw [hV2];exact World.putObj_heap_same (Array.getElem?_eq_some_iff.1 hI1.lp).1
  have hDV:V2.heap[D]? = some (.deferred (some [])):=(hbV.block _ (Array.getElem?_eq_some_iff.1 hI1.dfr).1 (by omega)).trans hI1.dfr
  have hlb:l<V.heap.size:=(Array.getElem?_eq_some_iff.1 hI.lp).1
  have hbeg:(Instr.beginRound l).run Try.prog V1 = .ok () V2:=by rw [hV2];exact run_beginRound hI1.lp e1
  replace rB:=rB.but hbV (by omega)
  have rL:=hI1.lock.but hbV (by omega)
  have rX:=hI1.txt.but hbV (by omega)
  have rW:=hI1.own.but hbV (by omega)
  have rO:=hI1.out.but hbV (by omega)
  have rN:=hI1.num.but hbV (by omega)
  have rP:=hbV.cell hI1.lst (by omega)
  have rQ:=hbV.cell hI1.box (by omega)
  have hBV:Below w.heap.size w V2:=hI1.bel.trans (hbV.below hI1.bel.size (by omega))
  rw [hA1] at rW rO
  have hAm:A+m≤N:=by have:=HN.out;omega
  have hfin:∀ V6:World,But (fun q=>q=w.heap.size+1+1∨q=w.heap.size+1+1+1∨q=w.heap.size+1+1+1+1) V2 V6→Own w.heap.size V6 (.slice (some ⟨w.heap.size+1+1,0,none⟩) (A+m) N) (A+m) T→RW V6 (w.heap.size+1+1+1) 0 [.slice (some ⟨w.heap.size+1+1,0,none⟩) (A+m) N]→RW V6 (w.heap.size+1+1+1+1) 0 [.int .u32 ((2+(k+1):Nat):Int)] →
   ∃ v W',(Instr.endRound l none).run Try.prog V6 = .ok v W'∧(Ending.returned v = .returned (.bool true)∧CInv w l D q0' ks nn T n N (.slice xv n cv) (k+1) W'):=by
   intro V6 hb3 o6 r6 n6
   have hl3:V6.heap[l]? = some (.loop { q0' with state := .busy }):=(hb3.block l (Array.getElem?_eq_some_iff.1 hlV).1 (by omega)).trans hlV
   have hrec:({ { q0' with state := .busy } with state := .ready,pending:=none }:Loop)=q0':=loop_back q0' e1 e2
   have hb5:=but_put V6 l (.loop q0')
   refine ⟨_,_,run_endRound none hl3,rfl,?_⟩
   simp only [Option.isNone_none,if_true,hrec]
   have hD3:=(hb3.block D (Array.getElem?_eq_some_iff.1 hDV).1 (by omega)).trans hDV
   exact ⟨World.putObj_heap_same (Array.getElem?_eq_some_iff.1 hl3).1,(hb5.block D (Array.getElem?_eq_some_iff.1 hD3).1 (by omega)).trans hD3,(rL.but hb3 (by omega)).but hb5 (by omega),(rX.but hb3 (by omega)).but hb5 (by omega),by rw [hA2];exact o6.but hb5 (by omega),by rw [hA2];exact r6.but hb5 (by omega),n6.but hb5 (by omega),hb5.cell (hb3.cell rP (by omega)) (by omega),hb5.cell (hb3.cell rQ (by omega)) (by omega),(hBV.trans (hb3.below hBV.size (by omega))).trans (hb5.below (Nat.le_trans hBV.size hb3.size) (by omega))⟩
  have hk32:IntKind.u32.wrap (((2+k:Nat):Int)+1)=((2+(k+1):Nat):Int):=by
   show (((2+k:Nat):Int)+1)%4294967296=_
   omega
  have HV1:=Hid.mk' hV1
  obtain ⟨u0,-⟩:=rX.one
  obtain ⟨u1,-⟩:=rO.one
  have hiL:=infoL (lkN ks nn)
  have hlO:w.heap.size+1+1+1<V.heap.size:=by have:=hI.out.lt;omega
  clear hV1 hV2 hx0 hx1 e1 e2 e4 e5 e6 e7 hI0 hbV hBV hDV hlV hI1 hI bV1 hD hDc hDl rX rP rQ hT hA2 hA1 q0 q1 q2 q3 q4 q5 q6 hA hk hs2
  obtain ⟨z,hz⟩:∃ z,z=2+k:=⟨_,rfl⟩
  obtain ⟨z1,hz1⟩:∃ z,z=2+(k+1):=⟨_,rfl⟩
  rw [←hz] at hk32 rN ca
  rw [←hz1] at hk32 hfin
  clear hz hz1
  rcases hm with ⟨rfl,hm⟩ | ⟨hm,hm16⟩
  · have v1:IntKind.i64.wrap ((n:Int) - (A:Int))=(n:Int) - (A:Int):=by simp only [IntKind.wrap_i64];omega
    have v2:(16:Int)≤(n:Int) - (A:Int):=by omega
    gi_wp2
    rw [←HV1.out]
    refine ⟨V2,hbeg,?_⟩
    gi_wp2
    have hdr:Below V2.heap.size V2 V2.drew:=(Below.refl _ _).drew
    have bdr:But (fun q=>q=w.heap.size+1+1) V2 V2.drew:=⟨rfl,rfl,rfl,Nat.le_refl _,fun _ _ _=>rfl⟩
    replace rB:=rB.still hdr
    replace rL:=rL.still hdr
    replace rO:=rO.still hdr
    replace rN:=rN.still hdr
    replace rW:=rW.below hdr
    refine wpIn_last 10 (S:=fun u=>But (fun q=>q=w.heap.size+1+1) V2.drew u) (by kernel_rfl) (by kernel_rfl) (by kernel_rfl) (by kernel_rfl) (by kernel_rfl) (But.refl _ _) (fun hS => ?_)
    generalize V2.drew=V3 at *
    refine tlS 1 (fun u hu=>rB.but hu (by omega)) hS 43 Try.underlying43 info2 ?_
    (try simp only [pS])
    refine tlS 2 (fun u hu=>rL.but hu (by omega)) hS 54 Try.underlying54 hiL ?_
    (try simp only [pS])
    refine tc 0 hS (fun u hu=>(rO.but hu (by omega)).one.1) ?_
    (try simp only [pS])
    refine tc 3 hS (fun u hu=>(rN.but hu (by omega)).one.1) ?_
    (try simp only [pS])
    refine tg 7 hS ?_
    (try simp only [pS])
    refine cl 4 (ca _) ?_
    rintro e V4 ⟨rfl,hb4⟩
    refine ⟨_,rfl,but_of_below hb4,?_⟩
    (try simp only [pS])
    refine cl 5 (cp _) ?_
    rintro e V5 ⟨rfl,hb5⟩
    replace hb5:=below_next hb4 hb5
    refine ⟨_,rfl,but_of_below hb5,?_⟩
    (try simp only [pS])
    refine cl 6 (cy _) ?_
    rintro e V6 ⟨gy,rfl,hgy,ry,hb6⟩
    have hg6:V3.heap.size≤gy:=Nat.le_trans hb5.size hgy
    replace hb6:=below_next hb5 hb6
    refine ⟨_,rfl,but_of_below hb6,?_⟩
    (try simp only [pS])
    refine tg 8 (but_of_below hb6) ?_
    (try simp only [pS])
    refine ao 9 23 31 w.heap.size (w.heap.size+1+1) A N T (rW.below hb6) gy 16 16 (fun j=>T (A+j)) (fun j hj=>by
     have:=(ry j (by omega)).1
     rw [Nat.zero_add,hby j hj] at this
     exact this) hAm ?_
    intro V7 own7 bt7
    have ot7:But (fun q=>q=w.heap.size+1+1) V3 V7:=(but_of_below hb6).trans bt7
    refine ⟨ot7,?_⟩
    (try simp only [pS])
    replace own7:=own7.congr (Y:=T) (fun j _=>by
     unfold cat
     by_cases h:j<A
     · rw [if_pos h]
     · rw [if_neg h]
       dsimp only
       rw [show A+(j - A)=j by omega])
    replace rO:=rO.but ot7 (by omega)
    replace rN:=rN.but ot7 (by omega)
    obtain ⟨y0,y1⟩:=rO.one
    refine wpAnyH_done (by kernel_rfl) ?_ _
    refine lastRun 10 (w':=V7.setCell ⟨w.heap.size+1+1+1,0,none⟩ (.slice (some ⟨w.heap.size+1+1,0,none⟩) (A+16) N)) ?_
    refine OnlyN.normal ?_
    dsimp only [Act.put]
    have r8:=rO.stored [.slice (some ⟨w.heap.size+1+1,0,none⟩) (A+16) N] rfl
    have bt8:But (fun q=>q=w.heap.size+1+1+1) V7 (V7.setCells (w.heap.size+1+1+1) 0 [.slice (some ⟨w.heap.size+1+1,0,none⟩) (A+16) N]):=(Out.setCells (o:=0) (n:=1) _ _ (Nat.le_refl _) (Nat.le_refl _)).but
    have n8:=rN.but bt8 (by omega)
    have own8:=own7.but bt8 (by omega)
    obtain ⟨V8,hV8⟩:∃ V8,V8=V7.setCells (w.heap.size+1+1+1) 0 [.slice (some ⟨w.heap.size+1+1,0,none⟩) (A+16) N]:=⟨_,rfl⟩
    rw [←hV8] at r8 bt8 n8 own8
    rw [show V7.setCell ⟨w.heap.size+1+1+1,0,none⟩ (.slice (some ⟨w.heap.size+1+1,0,none⟩) (A+16) N)=V8 from hV8.symm]
    have bt9:But (fun q=>q=w.heap.size+1+1+1+1) V8 (V8.setCells (w.heap.size+1+1+1+1) 0 [.int .u32 (z1:Int)]):=(Out.setCells (o:=0) (n:=1) _ _ (Nat.le_refl _) (Nat.le_refl _)).but
    have n9:=n8.stored [.int .u32 (z1:Int)] rfl
    obtain ⟨y2,y3⟩:=n8.one
    have hf:=hfin (V8.setCells (w.heap.size+1+1+1+1) 0 [.int .u32 (z1:Int)]) ((((bdr.trans ot7).mono (fun q h => .inl h)).trans (bt8.mono (fun q h => .inr (.inl h)))).trans (bt9.mono (fun q h => .inr (.inr h)))) (own8.but bt9 (by omega)) (r8.but bt9 (by omega)) n9
    clear hfin hV8 bt9 n9 own8 r8 n8 bt8 bt7 ot7 own7 rO rN y0 y1 ca cp cy hby rB rL rW hb4 hb5 hb6 ry
    gi_wp2
    exact hf
  · have v1:IntKind.i64.wrap ((n:Int) - (A:Int))=(m:Int):=by simp only [IntKind.wrap_i64];omega
    have v3:(n:Int) - (A:Int)=(m:Int):=by omega
    have v2:¬(16:Int)≤(m:Int):=by omega
    have v4:(m:Int)<16:=by omega
    have v5:(0:Int)≤(m:Int):=by omega
    have v6:(m:Int)≤16:=by omega
    clear hm hm16
    gi_wp2
    rw [←HV1.out]
    refine ⟨V2,hbeg,?_⟩
    gi_wp2
    have hdr:Below V2.heap.size V2 V2.drew:=(Below.refl _ _).drew
    have bdr:But (fun q=>q=w.heap.size+1+1) V2 V2.drew:=⟨rfl,rfl,rfl,Nat.le_refl _,fun _ _ _=>rfl⟩
    replace rB:=rB.still hdr
    replace rL:=rL.still hdr
    replace rO:=rO.still hdr
    replace rN:=rN.still hdr
    replace rW:=rW.below hdr
    refine wpIn_last 10 (S:=fun u=>But (fun q=>q=w.heap.size+1+1) V2.drew u) (by kernel_rfl) (by kernel_rfl) (by kernel_rfl) (by kernel_rfl) (by kernel_rfl) (But.refl _ _) (fun hS => ?_)
    generalize V2.drew=V3 at *
    refine tlS 1 (fun u hu=>rB.but hu (by omega)) hS 43 Try.underlying43 info2 ?_
    (try simp only [pS])
    refine tlS 2 (fun u hu=>rL.but hu (by omega)) hS 54 Try.underlying54 hiL ?_
    (try simp only [pS])
    refine tc 0 hS (fun u hu=>(rO.but hu (by omega)).one.1) ?_
    (try simp only [pS])
    refine tc 3 hS (fun u hu=>(rN.but hu (by omega)).one.1) ?_
    (try simp only [pS])
    refine tg 7 hS ?_
    (try simp only [pS])
    refine cl 4 (ca _) ?_
    rintro e V4 ⟨rfl,hb4⟩
    refine ⟨_,rfl,but_of_below hb4,?_⟩
    (try simp only [pS])
    refine cl 5 (cp _) ?_
    rintro e V5 ⟨rfl,hb5⟩
    replace hb5:=below_next hb4 hb5
    refine ⟨_,rfl,but_of_below hb5,?_⟩
    (try simp only [pS])
    refine cl 6 (cy _) ?_
    rintro e V6 ⟨gy,rfl,hgy,ry,hb6⟩
    have hg6:V3.heap.size≤gy:=Nat.le_trans hb5.size hgy
    replace hb6:=below_next hb5 hb6
    refine ⟨_,rfl,but_of_below hb6,?_⟩
    (try simp only [pS])
    refine tg 8 (but_of_below hb6) ?_
    (try simp only [pS])
    refine ao 9 23 31 w.heap.size (w.heap.size+1+1) A N T (rW.below hb6) gy m 16 (fun j=>T (A+j)) (fun j hj=>by
     have:=(ry j (by omega)).1
     rw [Nat.zero_add,hby j hj] at this
     exact this) hAm ?_
    intro V7 own7 bt7
    have ot7:But (fun q=>q=w.heap.size+1+1) V3 V7:=(but_of_below hb6).trans bt7
    refine ⟨ot7,?_⟩
    (try simp only [pS])
    replace own7:=own7.congr (Y:=T) (fun j _=>by
     unfold cat
     by_cases h:j<A
     · rw [if_pos h]
     · rw [if_neg h]
       dsimp only
       rw [show A+(j - A)=j by omega])
    replace rO:=rO.but ot7 (by omega)
    replace rN:=rN.but ot7 (by omega)
    obtain ⟨y0,y1⟩:=rO.one
    refine wpAnyH_done (by kernel_rfl) ?_ _
    refine lastRun 10 (w':=V7.setCell ⟨w.heap.size+1+1+1,0,none⟩ (.slice (some ⟨w.heap.size+1+1,0,none⟩) (A+m) N)) ?_
    refine OnlyN.normal ?_
    dsimp only [Act.put]
    have r8:=rO.stored [.slice (some ⟨w.heap.size+1+1,0,none⟩) (A+m) N] rfl
    have bt8:But (fun q=>q=w.heap.size+1+1+1) V7 (V7.setCells (w.heap.size+1+1+1) 0 [.slice (some ⟨w.heap.size+1+1,0,none⟩) (A+m) N]):=(Out.setCells (o:=0) (n:=1) _ _ (Nat.le_refl _) (Nat.le_refl _)).but
    have n8:=rN.but bt8 (by omega)
    have own8:=own7.but bt8 (by omega)
    obtain ⟨V8,hV8⟩:∃ V8,V8=V7.setCells (w.heap.size+1+1+1) 0 [.slice (some ⟨w.heap.size+1+1,0,none⟩) (A+m) N]:=⟨_,rfl⟩
    rw [←hV8] at r8 bt8 n8 own8
    rw [show V7.setCell ⟨w.heap.size+1+1+1,0,none⟩ (.slice (some ⟨w.heap.size+1+1,0,none⟩) (A+m) N)=V8 from hV8.symm]
    have bt9:But (fun q=>q=w.heap.size+1+1+1+1) V8 (V8.setCells (w.heap.size+1+1+1+1) 0 [.int .u32 (z1:Int)]):=(Out.setCells (o:=0) (n:=1) _ _ (Nat.le_refl _) (Nat.le_refl _)).but
    have n9:=n8.stored [.int .u32 (z1:Int)] rfl
    obtain ⟨y2,y3⟩:=n8.one
    have hf:=hfin (V8.setCells (w.heap.size+1+1+1+1) 0 [.int .u32 (z1:Int)]) ((((bdr.trans ot7).mono (fun q h => .inl h)).trans (bt8.mono (fun q h => .inr (.inl h)))).trans (bt9.mono (fun q h => .inr (.inr h)))) (own8.but bt9 (by omega)) (r8.but bt9 (by omega)) n9
    clear hfin hV8 bt9 n9 own8 r8 n8 bt8 bt7 ot7 own7 rO rN y0 y1 ca cp cy hby rB rL rW hb4 hb5 hb6 ry
    gi_wp2
    exact hf
 have hmin:min n (16*nb n)=n:=by unfold nb;omega
 refine (giter_in (d - 1) l (w.heap.size+1+1+1+1+1+1) (w.heap.size+1+1+1+1+1) 1 (fun _=>n) (fun _=>X) (fun _=>hX) (fun _ => .slice xv n cv) (fun i k W=>CInv w l D q0' ks nn T n N (.slice xv n cv) (if i=0 then k else nb n) W) (fun i k W H=>H.box) (fun i k W H j hj=>by
  obtain rfl:j=0:=by omega
  exact H.lst) (fun i k W H j hj=>hv.keep H.bel) (fun _=>by omega) (by decide) (fun i k W W' H hb=>H.below hb) (fun i W H=>by
   rw [show (if i=0 then nb n else nb n)=nb n by split <;> rfl] at H
   rw [if_neg (by omega)]
   exact H) (fun i k V hi hk H=>by
    obtain rfl:i=0:=by omega
    rw [if_pos rfl] at H ⊢
    exact hY k V hk H) W1 hI0).mono ?_
 rintro e W2 ⟨⟨v,rfl⟩,hG⟩
 rw [if_neg (by decide)] at hG
 obtain ⟨V,hV⟩:∃ V,V=W2.putObj l (.loop { q0' with state := .exhausted }):=⟨_,rfl⟩
 have hbV:But (fun k=>k=l) W2 V:=by rw [hV];exact but_put _ _ _
 have hDV:V.heap[D]? = some (.deferred (some [])):=(hbV.block _ (Array.getElem?_eq_some_iff.1 hG.dfr).1 (by omega)).trans hG.dfr
 have hBV:Below w.heap.size w V:=hG.bel.trans (hbV.below hG.bel.size (by omega))
 have hout:=hG.out.but hbV (by omega)
 have hown:=hG.own.but hbV (by omega)
 rw [hmin] at hout hown
 refine ⟨none,V,?_,?_⟩
 · have h:=run_endLoop (P:=Try.prog) hG.lp (by rw [e1];simp)
   rw [←hV,e2] at h
   exact h
 have hD':D<V.heap.size:=(Array.getElem?_eq_some_iff.1 hDV).1
 obtain ⟨u0,-⟩:=hout.one
 have hb5:=but_put V D (.deferred none)
 have own5:=hown.but hb5 (by omega)
 have hB5:=hBV.trans (hb5.below hBV.size (by omega))
 clear hV hY hI0 e1 e2 e4 e5 e6 e7 hbl1 hl1 hD1 hG q0 q1 q2 q3 q4 q5 q6 hout hown hD hDc hs2
 gi_wp2
 refine ⟨by simp,.inl ⟨_,_,rfl,run_takeDeferred hDV,?_⟩⟩
 have hN:=HN.out
 subst hN
 rw [hT] at own5
 exact ⟨_,results_tmp rfl _ _ _,w.heap.size+1+1,rfl,own5,hB5⟩
theorem crossed_any (ks nn X:Nat→Nat) (n:Nat) (hn:n<200000) (hks:∀ j,ks j<256) (hnn:∀ j,nn j<256) (hX:∀ j,X j<256) (v:Value) (w:World) (hv:BytesIn w v n X) :
 Calls Try.prog 31 #[lkV ks nn,v] w fun e w'=>∃ g,e = .returned (.slice (some ⟨g,0,none⟩) n (n+16))∧Own w.heap.size w' (.slice (some ⟨g,0,none⟩) n (n+16)) n (trN ks nn X)∧Below w.heap.size w w' :=
 callsIn_wide.1 (crossed_in 9 ks nn X n hn hks hnn hX v w hv)
end Go.Proofs.Ytalgabgofpmebaa
namespace Go.Proofs.Ytalgabgofpmebaa
open Go.RowKit
theorem three_all {α:Type} {p:α→Prop} {a b c:α} (ha:p a) (hb:p b) (hc:p c) (i:Nat):p (three a b c i):=by
 unfold three
 split
 · exact ha
 · split
   · exact hb
   · exact hc
set_option maxRecDepth 100000 in
set_option maxHeartbeats 4000000 in
theorem tag_any (ks nn M D:Nat→Nat) (ml dl:Nat) (hml:ml<200000) (hdl:dl<200000) (hks:∀ j,ks j<256) (hnn:∀ j,nn j<256) (hM:∀ j,M j<256) (hD:∀ j,D j<256) (m d:Value) (w:World) (hm:BytesIn w m ml M) (hd:BytesIn w d dl D) :
 Calls Try.prog 32 #[lkV ks nn,m,d] w fun e w'=>e = .returned (blV (toV (tgN ks nn ml M dl D)))∧Below w.heap.size w w':=by
 have cb1:=fun W h=>bitsOf_any m ml M hml W (hm.keep h)
 have cb2:=fun W h=>bitsOf_any d dl D hdl W (hd.keep h)
 have ch:=fun W=>blockBy_any ks (fun _=>0) hks (fun _=>by decide) (lkN ks nn) (lkN_key ks nn) W
 rw [←zb_ints,show blkN (kyN ks) (fun _=>0)=h0N ks from rfl] at ch
 have cy:=fun W=>gbytes_any (lnV ml dl) W
 have cbk:=fun xo n c W=>blocks_any xo n c W
 have hXs:∀ i j,three M D (byV (lnV ml dl)) i j<256:=fun i=>three_all (p:=fun X:Nat→Nat=>∀ j,X j<256) hM hD (byV_lt _) i
 have hNs:∀ i,three ml dl 16 i<4611686018427387904:=three_all (p:=fun n=>n<4611686018427387904) (by omega) (by omega) (by decide)
 have cH:=fun pb lb U W h1 h2 h3=>hashed_any (toV (h0N ks)) pb lb 3 (three ml dl 16) (three M D (byV (lnV ml dl))) hXs U hNs (by decide) W h1 h2 h3
 have ca:=fun W=>blockAt_any ks nn 1 hks hnn W
 have cp:=fun W=>gplus_any (hsC (toV (h0N ks)) (three ml dl 16) (three M D (byV (lnV ml dl))) 3) (toV (ctB ks nn 1)) W
 rw [tag_block]
 unfold blV at *
 rw [(ln_words ml dl hml hdl).1,(ln_words ml dl hml hdl).2] at cy
 generalize hLb:byV (lnV ml dl)=Lb at *
 generalize wd (hsC (toV (h0N ks)) (three ml dl 16) (three M D Lb) 3 ^^^ toV (ctB ks nn 1)) 0=f0 at *
 generalize wd (hsC (toV (h0N ks)) (three ml dl 16) (three M D Lb) 3 ^^^ toV (ctB ks nn 1)) 64=f1 at *
 generalize wd (hsC (toV (h0N ks)) (three ml dl 16) (three M D Lb) 3) 0=s0 at *
 generalize wd (hsC (toV (h0N ks)) (three ml dl 16) (three M D Lb) 3) 64=s1 at *
 generalize wd (toV (ctB ks nn 1)) 0=c0 at *
 generalize wd (toV (ctB ks nn 1)) 64=c1 at *
 generalize wd (toV (h0N ks)) 0=k0 at *
 generalize wd (toV (h0N ks)) 64=k1 at *
 have h8m:8*ml<18446744073709551616:=by omega
 generalize 8*ml=m8 at *
 generalize 8*dl=d8 at *
 obtain ⟨xm,cm,rfl,-,-,-⟩:=hm.src
 obtain ⟨xd,cd,rfl,-,-,-⟩:=hd.src
 unfold lkV at *
 have hiL:=infoL (lkN ks nn)
 generalize lkN ks nn=L at *
 obtain ⟨V0,hV0⟩:∃ V,V=(w.alloc (.cells (ints .u8 32 L).toArray 54)).alloc (.cells #[.int .u64 0,.int .u64 0] 43):=⟨_,rfl⟩
 have b0:Below w.heap.size w V0:=by rw [hV0];exact ((Below.refl _ _).alloc (Nat.le_refl _) _).alloc (by simp) _
 have rL:RW V0 w.heap.size 0 (ints .u8 32 L):=by rw [hV0];exact (RW.fresh w _ _).still ((Below.refl _ _).alloc (Nat.le_refl _) _)
 have s0z:V0.heap.size=w.heap.size+1+1:=by rw [hV0];simp
 have rR:RW V0 (w.heap.size+1) 0 (b2 0 0):=by
  have:=RW.fresh (w.alloc (.cells (ints .u8 32 L).toArray 54)) (b2 0 0) 43
  rw [World.size_alloc] at this
  rw [hV0];exact this
 obtain ⟨V1,hV1⟩:∃ V,V=V0.alloc (.cells #[.int .u64 m8,.int .u64 d8] 43):=⟨_,rfl⟩
 have b01:Below V0.heap.size V0 V1:=by rw [hV1];exact (Below.refl _ _).alloc (Nat.le_refl _) _
 have rLen:RW V1 V0.heap.size 0 (b2 m8 d8):=by rw [hV1];exact RW.fresh V0 (b2 m8 d8) 43
 replace rL:=rL.still b01
 replace rR:=rR.still b01
 have b1:=below_next b0 b01
 have HV1:=Hid.mk' hV1
 have HV0:=Hid.mk' hV0
 have rLr:=rL.range
 clear hV0 hV1 s0z b01 hks hnn hM hD
 go_enter Try.func32,Try.ntmps32
 go_upto_region 3 with (first
  | (go_at_call 41;rw [←HV0.out];refine (cb1 V0 b0).mono ?_;clear cb1;rintro e w1 ⟨rfl,rfl⟩)
  | (go_at_call 41;refine (cb2 _ b0).mono ?_;clear cb2;rintro e w2 ⟨rfl,rfl⟩)
  | (rw [←HV1.out];refine wpList_load_mid rfl 54 _ rfl w.heap.size 0 rfl (ints .u8 32 L) _ rLr Try.underlying54 rfl hiL ?_)
  | (refine wpList_val (some 15) (.agg (zb 16)) rfl rfl (by kernel_rfl) ?_)
  | (go_at_call 42;refine (ch _).mono ?_;clear ch;rintro e w3 ⟨rfl,hb3⟩))
 replace rL:=rL.still hb3
 replace rR:=rR.still hb3
 replace rLen:=rLen.still hb3
 have b3:=below_next b1 hb3
 obtain ⟨V4,hV4⟩:∃ V,V=w3.alloc (.cells #[.int .u64 k0,.int .u64 k1] 43):=⟨_,rfl⟩
 have b34:Below w3.heap.size w3 V4:=by rw [hV4];exact (Below.refl _ _).alloc (Nat.le_refl _) _
 have rK:RW V4 w3.heap.size 0 (b2 k0 k1):=by rw [hV4];exact RW.fresh w3 (b2 k0 k1) 43
 rw [←hV4]
 replace rL:=rL.still b34
 replace rR:=rR.still b34
 replace rLen:=rLen.still b34
 have b4:=below_next b3 b34
 clear hV4 HV0 HV1 hb3 b3 b34 b1 b0 rLr
 have hdr:Below V4.heap.size V4 V4.drew:=(Below.refl _ _).drew
 replace rL:=rL.still hdr
 replace rR:=rR.still hdr
 replace rLen:=rLen.still hdr
 replace rK:=rK.still hdr
 replace b4:=below_next b4 hdr
 refine wp_last 11 (S:=fun u=>Below V4.drew.heap.size V4.drew u) (by kernel_rfl) (by kernel_rfl) (by kernel_rfl) (by kernel_rfl) (Below.refl _ _) (fun hS => ?_)
 generalize V4.drew=V5 at *
 refine tlS 0 (fun u hu=>rK.still hu) hS 43 Try.underlying43 info2 ?_
 (try simp only [pS])
 refine tg 1 hS ?_
 (try simp only [pS])
 refine tg 2 hS ?_
 (try simp only [pS])
 refine tlS 3 (fun u hu=>rLen.still hu) hS 43 Try.underlying43 info2 ?_
 (try simp only [pS])
 refine tlS 8 (fun u hu=>rL.still hu) hS 54 Try.underlying54 hiL ?_
 (try simp only [pS])
 refine cl 4 (cy _) ?_
 rintro e V6 ⟨gy,rfl,hgy,ry,hb6⟩
 refine ⟨_,rfl,hb6,?_⟩
 (try simp only [pS])
 have nb6:Below V6.heap.size V6 (V6.alloc (.cells #[.slice xm ml cm,.slice xd dl cd,.slice (some ⟨gy,0,none⟩) 16 16] 22)):=(Below.refl _ _).alloc (Nat.le_refl _) _
 have r7:=RW.fresh V6 [.slice xm ml cm,.slice xd dl cd,.slice (some ⟨gy,0,none⟩) 16 16] 22
 refine wo 5 (v := .slice (some ⟨V6.heap.size,0,none⟩) 3 3) (w':=V6.alloc (.cells #[.slice xm ml cm,.slice xd dl cd,.slice (some ⟨gy,0,none⟩) 16 16] 22)) (by kernel_rfl) (below_next hb6 nb6) ?_
 (try simp only [pS])
 replace ry:=ry.still nb6
 replace hb6:=below_next hb6 nb6
 generalize hV7:V6.alloc (.cells #[.slice xm ml cm,.slice xd dl cd,.slice (some ⟨gy,0,none⟩) 16 16] 22)=V7 at *
 clear hV7 nb6
 refine cl 6 (cbk (some ⟨V6.heap.size,0,none⟩) 3 3 V7) ?_
 rintro e V8 ⟨rfl,hV8⟩
 have nb8:Below V7.heap.size V7 V8:=by rw [hV8];exact (Below.refl _ _).alloc (Nat.le_refl _) _
 have r8:V8.cell? ⟨V7.heap.size,0,none⟩=some (.slice (some ⟨V6.heap.size,0,none⟩) 3 3):=by
  rw [hV8];exact (RW.fresh V7 [_] _).range 0 _ rfl
 replace r7:=r7.still nb8
 replace ry:=ry.still nb8
 replace hb6:=below_next hb6 nb8
 clear hV8 nb8
 refine ⟨_,rfl,hb6,?_⟩
 (try simp only [pS])
 have b8:=below_next b4 hb6
 have cH1:=cH V7.heap.size V6.heap.size (three (.slice xm ml cm) (.slice xd dl cd) (.slice (some ⟨gy,0,none⟩) 16 16)) V8 r8 (fun j hj=>by
  have hr:=r7.range j
  rw [Nat.zero_add] at hr
  rcases (show j=0∨j=1∨j=2 by omega) with rfl | rfl | rfl
  · exact hr _ rfl
  · exact hr _ rfl
  · exact hr _ rfl) (fun j hj=>by
  rcases (show j=0∨j=1∨j=2 by omega) with rfl | rfl | rfl
  · exact hm.keep b8
  · exact hd.keep b8
  · exact .inr ⟨gy,0,16,rfl,block_lt_of_cell (ry 0 (by decide)).1,Nat.le_refl _,fun j hj=>(ry j hj).1⟩)
 clear cH
 refine cl 7 cH1 ?_
 rintro e V9 ⟨rfl,hb9⟩
 replace hb6:=below_next hb6 hb9
 refine ⟨_,rfl,hb6,?_⟩
 (try simp only [pS])
 refine cl 9 (ca _) ?_
 rintro e V10 ⟨rfl,hb10⟩
 replace hb6:=below_next hb6 hb10
 refine ⟨_,rfl,hb6,?_⟩
 (try simp only [pS])
 refine cl 10 (cp _) ?_
 rintro e V11 ⟨rfl,hb11⟩
 replace hb6:=below_next hb6 hb11
 refine ⟨_,rfl,hb6,?_⟩
 (try simp only [pS])
 replace rR:=rR.still hb6
 have b11:=below_next b4 hb6
 refine wpAnyH_done (by kernel_rfl) ?_ _
 refine lastRow 11 43 6 27 (b2 f0 f1) rR rfl (info2a f0 f1) (one2 f0 f1) (fun r12 => ?_)
 refine NoPanic.normal ?_
 dsimp only [Act.put]
 clear cH1 ca cp cy cbk
 go_wp2
 refine bodyPost_ret (results_cell_mid Try.results32 _ _ (w.heap.size+1) 0 (b2 f0 f1) _ rfl r12.range Try.underlying43 rfl info2) rfl ⟨rfl,?_⟩
 exact below_setCells (Nat.le_succ _) _ _ _ b11
end Go.Proofs.Ytalgabgofpmebaa
namespace Go.Proofs.Ytalgabgofpmebaa
open Go.RowKit
theorem padN_16 (X:Nat→Nat):toV (padN 16 X)=toV X:=toV_S fun j hj=>by unfold padN;rw [if_pos hj]
end Go.Proofs.Ytalgabgofpmebaa
namespace Go.Proofs.Ytalgabgofpmebaa
open Go.RowKit
theorem own_down {base base':Nat} {w:World} {v:Value} {n:Nat} {X:Nat→Nat} (h:Own base w v n X) (hb:base'≤base):Own base' w v n X :=
 ⟨h.1,h.2.imp id fun ⟨g,cap,cur,e,h1,h2⟩=>⟨g,cap,cur,e,Nat.le_trans hb h1,h2⟩⟩
theorem lock_var (w:World) (L:Nat→Nat) (V:World) (hV:V=(w.alloc (.cells (zb 32) 54)).setCells w.heap.size 0 (ints .u8 32 L)):RW V w.heap.size 0 (ints .u8 32 L)∧Below w.heap.size w V:=by
 subst hV
 have h:=RowAt.zero w 32 54
 refine ⟨(h.toRW (by decide)).stored _ (by rw [ints_len,ints_len]),below_setCells (Nat.le_refl _) _ _ _ ((Below.refl _ _).alloc (Nat.le_refl _) _)⟩
theorem lock_there (w:World) (L:Nat→Nat):(w.alloc (.cells (zb 32) 54)).there w.heap.size 0 (ints .u8 32 L).toArray.size:=by
 rw [ints_size];exact (RowAt.zero w 32 54).there
theorem tgN_B {ks nn M D:Nat→Nat} (hks:∀ j,ks j<256) (hnn:∀ j,nn j<256) (ml dl:Nat):B16 (tgN ks nn ml M dl D):=fun j hj=>xor_byte (ctB_B hks hnn 1 j hj) (hsN_lt _ _ _ j)
set_option maxRecDepth 20000 in
set_option maxHeartbeats 4000000 in
theorem seal_good (v u m t:Value) (ml n:Nat) (ks nn M X:Nat→Nat) (hml:ml≤65536) (hn:n≤65536) (hks:∀ j,ks j<256) (hnn:∀ j,nn j<256) (hM:∀ j,M j<256) (hX:∀ j,X j<256) (w:World) (hv:BytesIn w v 16 ks) (hu:BytesIn w u 12 nn) (hm:BytesIn w m ml M) (ht:BytesIn w t n X) :
 Calls Try.prog 18 #[v,u,m,t] w fun e w'=>∃ s,e = .returned (.tuple #[s,.int .i64 0])∧Own w.heap.size w' s (n+16) (slN ks nn ml M n X)∧Below w.heap.size w w':=by
 have c1:=lockOf_good v u ks nn w hv hu
 have hT:=trN_lt (X:=X) hks hnn hX
 have c2:=fun W h=>crossed_any ks nn X n (by omega) hks hnn hX t W (ht.keep h)
 have c3:=fun d W h hd=>tag_any ks nn M (trN ks nn X) ml n (by omega) (by omega) hks hnn hM hT m d W (hm.keep h) hd
 have c4:=fun W=>gbytes_any (toV (tgN ks nn ml M n (trN ks nn X))) W
 have hfit:=byV_toV (tgN_B (M:=M) (D:=trN ks nn X) hks hnn ml n)
 have hsl:slN ks nn ml M n X=cat n (trN ks nn X) (tgN ks nn ml M n (trN ks nn X)):=rfl
 rw [hsl]
 unfold blV at *
 generalize wd (toV (tgN ks nn ml M n (trN ks nn X))) 0=g0 at *
 generalize wd (toV (tgN ks nn ml M n (trN ks nn X))) 64=g1 at *
 generalize byV (toV (tgN ks nn ml M n (trN ks nn X)))=GB at *
 generalize tgN ks nn ml M n (trN ks nn X)=G at *
 generalize trN ks nn X=T at *
 unfold lkV at *
 have hz:=zeroL
 have hth:=fun W=>lock_there W (lkN ks nn)
 have hi1:=infoL (lkN ks nn)
 have hi2:=infoLA (lkN ks nn)
 have ho:=oneU 32 (lkN ks nn)
 generalize lkN ks nn=L at *
 obtain ⟨xv,cv,rfl,-,-,-⟩:=hv.src
 obtain ⟨xu,cu,rfl,-,-,-⟩:=hu.src
 obtain ⟨xm,cm,rfl,-,-,-⟩:=hm.src
 obtain ⟨xt,ct,rfl,-,-,-⟩:=ht.src
 have hml':¬(65536:Int)<(ml:Int):=by omega
 have hn':¬(65536:Int)<(n:Int):=by omega
 have hfit2:n+16≤140737488355328:=by omega
 clear hv hu hm ht hks hnn hM hX hT hsl
 go_enter Try.func18,Try.ntmps18
 go_wp2_with (first
  | (go_at_call 30;refine c1.mono ?_;clear c1;rintro e w1 ⟨rfl,b1⟩;(have hth1:=hth w1);(obtain ⟨V,hV⟩:∃ V,V=(w1.alloc (.cells (zb 32) 54)).setCells w1.heap.size 0 (ints .u8 32 L):=⟨_,rfl⟩);(obtain ⟨rL,bV⟩:=lock_var w1 L V hV);(have HV:=Hid.mk' hV);(replace b1:=below_next b1 bV);(have rLr:=rL.range);clear hth hV bV)
  | (with_reducible (refine id (?_:wpList _ _ _ _ _ _));refine wpList_store_mid rfl 54 _ _ rfl w1.heap.size 0 (ints .u8 32 L).toArray rfl rfl hth1 hi2 ho ?_;rw [List.toList_toArray,←HV.out];clear hth1 HV;(have c2':=c2 V b1);clear c2)
  | (refine wpList_load_mid rfl 54 _ rfl w1.heap.size 0 rfl (ints .u8 32 L) _ rLr Try.underlying54 rfl hi1 ?_)
  | (go_at_call 31;refine c2'.mono ?_;clear c2';rintro e w2 ⟨gh,rfl,own2,b2⟩;(replace rLr:=(rL.still b2).range);(replace rL:=rL.still b2);(replace own2:Own w.heap.size w2 _ n T:=own_down own2 b1.size);(replace b1:=below_next b1 b2);(have c3':=c3 _ w2 b1 own2.bytesOf);clear c3 b2)
  | (go_at_call 32;refine c3'.mono ?_;clear c3';rintro e w3 ⟨rfl,b3⟩;(replace own2:=own2.below b3);(replace b1:=below_next b1 b3);clear b3)
  | (go_at_call 25;refine (c4 _).mono ?_;clear c4;rintro e w4 ⟨gt,rfl,hgt,r4,b4⟩;(replace own2:=own2.below b4);(replace b1:=below_next b1 b4);(have src4:Src w4 (some ⟨gt,0,none⟩) 16 GB := .inr ⟨gt,0,rfl,fun j hj=>(r4 j hj).1⟩);(have hz4:=b1.size);clear b4)
  | (at_builtin;refine wpList_append_bytes rfl (.tmp 33) (.tmp 38) rfl w.heap.size _ n T rfl own2 _ 16 16 GB rfl src4 (fun h=>by cases h) hfit2 hz4 ?_;intro v5 w5 own5 grow5;(have b5:=Own.grown b1 grow5 own2 (Nat.le_refl _) hz4)))
 go_ret2
 exact ⟨v5,rfl,own5.congr (fun j hj=>by
  unfold cat
  by_cases h:j<n
  · rw [if_pos h,if_pos h]
  · rw [if_neg h,if_neg h];exact hfit _ (by omega)),b5⟩
end Go.Proofs.Ytalgabgofpmebaa
namespace Go.Proofs.Ytalgabgofpmebaa
open Go.RowKit
set_option maxRecDepth 20000 in
set_option maxHeartbeats 4000000 in
theorem open_long (v u m t:Value) (ml k:Nat) (ks nn M X:Nat→Nat) (hml:ml≤65536) (hk:k≤65536) (hks:∀ j,ks j<256) (hnn:∀ j,nn j<256) (hM:∀ j,M j<256) (hX:∀ j,X j<256) (w:World) (hv:BytesIn w v 16 ks) (hu:BytesIn w u 12 nn) (hm:BytesIn w m ml M) (ht:BytesIn w t (k+16) X) :
 Calls Try.prog 20 #[v,u,m,t] w fun e w'=>(S16 (tgN ks nn ml M k X) (fun j=>X (k+j))→∃ s,e = .returned (.tuple #[s,.int .i64 0])∧Own w.heap.size w' s k (trN ks nn X))∧(¬S16 (tgN ks nn ml M k X) (fun j=>X (k+j))→e = .returned (.tuple #[.slice none 0 0,.int .i64 32]))∧Below w.heap.size w w':=by
 obtain ⟨bb,ob,ct,rfl,hbb,hct,hcell⟩:=ht.resolve_left (fun ⟨_,_,h⟩=>by omega)
 have hd:BytesIn w (.slice (some ⟨bb,ob,none⟩) k ct) k X := .inr ⟨bb,ob,ct,rfl,hbb,by omega,fun j hj=>hcell j (by omega)⟩
 have hg:BytesIn w (.slice (some ⟨bb,ob+k,none⟩) 16 (ct - k)) 16 (fun j=>X (k+j)) := .inr ⟨bb,ob+k,ct - k,rfl,hbb,by omega,fun j hj=>by
  have:=hcell (k+j) (by omega)
  rwa [←Nat.add_assoc] at this⟩
 have c1:=lockOf_good v u ks nn w hv hu
 have c2:=fun W h=>blockOf_any _ 16 _ (Nat.le_refl _) (fun j=>hX _) W (hg.keep h)
 rw [padN_16] at c2
 have c3:=fun W h=>tag_any ks nn M X ml k (by omega) (by omega) hks hnn hM hX m _ W (hm.keep h) (hd.keep h)
 have c4:=fun W=>gsame_any (toV (tgN ks nn ml M k X)) (toV (fun j=>X (k+j))) W
 have c5:=fun W h=>crossed_any ks nn X k (by omega) hks hnn hX _ W (hd.keep h)
 have hsame:S16 (tgN ks nn ml M k X) (fun j=>X (k+j))↔toV (tgN ks nn ml M k X)=toV (fun j=>X (k+j)):=⟨toV_S,toV_inj (tgN_B hks hnn ml k) (fun j _=>hX _)⟩
 obtain ⟨T,hT⟩:∃ T,T=decide (toV (tgN ks nn ml M k X)=toV (fun j=>X (k+j))):=⟨_,rfl⟩
 rw [←hT] at c4
 have hTt:S16 (tgN ks nn ml M k X) (fun j=>X (k+j))↔T=true:=by rw [hsame,hT,decide_eq_true_iff]
 rw [hTt]
 clear hsame hT hTt
 unfold blV at *
 generalize wd (toV (tgN ks nn ml M k X)) 0=g0 at *
 generalize wd (toV (tgN ks nn ml M k X)) 64=g1 at *
 generalize wd (toV (fun j=>X (k+j))) 0=t0 at *
 generalize wd (toV (fun j=>X (k+j))) 64=t1 at *
 generalize trN ks nn X=Tr at *
 unfold lkV at *
 have hz:=zeroL
 have hth:=fun W=>lock_there W (lkN ks nn)
 have hi1:=infoL (lkN ks nn)
 have hi2:=infoLA (lkN ks nn)
 have ho:=oneU 32 (lkN ks nn)
 generalize lkN ks nn=L at *
 obtain ⟨xv,cv,rfl,-,-,-⟩:=hv.src
 obtain ⟨xu,cu,rfl,-,-,-⟩:=hu.src
 obtain ⟨xm,cm,rfl,-,-,-⟩:=hm.src
 obtain ⟨n,hn⟩:∃ n,n=k+16:=⟨_,rfl⟩
 rw [←hn]
 have ha':¬(65536:Int)<(ml:Int):=by omega
 have hb':¬(65552:Int)<(n:Int):=by omega
 have hb2':¬(n:Int)<16:=by omega
 have hc':(n:Int) - 16=(k:Int):=by omega
 have hd':IntKind.i64.wrap ((n:Int) - 16)=(k:Int):=by simp only [IntKind.wrap_i64];omega
 have i1:(0:Int)≤(k:Int)∧(k:Int)≤(n:Int):=by omega
 have i2:(k:Int)≤(ct:Int):=by omega
 have i3:n - k=16:=by omega
 have i5:(n:Int)≤(ct:Int):=by omega
 have i6:(n:Int) - (k:Int)=16:=by omega
 have i7:¬ct=k:=by omega
 have i8:IntKind.i64.wrap (k:Int)=(k:Int):=by simp only [IntKind.wrap_i64];omega
 clear hv hu hm ht hks hnn hM hX hd hg hcell hn hct
 go_enter Try.func20,Try.ntmps20
 go_upto_region 8 with (first
  | (go_at_call 30;refine c1.mono ?_;clear c1;rintro e w1 ⟨rfl,b1⟩;(have hth1:=hth w1);(obtain ⟨V,hV⟩:∃ V,V=(w1.alloc (.cells (zb 32) 54)).setCells w1.heap.size 0 (ints .u8 32 L):=⟨_,rfl⟩);(obtain ⟨rL,bV⟩:=lock_var w1 L V hV);(have HV:=Hid.mk' hV);(replace b1:=below_next b1 bV);clear hth hV bV)
  | (with_reducible (refine id (?_:wpList _ _ _ _ _ _));refine wpList_store_mid rfl 54 _ _ rfl w1.heap.size 0 (ints .u8 32 L).toArray rfl rfl hth1 hi2 ho ?_;rw [List.toList_toArray,←HV.out];clear hth1 HV))
 have hdr:Below V.heap.size V V.drew:=(Below.refl _ _).drew
 replace rL:=rL.still hdr
 replace b1:=below_next b1 hdr
 refine wp_last 13 (S:=fun u=>Below V.drew.heap.size V.drew u) (by kernel_rfl) (by kernel_rfl) (by kernel_rfl) (by kernel_rfl) (Below.refl _ _) (fun hS => ?_)
 generalize V.drew=V2 at *
 refine tg 0 hS ?_
 (try simp only [pS])
 refine tg 1 hS ?_
 (try simp only [pS])
 refine tg 2 hS ?_
 (try simp only [pS])
 refine tg 3 hS ?_
 (try simp only [pS])
 refine tg 4 hS ?_
 (try simp only [pS])
 refine tg 5 hS ?_
 (try simp only [pS])
 refine tg 6 hS ?_
 (try simp only [pS])
 refine tg 7 hS ?_
 (try simp only [pS])
 refine tg 8 hS ?_
 (try simp only [pS])
 refine tg 9 hS ?_
 (try simp only [pS])
 refine wpAnyH_ready (rs:=[10,11]) (by kernel_rfl) (by simp) (cR (c2 V2 b1) ?_ (gR (fun g=>pA g 0) (b2 0 0) 43 (fun u hu=>hu) ?_ AllReadyH.nil))
 · rintro e V3 ⟨rfl,hb3⟩
   refine ⟨_,rfl,hb3,?_⟩
   (try simp only [pS])
   refine wpAnyH_ready (rs:=[11]) (by kernel_rfl) (by simp) (gR (fun g=>pA g 0) (b2 0 0) 43 (fun u hu=>below_next hb3 hu) ?_ AllReadyH.nil)
   intro V4 g hg hb4 rG
   have hb3a:=hb3
   replace hb3:=below_next hb3 hb4
   (try simp only [pS])
   have hgl:V2.heap.size≤g:=Nat.le_trans (Nat.le_trans (Nat.le_refl _) hb3a.size) hg
   refine tg 12 hb3 ?_
   (try simp only [pS])
   refine wpAnyH_done (by kernel_rfl) ?_ _
   refine lastRow 13 43 13 44 (b2 t0 t1) rG rfl (info2a t0 t1) (one2 t0 t1) (fun rG' => ?_)
   refine NoPanic.normal ?_
   dsimp only [Act.put]
   have hwg:w1.heap.size≠g:=Nat.ne_of_lt (Nat.lt_of_lt_of_le rL.lt hgl)
   have rL5:=(rL.still hb3).far g 0 (b2 t0 t1) (.inl hwg)
   have b5:=below_setCells (Nat.le_trans b1.size hgl) (b2 t0 t1) 0 _ (below_next b1 hb3)
   generalize V4.setCells g 0 (b2 t0 t1)=V5 at *
   clear rG hb3 hS c2
   go_upto_region 9 with (fail)
   have hdr5:Below V5.heap.size V5 V5.drew:=(Below.refl _ _).drew
   replace rL5:=rL5.still hdr5
   replace rG':=rG'.still hdr5
   replace b5:=below_next b5 hdr5
   refine wp_region_noPanic ?_
   refine wp_region_held_drew (S:=fun u=>Below V5.drew.heap.size V5.drew u) (by kernel_rfl) (Below.refl _ _) (fun hS => ?_)
   generalize V5.drew=V6 at *
   refine tlS 0 (fun u hu=>rL5.still hu) hS 54 Try.underlying54 hi1 ?_
   (try simp only [pS])
   refine tg 1 hS ?_
   (try simp only [pS])
   refine tg 2 hS ?_
   (try simp only [pS])
   refine tlS 4 (fun u hu=>rG'.still hu) hS 43 Try.underlying43 info2 ?_
   (try simp only [pS])
   refine cl 3 (c3 V6 b5) ?_
   rintro e V7 ⟨rfl,hb7⟩
   refine ⟨_,rfl,hb7,?_⟩
   (try simp only [pS])
   refine cl 5 (c4 V7) ?_
   rintro e V8 ⟨rfl,hb8⟩
   replace hb7:=below_next hb7 hb8
   refine ⟨_,rfl,hb7,?_⟩
   (try simp only [pS])
   refine tg 6 hb7 ?_
   (try simp only [pS])
   refine wpAnyH_done (by kernel_rfl) ?_ _
   refine NoPanic.normal ?_
   have rL8:=rL5.still hb7
   have b8:=below_next b5 hb7
   have rLr:=rL8.range
   have c5':=c5 V8 b8
   clear c5 c3 c4 rL5 rG' hb7 hb8 hS b5
   cases T with
   | false =>
    go_wp2
    go_ret2
    exact ⟨(fun h=>Bool.noConfusion h),fun _=>rfl,b8⟩
   | true =>
    go_wp2_with (first
     | (refine wpList_load_mid rfl 54 _ rfl w1.heap.size 0 rfl (ints .u8 32 L) _ rLr Try.underlying54 rfl hi1 ?_)
     | (go_at_call 31;refine c5'.mono ?_;clear c5';rintro e w9 ⟨gh,rfl,own9,b9⟩))
    go_ret2
    exact ⟨⟨_,rfl,own_down own9 b8.size⟩,below_next b8 b9⟩
 · intro V3 g hg hb3 rG
   (try simp only [pS])
   refine cl 10 (c2 V3 (below_next b1 hb3)) ?_
   rintro e V4 ⟨rfl,hb4⟩
   replace rG:=rG.still hb4
   replace hb3:=below_next hb3 hb4
   refine ⟨_,rfl,hb3,?_⟩
   (try simp only [pS])
   have hgl:V2.heap.size≤g:=hg
   refine tg 12 hb3 ?_
   (try simp only [pS])
   refine wpAnyH_done (by kernel_rfl) ?_ _
   refine lastRow 13 43 13 44 (b2 t0 t1) rG rfl (info2a t0 t1) (one2 t0 t1) (fun rG' => ?_)
   refine NoPanic.normal ?_
   dsimp only [Act.put]
   have hwg:w1.heap.size≠g:=Nat.ne_of_lt (Nat.lt_of_lt_of_le rL.lt hgl)
   have rL5:=(rL.still hb3).far g 0 (b2 t0 t1) (.inl hwg)
   have b5:=below_setCells (Nat.le_trans b1.size hgl) (b2 t0 t1) 0 _ (below_next b1 hb3)
   generalize V4.setCells g 0 (b2 t0 t1)=V5 at *
   clear rG hb3 hS c2
   go_upto_region 9 with (fail)
   have hdr5:Below V5.heap.size V5 V5.drew:=(Below.refl _ _).drew
   replace rL5:=rL5.still hdr5
   replace rG':=rG'.still hdr5
   replace b5:=below_next b5 hdr5
   refine wp_region_noPanic ?_
   refine wp_region_held_drew (S:=fun u=>Below V5.drew.heap.size V5.drew u) (by kernel_rfl) (Below.refl _ _) (fun hS => ?_)
   generalize V5.drew=V6 at *
   refine tlS 0 (fun u hu=>rL5.still hu) hS 54 Try.underlying54 hi1 ?_
   (try simp only [pS])
   refine tg 1 hS ?_
   (try simp only [pS])
   refine tg 2 hS ?_
   (try simp only [pS])
   refine tlS 4 (fun u hu=>rG'.still hu) hS 43 Try.underlying43 info2 ?_
   (try simp only [pS])
   refine cl 3 (c3 V6 b5) ?_
   rintro e V7 ⟨rfl,hb7⟩
   refine ⟨_,rfl,hb7,?_⟩
   (try simp only [pS])
   refine cl 5 (c4 V7) ?_
   rintro e V8 ⟨rfl,hb8⟩
   replace hb7:=below_next hb7 hb8
   refine ⟨_,rfl,hb7,?_⟩
   (try simp only [pS])
   refine tg 6 hb7 ?_
   (try simp only [pS])
   refine wpAnyH_done (by kernel_rfl) ?_ _
   refine NoPanic.normal ?_
   have rL8:=rL5.still hb7
   have b8:=below_next b5 hb7
   have rLr:=rL8.range
   have c5':=c5 V8 b8
   clear c5 c3 c4 rL5 rG' hb7 hb8 hS b5
   cases T with
   | false =>
    go_wp2
    go_ret2
    exact ⟨(fun h=>Bool.noConfusion h),fun _=>rfl,b8⟩
   | true =>
    go_wp2_with (first
     | (refine wpList_load_mid rfl 54 _ rfl w1.heap.size 0 rfl (ints .u8 32 L) _ rLr Try.underlying54 rfl hi1 ?_)
     | (go_at_call 31;refine c5'.mono ?_;clear c5';rintro e w9 ⟨gh,rfl,own9,b9⟩))
    go_ret2
    exact ⟨⟨_,rfl,own_down own9 b8.size⟩,below_next b8 b9⟩
end Go.Proofs.Ytalgabgofpmebaa
namespace Go.Proofs.Ytalgabgofpmebaa
open Go.RowKit
theorem num9_any (x:Int) (w:World):Calls Try.prog 13 #[.int .i64 x] w fun e w'=>e = .returned (.int .i64 x)∧w'=w:=by
 go_enter Try.func13,Try.ntmps13
 go_wp2
 go_ret
 exact ⟨rfl,rfl⟩
end Go.Proofs.Ytalgabgofpmebaa
namespace Go.Proofs.Ytalgabgofpmebaa
open Go.RowKit
def k0L:List Nat:=[0,0,0,0,0,0,0,0,0,0,0,0,0,0,0,0,98,99,99,99,98,99,99,99,98,99,99,99,98,99,99,99,155,152,152,201,249,251,251,170,155,152,152,201,249,251,251,170,144,151,52,80,105,108,207,250,242,244,87,51,11,15,172,153,238,6,218,123,135,106,21,129,117,158,66,178,126,145,238,43,127,46,43,136,248,68,62,9,141,218,124,187,243,75,146,144,236,97,75,133,20,37,117,140,153,255,9,55,106,180,155,167,33,117,23,135,53,80,98,11,172,175,107,60,198,27,240,155,14,249,3,51,59,169,97,56,151,6,10,4,81,29,250,159,177,212,216,226,138,125,185,218,29,123,179,222,76,102,73,65,180,239,91,203,62,146,226,17,35,233,81,207,111,143,24,142]
def k0N (j:Nat):Nat:=k0L.getD j 0
def s0L:List Nat:=[0,0,0,0,0,0,0,0,0,0,0,0,0,0,0,1,30,31,33,62,1,0,0,0,1,0,0,0,1,0,0,0,218,234,234,153,117,86,239,81,88,93,195,21,90,218,36,75,107,120,64,75,68,221,91,251,137,115,23,228,120,135,219,170,20,71,112,136,49,23,38,231,31,3,241,64,146,108,39,163,48,221,102,216,232,254,86,127,35,221,233,210,104,84,147,4,222,216,197,211,220,57,47,229,84,30,4,241,188,21,162,105,38,184,247,169,232,26,72,30,120,21,53,10,27,34,38,25,68,36,6,182,217,81,56,157,64,77,99,196,149,251,52,133,131,247,93,208,136,243,141,226,47,131,137,25,89,53,127,54]
def s0N (r j:Nat):Nat:=s0L.getD (16*r+j) 0
set_option maxRecDepth 100000 in
theorem k0_ok:((List.range 16).all fun j=>k0N j == 0)=true∧((List.range 40).all fun n=>(List.range 4).all fun i=>kyT k0N (n+4) i == k0N (4*(n+4)+i))=true:=⟨by kernel_rfl,by kernel_rfl⟩
set_option maxRecDepth 100000 in
theorem s0_ok:((List.range 9).all fun r=>(List.range 16).all fun j=>addN k0N (r+1) (colN mT (rowN 1 (thrN boxN (s0N r)))) j == s0N (r+1) j)=true:=by kernel_rfl
theorem k0_all:∀ n,n≤40→∀ j,j<4*(n+4)→kyS (fun _=>0) n j=k0N j
 | 0,_,j,hj=>by
  have h:=all_below k0_ok.1 j (by omega)
  simp only [beq_iff_eq] at h
  exact h.symm
 | n+1,hn,j,hj=>by
  have ih:=k0_all n (by omega)
  show cat (4*(n+4)) (kyS (fun _=>0) n) (kyT (kyS (fun _=>0) n) (n+4)) j=k0N j
  unfold cat
  by_cases h:j<4*(n+4)
  · rw [if_pos h];exact ih j h
  · rw [if_neg h]
    have hc:=all_below (all_below k0_ok.2 n (by omega)) (j - 4*(n+4)) (by omega)
    simp only [beq_iff_eq] at hc
    rw [show 4*(n+4)+(j - 4*(n+4))=j by omega] at hc
    rw [←hc]
    generalize hi:j - 4*(n+4)=i at *
    unfold kyT
    rw [ih _ (by omega),ih _ (by omega),ih _ (by omega),ih (4*(n+4) - 4+i) (by omega)]
theorem ky0 (j:Nat) (hj:j<176):kyN (fun _=>0) j=k0N j:=k0_all 40 (Nat.le_refl _) j hj
theorem c1_ok:((List.range 16).all fun j=>(ctN (fun _=>0) 1 j ^^^ k0N (16*0+j)) == s0N 0 j)=true:=by kernel_rfl
theorem s0_all:∀ r,r≤9→S16 (blkS (kyN (fun _=>0)) (ctN (fun _=>0) 1) r) (s0N r)
 | 0,_=>fun j hj=>by
  have h:=all_below c1_ok j hj
  simp only [beq_iff_eq] at h
  show ctN (fun _=>0) 1 j ^^^ kyN (fun _=>0) (16*0+j)=s0N 0 j
  rw [ky0 _ (by omega)]
  exact h
 | r+1,hr=>fun j hj=>by
  have ih:=s0_all r (by omega)
  have h:=all_below (all_below s0_ok r (by omega)) j hj
  simp only [beq_iff_eq] at h
  show colN mT (rowN 1 (thrN boxN (blkS (kyN (fun _=>0)) (ctN (fun _=>0) 1) r))) j ^^^ kyN (fun _=>0) (16*(r+1)+j)=s0N (r+1) j
  rw [ky0 _ (by omega),←h]
  show _=colN mT (rowN 1 (thrN boxN (s0N r))) j ^^^ k0N (16*(r+1)+j)
  rw [colN_S (rowN_S (thrN_S ih boxN) 1) mT j hj]
theorem b0_all (j:Nat) (hj:j<16):ctB (fun _=>0) (fun _=>0) 1 j=addN k0N 10 (rowN 1 (thrN boxN (s0N 9))) j:=by
 show rowN 1 (thrN boxN (blkS (kyN (fun _=>0)) (ctN (fun _=>0) 1) 9)) j ^^^ kyN (fun _=>0) (16*10+j)=rowN 1 (thrN boxN (s0N 9)) j ^^^ k0N (16*10+j)
 rw [ky0 _ (by omega),rowN_S (thrN_S (s0_all 9 (Nat.le_refl _)) boxN) 1 j hj]
set_option maxRecDepth 100000 in
theorem c1_first:ctB (fun _=>0) (fun _=>0) 1 0=88∧ctB (fun _=>0) (fun _=>0) 1 1=226∧ctB (fun _=>0) (fun _=>0) 1 2=252∧ctB (fun _=>0) (fun _=>0) 1 3=206:=by
 rw [b0_all 0 (by decide),b0_all 1 (by decide),b0_all 2 (by decide),b0_all 3 (by decide)]
 exact ⟨by kernel_rfl,by kernel_rfl,by kernel_rfl,by kernel_rfl⟩
end Go.Proofs.Ytalgabgofpmebaa
namespace Go.Proofs.Ytalgabgofpmebaa
open Go.RowKit
abbrev z0:Nat→Nat:=fun _=>0
theorem hz0:∀ j,z0 j<256:=fun _=>(by decide:0<256)
theorem au0:((List.range 16).all fun j=>((0:Nat) ^^^ padN 16 (auN 0 z0 0 z0) (16*0+j)) == 0)=true:=by kernel_rfl
theorem zrow {W:World} {g n:Nat} (r:RW W g 0 (zb n).toList):BytesIn W (.slice (some ⟨g,0,none⟩) n n) n z0 := .inr ⟨g,0,n,rfl,r.lt,Nat.le_refl _,fun j hj=>by
 exact r.range j _ (by rw [Array.getElem?_toList];exact zb_at n j hj)⟩
theorem BytesIn.none0 (w:World) (X:Nat→Nat):BytesIn w (.slice none 0 0) 0 X := .inl ⟨none,rfl,rfl⟩
theorem tag0:tgN z0 z0 0 z0 0 z0 0=88∧tgN z0 z0 0 z0 0 z0 1=226∧tgN z0 z0 0 z0 0 z0 2=252∧tgN z0 z0 0 z0 0 z0 3=206:=by
 have e:∀ j,tgN z0 z0 0 z0 0 z0 j=ctB z0 z0 1 j:=fun j=>by
  have h0:hsN (h0N z0) (pad 0+pad 0+16) (auN 0 z0 0 z0) j=0:=by
   show tmN (fun j=>(0:Nat) ^^^ padN 16 (auN 0 z0 0 z0) (16*0+j)) (h0N z0) j=0
   have ez:toV (fun j=>(0:Nat) ^^^ padN 16 (auN 0 z0 0 z0) (16*0+j))=vZ:=by
    rw [←toV_zero]
    exact toV_S fun j hj=>by
     have h:=all_below au0 j hj
     simp only [beq_iff_eq] at h
     exact h
   unfold tmN
   rw [ez]
   show byV (gT (toV (h0N z0)) 128 vZ) j=0
   rw [gT_zero]
   apply Nat.eq_of_testBit_eq
   intro t
   unfold byV
   rw [byB_bit]
   simp
  unfold tgN
  rw [h0,Nat.xor_zero]
 rw [e,e,e,e]
 exact c1_first
theorem knows_seal (v u:Value) (w:World) (hv:BytesIn w v 16 z0) (hu:BytesIn w u 12 z0):Calls Try.prog 18 #[v,u,.slice none 0 0,.slice none 0 0] w fun e w'=>∃ s,e = .returned (.tuple #[s,.int .i64 0])∧Own w.heap.size w' s 16 (slN z0 z0 0 z0 0 z0)∧Below w.heap.size w w' :=
 seal_good v u _ _ 0 0 z0 z0 z0 z0 (by decide) (by decide) hz0 hz0 hz0 hz0 w hv hu (BytesIn.none0 _ _) (BytesIn.none0 _ _)
theorem knows_open (v u t:Value) (w:World) (hv:BytesIn w v 16 z0) (hu:BytesIn w u 12 z0) (ht:BytesIn w t 16 z0):Calls Try.prog 20 #[v,u,.slice none 0 0,t] w fun e w'=>e = .returned (.tuple #[.slice none 0 0,.int .i64 32])∧Below w.heap.size w w' :=
 (open_long v u _ t 0 0 z0 z0 z0 z0 (by decide) (by decide) hz0 hz0 hz0 hz0 w hv hu (BytesIn.none0 _ _) ht).mono fun _ _ ⟨_,h,hb⟩=>⟨h fun hs=>by
  have:=hs 0 (by decide)
  rw [tag0.1] at this
  exact absurd this (by decide),hb⟩
set_option maxRecDepth 20000 in
set_option maxHeartbeats 4000000 in
theorem knows9 (w:World):Calls Try.prog 15 #[] w fun e w'=>e = .returned (.bool true)∧Below w.heap.size w w':=by
 have hnum:=num9_any
 have hstr:∀ W g c X,RowAt .u8 W g 0 16 X→(∀ j,X j<256)→X 0=88→X 1=226→X 2=252→X 3=206→(convert 22 9 (.slice (some ⟨g,0,none⟩) 4 c)).run Try.prog W = .ok (.string { data:=#[88,226,252,206] }) W:=fun W g c X r hX e0 e1 e2 e3=>by
  rw [conv_bytes W g 0 4 c X hX (fun j hj=>(r j (by omega)).1)]
  congr 2
  unfold strB
  simp [List.range_succ,e0,e1,e2,e3]
 go_enter Try.func15,Try.ntmps15
 go_upto_region 1 with (fail)
 go_cut [1,2] from 5 (fun s1 s2 wc=>s2 = .int .i64 0∧Own w.heap.size wc s1 16 (slN z0 z0 0 z0 0 z0)∧Below w.heap.size w wc)
 case first =>
  refine wp_region_noPanic ?_
  refine wp_region_held_drew (S:=fun u=>Below w.drew.heap.size w.drew u) (by kernel_rfl) (Below.refl _ _) (fun hS => ?_)
  have bd:Below w.heap.size w w.drew:=(Below.refl _ _).drew
  generalize w.drew=V at *
  refine wpAnyH_ready (rs:=[0,1]) (by kernel_rfl) (by simp) (gR (fun g => .slice (some ⟨g,0,none⟩) 16 16) (zb 16).toList 5 (fun u hu=>below_next hS hu) ?_ (gR (fun g => .slice (some ⟨g,0,none⟩) 12 12) (zb 12).toList 5 (fun u hu=>below_next hS hu) ?_ AllReadyH.nil))
  · intro U0 g0 hg0 hu0 r0
    have b0:=below_next hS hu0
    (try simp only [pS])
    refine wpAnyH_ready (rs:=[1]) (by kernel_rfl) (by simp) (gR (fun g => .slice (some ⟨g,0,none⟩) 12 12) (zb 12).toList 5 (fun u hu=>below_next b0 hu) ?_ AllReadyH.nil)
    · intro U1 g1 hg1 hu1 r1
      replace r0:=r0.still hu1
      have b1:=below_next b0 hu1
      (try simp only [pS])
      refine cl 2 (knows_seal _ _ U1 (zrow r0) (zrow r1)) ?_
      rintro e U2 ⟨s,rfl,own,hb⟩
      refine ⟨_,rfl,below_next b1 hb,?_⟩
      (try simp only [pS])
      have b2:=below_next b1 hb
      refine tg 3 b2 ?_
      (try simp only [pS])
      refine tg 4 b2 ?_
      (try simp only [pS])
      refine tg 5 b2 ?_
      (try simp only [pS])
      refine tg 6 b2 ?_
      (try simp only [pS])
      refine tg 7 b2 ?_
      (try simp only [pS])
      refine wpAnyH_done (by kernel_rfl) ?_ _
      refine NoPanic.normal ?_
      go_wp2
      go_meet
      case rel=>exact ⟨rfl,own_down own (below_next bd b1).size,below_next bd b2⟩
  · intro U0 g1 hg0 hu0 r1
    have b0:=below_next hS hu0
    (try simp only [pS])
    refine wpAnyH_ready (rs:=[0]) (by kernel_rfl) (by simp) (gR (fun g => .slice (some ⟨g,0,none⟩) 16 16) (zb 16).toList 5 (fun u hu=>below_next b0 hu) ?_ AllReadyH.nil)
    · intro U1 g0 hg1 hu1 r0
      replace r1:=r1.still hu1
      have b1:=below_next b0 hu1
      (try simp only [pS])
      refine cl 2 (knows_seal _ _ U1 (zrow r0) (zrow r1)) ?_
      rintro e U2 ⟨s,rfl,own,hb⟩
      refine ⟨_,rfl,below_next b1 hb,?_⟩
      (try simp only [pS])
      have b2:=below_next b1 hb
      refine tg 3 b2 ?_
      (try simp only [pS])
      refine tg 4 b2 ?_
      (try simp only [pS])
      refine tg 5 b2 ?_
      (try simp only [pS])
      refine tg 6 b2 ?_
      (try simp only [pS])
      refine tg 7 b2 ?_
      (try simp only [pS])
      refine wpAnyH_done (by kernel_rfl) ?_ _
      refine NoPanic.normal ?_
      go_wp2
      go_meet
      case rel=>exact ⟨rfl,own_down own (below_next bd b1).size,below_next bd b2⟩
 case rest =>
  obtain ⟨rfl,own,bw⟩:=hcut
  obtain ⟨gb,cb,rfl,-,-,hcb,rB⟩:=own.form.resolve_left (fun h=>by omega)
  obtain ⟨W1,hW1⟩:∃ W,W=wc:=⟨_,rfl⟩
  subst hW1
  have hcb':(16:Int)≤(cb:Int):=by omega
  have hcb4:(4:Int)≤(cb:Int):=by omega
  clear own
  go_upto_region 2 with (fail)
  go_cut [3,4] from 5 (fun s3 s4 wc=>s4 = .int .i64 32∧RowAt .u8 wc gb 0 16 (slN z0 z0 0 z0 0 z0)∧Below w.heap.size w wc)
  case first =>
   refine wp_region_noPanic ?_
   refine wp_region_held_drew (S:=fun u=>Below W1.drew.heap.size W1.drew u) (by kernel_rfl) (Below.refl _ _) (fun hS => ?_)
   have bd:Below W1.heap.size W1 W1.drew:=(Below.refl _ _).drew
   generalize W1.drew=V at *
   refine wpAnyH_ready (rs:=[0,1,2]) (by kernel_rfl) (by simp) (gR (fun g => .slice (some ⟨g,0,none⟩) 16 16) (zb 16).toList 5 (fun u hu=>below_next hS hu) ?_ (gR (fun g => .slice (some ⟨g,0,none⟩) 12 12) (zb 12).toList 5 (fun u hu=>below_next hS hu) ?_ (gR (fun g => .slice (some ⟨g,0,none⟩) 16 16) (zb 16).toList 5 (fun u hu=>below_next hS hu) ?_ AllReadyH.nil)))
   · intro U0 g0 hg0 hu0 r0
     have b0:=below_next hS hu0
     (try simp only [pS])
     refine wpAnyH_ready (rs:=[1,2]) (by kernel_rfl) (by simp) (gR (fun g => .slice (some ⟨g,0,none⟩) 12 12) (zb 12).toList 5 (fun u hu=>below_next b0 hu) ?_ (gR (fun g => .slice (some ⟨g,0,none⟩) 16 16) (zb 16).toList 5 (fun u hu=>below_next b0 hu) ?_ AllReadyH.nil))
     · intro U1 g1 hg1 hu1 r1
       replace r0:=r0.still hu1
       have b1:=below_next b0 hu1
       (try simp only [pS])
       refine wpAnyH_ready (rs:=[2]) (by kernel_rfl) (by simp) (gR (fun g => .slice (some ⟨g,0,none⟩) 16 16) (zb 16).toList 5 (fun u hu=>below_next b1 hu) ?_ AllReadyH.nil)
       · intro U2 g2 hg2 hu2 r2
         replace r0:=r0.still hu2
         replace r1:=r1.still hu2
         have b2:=below_next b1 hu2
         (try simp only [pS])
         refine cl 3 (knows_open _ _ _ U2 (zrow r0) (zrow r1) (zrow r2)) ?_
         rintro e U9 ⟨rfl,hb⟩
         refine ⟨_,rfl,below_next b2 hb,?_⟩
         (try simp only [pS])
         have b9:=below_next b2 hb
         refine tg 4 b9 ?_
         (try simp only [pS])
         refine tg 5 b9 ?_
         (try simp only [pS])
         refine tg 6 b9 ?_
         (try simp only [pS])
         refine tg 7 b9 ?_
         (try simp only [pS])
         refine tg 8 b9 ?_
         (try simp only [pS])
         refine wpAnyH_done (by kernel_rfl) ?_ _
         refine NoPanic.normal ?_
         go_wp2
         go_meet
         case rel=>exact ⟨rfl,rB.still (below_next bd b9),below_next bw (below_next bd b9)⟩
     · intro U1 g2 hg1 hu1 r2
       replace r0:=r0.still hu1
       have b1:=below_next b0 hu1
       (try simp only [pS])
       refine wpAnyH_ready (rs:=[1]) (by kernel_rfl) (by simp) (gR (fun g => .slice (some ⟨g,0,none⟩) 12 12) (zb 12).toList 5 (fun u hu=>below_next b1 hu) ?_ AllReadyH.nil)
       · intro U2 g1 hg2 hu2 r1
         replace r0:=r0.still hu2
         replace r2:=r2.still hu2
         have b2:=below_next b1 hu2
         (try simp only [pS])
         refine cl 3 (knows_open _ _ _ U2 (zrow r0) (zrow r1) (zrow r2)) ?_
         rintro e U9 ⟨rfl,hb⟩
         refine ⟨_,rfl,below_next b2 hb,?_⟩
         (try simp only [pS])
         have b9:=below_next b2 hb
         refine tg 4 b9 ?_
         (try simp only [pS])
         refine tg 5 b9 ?_
         (try simp only [pS])
         refine tg 6 b9 ?_
         (try simp only [pS])
         refine tg 7 b9 ?_
         (try simp only [pS])
         refine tg 8 b9 ?_
         (try simp only [pS])
         refine wpAnyH_done (by kernel_rfl) ?_ _
         refine NoPanic.normal ?_
         go_wp2
         go_meet
         case rel=>exact ⟨rfl,rB.still (below_next bd b9),below_next bw (below_next bd b9)⟩
   · intro U0 g1 hg0 hu0 r1
     have b0:=below_next hS hu0
     (try simp only [pS])
     refine wpAnyH_ready (rs:=[0,2]) (by kernel_rfl) (by simp) (gR (fun g => .slice (some ⟨g,0,none⟩) 16 16) (zb 16).toList 5 (fun u hu=>below_next b0 hu) ?_ (gR (fun g => .slice (some ⟨g,0,none⟩) 16 16) (zb 16).toList 5 (fun u hu=>below_next b0 hu) ?_ AllReadyH.nil))
     · intro U1 g0 hg1 hu1 r0
       replace r1:=r1.still hu1
       have b1:=below_next b0 hu1
       (try simp only [pS])
       refine wpAnyH_ready (rs:=[2]) (by kernel_rfl) (by simp) (gR (fun g => .slice (some ⟨g,0,none⟩) 16 16) (zb 16).toList 5 (fun u hu=>below_next b1 hu) ?_ AllReadyH.nil)
       · intro U2 g2 hg2 hu2 r2
         replace r1:=r1.still hu2
         replace r0:=r0.still hu2
         have b2:=below_next b1 hu2
         (try simp only [pS])
         refine cl 3 (knows_open _ _ _ U2 (zrow r0) (zrow r1) (zrow r2)) ?_
         rintro e U9 ⟨rfl,hb⟩
         refine ⟨_,rfl,below_next b2 hb,?_⟩
         (try simp only [pS])
         have b9:=below_next b2 hb
         refine tg 4 b9 ?_
         (try simp only [pS])
         refine tg 5 b9 ?_
         (try simp only [pS])
         refine tg 6 b9 ?_
         (try simp only [pS])
         refine tg 7 b9 ?_
         (try simp only [pS])
         refine tg 8 b9 ?_
         (try simp only [pS])
         refine wpAnyH_done (by kernel_rfl) ?_ _
         refine NoPanic.normal ?_
         go_wp2
         go_meet
         case rel=>exact ⟨rfl,rB.still (below_next bd b9),below_next bw (below_next bd b9)⟩
     · intro U1 g2 hg1 hu1 r2
       replace r1:=r1.still hu1
       have b1:=below_next b0 hu1
       (try simp only [pS])
       refine wpAnyH_ready (rs:=[0]) (by kernel_rfl) (by simp) (gR (fun g => .slice (some ⟨g,0,none⟩) 16 16) (zb 16).toList 5 (fun u hu=>below_next b1 hu) ?_ AllReadyH.nil)
       · intro U2 g0 hg2 hu2 r0
         replace r1:=r1.still hu2
         replace r2:=r2.still hu2
         have b2:=below_next b1 hu2
         (try simp only [pS])
         refine cl 3 (knows_open _ _ _ U2 (zrow r0) (zrow r1) (zrow r2)) ?_
         rintro e U9 ⟨rfl,hb⟩
         refine ⟨_,rfl,below_next b2 hb,?_⟩
         (try simp only [pS])
         have b9:=below_next b2 hb
         refine tg 4 b9 ?_
         (try simp only [pS])
         refine tg 5 b9 ?_
         (try simp only [pS])
         refine tg 6 b9 ?_
         (try simp only [pS])
         refine tg 7 b9 ?_
         (try simp only [pS])
         refine tg 8 b9 ?_
         (try simp only [pS])
         refine wpAnyH_done (by kernel_rfl) ?_ _
         refine NoPanic.normal ?_
         go_wp2
         go_meet
         case rel=>exact ⟨rfl,rB.still (below_next bd b9),below_next bw (below_next bd b9)⟩
   · intro U0 g2 hg0 hu0 r2
     have b0:=below_next hS hu0
     (try simp only [pS])
     refine wpAnyH_ready (rs:=[0,1]) (by kernel_rfl) (by simp) (gR (fun g => .slice (some ⟨g,0,none⟩) 16 16) (zb 16).toList 5 (fun u hu=>below_next b0 hu) ?_ (gR (fun g => .slice (some ⟨g,0,none⟩) 12 12) (zb 12).toList 5 (fun u hu=>below_next b0 hu) ?_ AllReadyH.nil))
     · intro U1 g0 hg1 hu1 r0
       replace r2:=r2.still hu1
       have b1:=below_next b0 hu1
       (try simp only [pS])
       refine wpAnyH_ready (rs:=[1]) (by kernel_rfl) (by simp) (gR (fun g => .slice (some ⟨g,0,none⟩) 12 12) (zb 12).toList 5 (fun u hu=>below_next b1 hu) ?_ AllReadyH.nil)
       · intro U2 g1 hg2 hu2 r1
         replace r2:=r2.still hu2
         replace r0:=r0.still hu2
         have b2:=below_next b1 hu2
         (try simp only [pS])
         refine cl 3 (knows_open _ _ _ U2 (zrow r0) (zrow r1) (zrow r2)) ?_
         rintro e U9 ⟨rfl,hb⟩
         refine ⟨_,rfl,below_next b2 hb,?_⟩
         (try simp only [pS])
         have b9:=below_next b2 hb
         refine tg 4 b9 ?_
         (try simp only [pS])
         refine tg 5 b9 ?_
         (try simp only [pS])
         refine tg 6 b9 ?_
         (try simp only [pS])
         refine tg 7 b9 ?_
         (try simp only [pS])
         refine tg 8 b9 ?_
         (try simp only [pS])
         refine wpAnyH_done (by kernel_rfl) ?_ _
         refine NoPanic.normal ?_
         go_wp2
         go_meet
         case rel=>exact ⟨rfl,rB.still (below_next bd b9),below_next bw (below_next bd b9)⟩
     · intro U1 g1 hg1 hu1 r1
       replace r2:=r2.still hu1
       have b1:=below_next b0 hu1
       (try simp only [pS])
       refine wpAnyH_ready (rs:=[0]) (by kernel_rfl) (by simp) (gR (fun g => .slice (some ⟨g,0,none⟩) 16 16) (zb 16).toList 5 (fun u hu=>below_next b1 hu) ?_ AllReadyH.nil)
       · intro U2 g0 hg2 hu2 r0
         replace r2:=r2.still hu2
         replace r1:=r1.still hu2
         have b2:=below_next b1 hu2
         (try simp only [pS])
         refine cl 3 (knows_open _ _ _ U2 (zrow r0) (zrow r1) (zrow r2)) ?_
         rintro e U9 ⟨rfl,hb⟩
         refine ⟨_,rfl,below_next b2 hb,?_⟩
         (try simp only [pS])
         have b9:=below_next b2 hb
         refine tg 4 b9 ?_
         (try simp only [pS])
         refine tg 5 b9 ?_
         (try simp only [pS])
         refine tg 6 b9 ?_
         (try simp only [pS])
         refine tg 7 b9 ?_
         (try simp only [pS])
         refine tg 8 b9 ?_
         (try simp only [pS])
         refine wpAnyH_done (by kernel_rfl) ?_ _
         refine NoPanic.normal ?_
         go_wp2
         go_meet
         case rel=>exact ⟨rfl,rB.still (below_next bd b9),below_next bw (below_next bd b9)⟩
  case rest =>
   obtain ⟨rfl,rC,bw2⟩:=hcut
   have hX:∀ j,slN z0 z0 0 z0 0 z0 j%256<256:=fun j=>Nat.mod_lt _ (by decide)
   have hB:∀ j,j<16→slN z0 z0 0 z0 0 z0 j<256:=fun j hj=>by
    show cat 0 (trN z0 z0 z0) (tgN z0 z0 0 z0 0 (trN z0 z0 z0)) j<256
    unfold cat
    rw [if_neg (by omega)]
    exact tgN_B hz0 hz0 0 0 _ (by omega)
   have e4:∀ j,slN z0 z0 0 z0 0 z0 j=tgN z0 z0 0 (z0) 0 (trN z0 z0 z0) j:=fun j=>by
    show cat 0 (trN z0 z0 z0) (tgN z0 z0 0 z0 0 (trN z0 z0 z0)) j=_
    unfold cat
    rw [if_neg (by omega),Nat.sub_zero]
   have e5:tgN z0 z0 0 z0 0 (trN z0 z0 z0)=tgN z0 z0 0 z0 0 z0:=by
    have ea:auN 0 z0 0 (trN z0 z0 z0)=auN 0 z0 0 z0:=by
     funext j
     unfold auN cat padN pad
     rfl
    unfold tgN
    rw [ea]
   have hs4:=fun c=>hstr wc gb c (fun j=>slN z0 z0 0 z0 0 z0 j%256) (rC.congr (fun j hj=>(Nat.mod_eq_of_lt (hB j hj)).symm)) hX (by rw [e4,e5,tag0.1]) (by rw [e4,e5,tag0.2.1]) (by rw [e4,e5,tag0.2.2.1]) (by rw [e4,e5,tag0.2.2.2])
   clear hstr e4 e5 hB hX rB rC
   go_wp2_with (first
    | rw [hs4]
    | (go_at_call 13;refine (hnum _ _).mono ?_;rintro e wn ⟨rfl,hwn⟩;subst hwn))
   go_ret
   exact ⟨rfl,bw2⟩
end Go.Proofs.Ytalgabgofpmebaa
namespace Go.Proofs.Ytalgabgofpmebaa
open Go.RowKit
theorem RowF.bytes {base:Nat} {w:World} {s:Value} {X:Nat→Nat} (h:RowF base w s 16 X):BytesIn w s 16 X:=by
 obtain ⟨g,cap,rfl,-,hc,hr⟩:=h
 exact .inr ⟨g,0,cap,rfl,block_lt_of_cell (hr 0 (by decide)).1,hc,fun j hj=>(hr j hj).1⟩
def slB (ks nn:Nat→Nat) (ml:Nat) (M:Nat→Nat) (n:Nat) (X:Nat→Nat) (j:Nat):Nat:=slN ks nn ml M n X j%256
theorem slN_lt {ks nn M X:Nat→Nat} (hks:∀ j,ks j<256) (hnn:∀ j,nn j<256) (hX:∀ j,X j<256) (ml n j:Nat) (hj:j<n+16):slN ks nn ml M n X j<256:=by
 unfold slN cat
 split
 · exact trN_lt hks hnn hX j
 · exact tgN_B hks hnn ml n _ (by omega)
end Go.Proofs.Ytalgabgofpmebaa
namespace Go.Proofs.Ytalgabgofpmebaa
open Go.RowKit
def fitN (k n:Nat) (bs:Nat→Nat):Nat→Nat:=over (fun _=>0) 0 (Nat.min n k) bs
theorem fitN_lt {k n:Nat} {bs:Nat→Nat} (h:∀ j,bs j<256):∀ j,fitN k n bs j<256:=over_lt (fun _=>by decide) h
set_option maxRecDepth 20000 in
set_option maxHeartbeats 1000000 in
theorem fit9_any (k:Nat) (hk:k≤1000) (v:Value) (n:Nat) (bs:Nat→Nat) (w:World) (hv:BytesIn w v n bs) :
 Calls Try.prog 22 #[v,.int .i64 k] w fun e w'=>∃ g,e = .returned (.slice (some ⟨g,0,none⟩) k k)∧w.heap.size≤g∧RowAt .u8 w' g 0 k (fitN k n bs)∧Below w.heap.size w w':=by
 have hsz:(Try.prog.info? 5).map (·.size)=some 1:=by kernel_rfl
 obtain ⟨xo,cx,rfl,-,-,hsrc⟩:=hv.src
 have hmk:=make_bytes w k k rfl (by omega)
 obtain ⟨W,hW⟩:∃ W,W=w.alloc (.cells (zb k) 5):=⟨_,rfl⟩
 rw [←hW] at hmk
 have hbW:Below w.heap.size w W:=by rw [hW];exact (Below.refl _ _).alloc (Nat.le_refl _) _
 have hB:RowAt .u8 W w.heap.size 0 k (fun _=>0):=by rw [hW];exact RowAt.zero w k _
 have src:=hsrc W hbW
 have hth:=hB.there
 obtain ⟨m,hm⟩:∃ m,m=Nat.min n k:=⟨_,rfl⟩
 have hR:=hB.splice 0 m bs (by rw [hm,Nat.zero_add];exact Nat.min_le_right _ _)
 rw [Nat.zero_add] at hR
 have eR:fitN k n bs=over (fun _=>0) 0 m bs:=by rw [hm];rfl
 rw [eR]
 have hb':Below w.heap.size w (W.setCells w.heap.size 0 (ints .u8 m bs)):=below_setCells (Nat.le_refl _) _ _ _ hbW
 have Hm:=Hid.mk' hm
 clear hW hB hv hsrc eR hm
 go_enter Try.func22,Try.ntmps22
 go_wp2_with (first
  | rw [hmk]
  | (refine wpList_copy_bytes rfl _ _ 22 22 rfl 5 Try.underlying22 hsz w.heap.size 0 k k xo n cx rfl rfl m bs src Hm.out hth ?_))
 go_ret
 exact ⟨_,rfl,Nat.le_refl _,hR,hb'⟩
end Go.Proofs.Ytalgabgofpmebaa
namespace Go.Proofs.Ytalgabgofpmebaa
open Go.RowKit
theorem box4 {W:World} {g:Nat} {v0 v1 v2 v3:Value} (r:RW W g 0 [v0,v1,v2,v3]):W.cell? ⟨g,0,none⟩=some v0∧W.cell? ⟨g,1,none⟩=some v1∧W.cell? ⟨g,2,none⟩=some v2∧W.cell? ⟨g,3,none⟩=some v3:=⟨r.range 0 v0 rfl,r.range 1 v1 rfl,r.range 2 v2 rfl,r.range 3 v3 rfl⟩
end Go.Proofs.Ytalgabgofpmebaa
namespace Go.Proofs.Ytalgabgofpmebaa
open Go.RowKit
theorem seal_own (v u m t:Value) (ml n:Nat) (ks nn M X:Nat→Nat) (hml:ml≤65536) (hn:n≤65536) (hks:∀ j,ks j<256) (hnn:∀ j,nn j<256) (hM:∀ j,M j<256) (hX:∀ j,X j<256) (w:World) (hv:BytesIn w v 16 ks) (hu:BytesIn w u 12 nn) (hm:BytesIn w m ml M) (ht:BytesIn w t n X) :
 Calls Try.prog 18 #[v,u,m,t] w fun e w'=>∃ g cap,e = .returned (.tuple #[.slice (some ⟨g,0,none⟩) (n+16) cap,.int .i64 0])∧w.heap.size≤g∧n+16≤cap∧RowAt .u8 w' g 0 (n+16) (slB ks nn ml M n X)∧Below w.heap.size w w' :=
 (seal_good v u m t ml n ks nn M X hml hn hks hnn hM hX w hv hu hm ht).mono fun _ _ ⟨s,he,ho,hb⟩=>by
  obtain ⟨g,cap,rfl,hg,-,hc,hr⟩:=ho.form.resolve_left (fun h=>by omega)
  exact ⟨g,cap,he,hg,hc,hr.congr (fun j hj=>(Nat.mod_eq_of_lt (slN_lt hks hnn hX ml n j hj)).symm),hb⟩
theorem rem_in (z:Int) (L:Nat) (hL:0<L) (hL2:L<1000000):∃ k:Nat,(wrap64 (z.tmod (L:Int)+(L:Int))).tmod (L:Int)=(k:Int)∧k<L:=by
 have h1:=Int.lt_tmod_of_pos z (b:=(L:Int)) (by omega)
 have h2:=Int.tmod_lt_of_pos z (b:=(L:Int)) (by omega)
 have e:wrap64 (z.tmod (L:Int)+(L:Int))=z.tmod (L:Int)+(L:Int):=by unfold wrap64;omega
 rw [e]
 have h3:=Int.tmod_nonneg (L:Int) (a:=z.tmod (L:Int)+(L:Int)) (by omega)
 have h4:=Int.tmod_lt_of_pos (z.tmod (L:Int)+(L:Int)) (b:=(L:Int)) (by omega)
 exact ⟨((z.tmod (L:Int)+(L:Int)).tmod (L:Int)).toNat,by omega,by omega⟩
end Go.Proofs.Ytalgabgofpmebaa
namespace Go.Proofs.Ytalgabgofpmebaa
open Go.RowKit
theorem tgN_same (ks nn:Nat→Nat) (ml:Nat) (M:Nat→Nat) (n:Nat) {D F:Nat→Nat} (h:∀ j,j<n→D j=F j):tgN ks nn ml M n D=tgN ks nn ml M n F:=by
 have e:padN n D=padN n F:=funext fun j=>by
  unfold padN
  split
  · exact h j (by assumption)
  · rfl
 funext j
 unfold tgN auN
 rw [e]
theorem slB_low {ks nn X:Nat→Nat} (hks:∀ j,ks j<256) (hnn:∀ j,nn j<256) (hX:∀ j,X j<256) (ml:Nat) (M:Nat→Nat) (n j:Nat) (hj:j<n):slB ks nn ml M n X j=trN ks nn X j:=by
 unfold slB slN cat
 rw [if_pos hj,Nat.mod_eq_of_lt (trN_lt hks hnn hX j)]
theorem slB_tag {ks nn:Nat→Nat} (hks:∀ j,ks j<256) (hnn:∀ j,nn j<256) (X:Nat→Nat) (ml:Nat) (M:Nat→Nat) (n j:Nat) (hj:j<16):slB ks nn ml M n X (n+j)=tgN ks nn ml M n (trN ks nn X) j:=by
 unfold slB slN cat
 rw [if_neg (by omega),Nat.add_sub_cancel_left,Nat.mod_eq_of_lt (tgN_B hks hnn ml n j hj)]
theorem trN_back (ks nn:Nat→Nat) {X Y:Nat→Nat} (n:Nat) (h:∀ j,j<n→Y j=trN ks nn X j) (j:Nat) (hj:j<n):trN ks nn Y j=X j:=by
 unfold trN
 rw [h j hj]
 unfold trN
 rw [Nat.xor_assoc,Nat.xor_self,Nat.xor_zero]
theorem open_back (v u m t:Value) (ml n:Nat) (ks nn M X:Nat→Nat) (hml:ml≤65536) (hn:n≤65536) (hks:∀ j,ks j<256) (hnn:∀ j,nn j<256) (hM:∀ j,M j<256) (hX:∀ j,X j<256) (w:World) (hv:BytesIn w v 16 ks) (hu:BytesIn w u 12 nn) (hm:BytesIn w m ml M) (ht:BytesIn w t (n+16) (slB ks nn ml M n X)) :
 Calls Try.prog 20 #[v,u,m,t] w fun e w'=>∃ s,e = .returned (.tuple #[s,.int .i64 0])∧BytesIn w' s n X∧Below w.heap.size w w' :=
 (open_long v u m t ml n ks nn M (slB ks nn ml M n X) hml hn hks hnn hM (fun j=>Nat.mod_lt _ (by decide)) w hv hu hm ht).mono fun _ _ ⟨h,_,hb⟩=>by
  obtain ⟨s,he,ho⟩:=h fun j hj=>by
   rw [tgN_same ks nn ml M n (fun j hj=>slB_low hks hnn hX ml M n j hj)]
   exact (slB_tag hks hnn X ml M n j hj).symm
  exact ⟨s,he,(ho.congr (trN_back ks nn n (fun j hj=>slB_low hks hnn hX ml M n j hj))).bytesOf,hb⟩
theorem open_spoilt (v u m t:Value) (ml n:Nat) (ks nn M X:Nat→Nat) (q x:Nat) (hq:q<16) (hx:x<256) (hml:ml≤65536) (hn:n≤65536) (hks:∀ j,ks j<256) (hnn:∀ j,nn j<256) (hM:∀ j,M j<256) (hX:∀ j,X j<256) (w:World) (hv:BytesIn w v 16 ks) (hu:BytesIn w u 12 nn) (hm:BytesIn w m ml M) (ht:BytesIn w t (n+16) (upd (slB ks nn ml M n X) (n+q) (slB ks nn ml M n X (n+q) ^^^ x))) :
 Calls Try.prog 20 #[v,u,m,t] w fun e w'=>∃ s E,e = .returned (.tuple #[s,.int .i64 E])∧(x=0∨E=32)∧Below w.heap.size w w':=by
 have hlt:∀ j,upd (slB ks nn ml M n X) (n+q) (slB ks nn ml M n X (n+q) ^^^ x) j<256:=fun j=>by
  unfold upd
  split
  · exact xor_byte (Nat.mod_lt _ (by decide)) hx
  · exact Nat.mod_lt _ (by decide)
 refine (open_long v u m t ml n ks nn M _ hml hn hks hnn hM hlt w hv hu hm ht).mono fun _ _ ⟨h1,h2,hb⟩ => ?_
 by_cases h0:x=0
 · by_cases hs:S16 (tgN ks nn ml M n (upd (slB ks nn ml M n X) (n+q) (slB ks nn ml M n X (n+q) ^^^ x))) (fun j=>upd (slB ks nn ml M n X) (n+q) (slB ks nn ml M n X (n+q) ^^^ x) (n+j))
   · obtain ⟨s,he,_⟩:=h1 hs
     exact ⟨s,0,he,.inl h0,hb⟩
   · exact ⟨_,32,h2 hs,.inl h0,hb⟩
 · refine ⟨_,32,h2 fun hs=>h0 ?_,.inr rfl,hb⟩
   have e:=hs q hq
   rw [tgN_same ks nn ml M n (F:=trN ks nn X) (fun j hj=>by
    unfold upd
    rw [if_neg (by omega)]
    exact slB_low hks hnn hX ml M n j hj),←slB_tag hks hnn X ml M n q hq] at e
   unfold upd at e
   dsimp only at e
   rw [if_pos rfl] at e
   have e2:=congrArg (fun y=>slB ks nn ml M n X (n+q) ^^^ y) e
   simp only [Nat.xor_self,←Nat.xor_assoc,Nat.zero_xor] at e2
   exact e2.symm
theorem seals_like {ks nn X Y:Nat→Nat} (hks:∀ j,ks j<256) (hnn:∀ j,nn j<256) (hX:∀ j,X j<256) (hY:∀ j,Y j<256) (ml:Nat) (M:Nat→Nat) (n m:Nat) :
 ((strB (n+16) (slB ks nn ml M n X)).toList == (strB (m+16) (slB ks nn ml M m Y)).toList)=((strB n X).toList == (strB m Y).toList):=by
 have eq:∀ {a b:ByteArray},(a.toList == b.toList)=decide (a=b):=fun {a b}=>by
  by_cases h:a=b
  · subst h;simp
  · rw [decide_eq_false h]
    exact beq_false_of_ne fun e=>h (WideShapes.bytes_inj (by simpa [ByteArray.toList_eq] using e))
 rw [eq,eq]
 refine decide_eq_decide.2 ?_
 have hl:∀ (k:Nat) (Z:Nat→Nat) j,slB ks nn ml M k Z j<256:=fun k Z j=>Nat.mod_lt _ (by decide)
 rw [strB_eq (hl n X) (hl m Y),strB_eq hX hY]
 constructor
 · rintro ⟨h1,h2⟩
   obtain rfl:n=m:=by omega
   refine ⟨rfl,fun j hj => ?_⟩
   have e:=h2 j (by omega)
   rw [slB_low hks hnn hX ml M n j hj,slB_low hks hnn hY ml M n j hj] at e
   unfold trN at e
   have e2:=congrArg (fun y=>y ^^^ ctB ks nn (2+j / 16) (j%16)) e
   simpa [Nat.xor_assoc] using e2
 · rintro ⟨rfl,h2⟩
   refine ⟨rfl,fun j hj => ?_⟩
   have ht:∀ j,j<n→trN ks nn X j=trN ks nn Y j:=fun j hj=>by unfold trN;rw [h2 j hj]
   by_cases hjn:j<n
   · rw [slB_low hks hnn hX ml M n j hjn,slB_low hks hnn hY ml M n j hjn];exact ht j hjn
   · obtain ⟨q,rfl⟩:∃ q,j=n+q:=⟨j - n,by omega⟩
     rw [slB_tag hks hnn X ml M n q (by omega),slB_tag hks hnn Y ml M n q (by omega),tgN_same ks nn ml M n ht]
set_option maxRecDepth 20000 in
set_option maxHeartbeats 8000000 in
theorem gcmBack_any (v0 v1 v2 v3 vo:Value) (n0 n1 n2 n3 no:Nat) (b0 b1 b2 b3 bo:Nat→Nat) (l0:∀ j,b0 j<256) (l1:∀ j,b1 j<256) (l2:∀ j,b2 j<256) (l3:∀ j,b3 j<256) (lo:∀ j,bo j<256) (z:Int) (x:Nat) (hx:x<256) (w:World) (h0:BytesIn w v0 n0 b0) (h1:BytesIn w v1 n1 b1) (h2:BytesIn w v2 n2 b2) (h3:BytesIn w v3 n3 b3) (ho:BytesIn w vo no bo) :
 Calls Try.prog 7 #[.agg #[v0,v1,v2,v3],vo,.int .i64 z,.int .u8 x] w fun e w'=>e = .returned (.bool true)∧Below w.heap.size w w':=by
 have ca:=fun W hb=>fit9_any 16 (by decide) v0 n0 b0 W (h0.keep hb)
 have cb:=fun W hb=>fit9_any 12 (by decide) v1 n1 b1 W (h1.keep hb)
 obtain ⟨A,hA⟩:∃ A,A=fitN 16 n0 b0:=⟨_,rfl⟩
 obtain ⟨B,hB⟩:∃ B,B=fitN 12 n1 b1:=⟨_,rfl⟩
 have lA:∀ j,A j<256:=by rw [hA];exact fitN_lt l0
 have lB:∀ j,B j<256:=by rw [hB];exact fitN_lt l1
 rw [←hA] at ca
 rw [←hB] at cb
 have ck:=knows9
 obtain ⟨x0,c0,rfl,-,-,-⟩:=h0.src
 obtain ⟨x1,c1,rfl,-,-,-⟩:=h1.src
 obtain ⟨x2,c2,rfl,-,-,-⟩:=h2.src
 obtain ⟨x3,c3,rfl,-,-,-⟩:=h3.src
 obtain ⟨xo,co,rfl,-,-,-⟩:=ho.src
 obtain ⟨V,hV⟩:∃ V,V=w.alloc (.cells #[.slice x0 n0 c0,.slice x1 n1 c1,.slice x2 n2 c2,.slice x3 n3 c3] 33):=⟨_,rfl⟩
 have rX:RW V w.heap.size 0 [.slice x0 n0 c0,.slice x1 n1 c1,.slice x2 n2 c2,.slice x3 n3 c3]:=by rw [hV];exact RW.fresh w [_,_,_,_] _
 have b:Below w.heap.size w V:=by rw [hV];exact (Below.refl _ _).alloc (Nat.le_refl _) _
 have HV:=Hid.mk' hV
 obtain ⟨f0,f1,f2,f3⟩:=box4 rX
 replace ca:=ca V b
 have hw0:IntKind.i64.wrap 0=0:=rfl
 clear h0 h1 l0 l1 hA hB hV
 by_cases hlen:n3≤65536∧n2≤65536∧no≤65536
 · obtain ⟨k3,k2,ko⟩:=hlen
   have t3:¬(65536:Int)<(n3:Int):=by omega
   have t2:¬(65536:Int)<(n2:Int):=by omega
   have to:¬(65536:Int)<(no:Int):=by omega
   have s1:=fun v u W hv hu hb=>seal_own v u (.slice x2 n2 c2) (.slice x3 n3 c3) n2 n3 A B b2 b3 k2 k3 lA lB l2 l3 W hv hu (h2.keep hb) (h3.keep hb)
   have o1:=fun v u t W hv hu hb ht=>open_back v u (.slice x2 n2 c2) t n2 n3 A B b2 b3 k2 k3 lA lB l2 l3 W hv hu (h2.keep hb) ht
   have s2:=fun v u W hv hu hb=>seal_own v u (.slice x2 n2 c2) (.slice xo no co) n2 no A B b2 bo k2 ko lA lB l2 lo W hv hu (h2.keep hb) (ho.keep hb)
   obtain ⟨q,hq,hql⟩:=rem_in z 16 (by decide) (by decide)
   replace hq:(wrap64 (z.tmod 16+16)).tmod 16=(q:Int):=hq
   have o2:=fun v u t W hv hu hb ht=>open_spoilt v u (.slice x2 n2 c2) t n2 n3 A B b2 b3 q x hql hx k2 k3 lA lB l2 l3 W hv hu (h2.keep hb) ht
   have hlike:=seals_like lA lB l3 lo n2 b2 n3 no
   have cT:=fun W hb=>h3.conv l3 W hb
   have cO:=fun W hb=>ho.conv lo W hb
   have cB:=fun (W W':World) (s:Value) (h:BytesIn W s n3 b3) (hb:Below W.heap.size W W')=>h.conv l3 W' hb
   have cA:=fun (N m:Nat) (X:Nat→Nat) (W:World) g c (h:RowAt .u8 W g 0 (m+16) (slB A B n2 b2 m X))=>conv_bytes W g 0 (m+16) c (slB A B n2 b2 m X) (fun j=>Nat.mod_lt _ (by decide)) (fun j hj=>(h j hj).1)
   have hYl:∀ j,slB A B n2 b2 n3 b3 j<256:=fun j=>Nat.mod_lt _ (by decide)
   obtain ⟨N,hN⟩:∃ N,N=n3+16:=⟨_,rfl⟩
   obtain ⟨N2,hN2⟩:∃ N,N=no+16:=⟨_,rfl⟩
   obtain ⟨pp,hpp⟩:∃ p,p=n3+q:=⟨_,rfl⟩
   have cA1:=cA 0 n3 b3
   have cA2:=cA 0 no bo
   rw [←hN] at s1 o1 o2 hlike cA1
   rw [←hN2] at s2 hlike cA2
   rw [←hpp] at o2
   obtain ⟨Y,hY⟩:∃ Y,Y=slB A B n2 b2 n3 b3:=⟨_,rfl⟩
   rw [←hY] at s1 o1 o2 hlike cA1 hYl
   obtain ⟨Y2,hY2⟩:∃ Y,Y=slB A B n2 b2 no bo:=⟨_,rfl⟩
   rw [←hY2] at s2 hlike cA2
   obtain ⟨ST,hST⟩:∃ S,S=strB n3 b3:=⟨_,rfl⟩
   obtain ⟨SO,hSO⟩:∃ S,S=strB no bo:=⟨_,rfl⟩
   obtain ⟨SA,hSA⟩:∃ S,S=strB N Y:=⟨_,rfl⟩
   obtain ⟨SD,hSD⟩:∃ S,S=strB N2 Y2:=⟨_,rfl⟩
   rw [←hST,←hSO,←hSA,←hSD] at hlike
   rw [←hST] at cT cB
   rw [←hSO] at cO
   rw [←hSA] at cA1
   rw [←hSD] at cA2
   have y1:IntKind.i64.wrap ((n3:Int)+16)=(N:Int):=by simp only [IntKind.wrap_i64];omega
   have y2:(n3:Int)+16=(N:Int):=by omega
   have y3:IntKind.i64.wrap ((N:Int) - 16)=(n3:Int):=by simp only [IntKind.wrap_i64];omega
   have y4:(N:Int) - 16=(n3:Int):=by omega
   have y5:IntKind.i64.wrap ((n3:Int)+(q:Int))=(pp:Int):=by simp only [IntKind.wrap_i64];omega
   have y6:(n3:Int)+(q:Int)=(pp:Int):=by omega
   have y7:(0:Int)≤(pp:Int)∧(pp:Int)<(N:Int):=by omega
   have ypN:pp<N:=by omega
   have N0:0<N:=by omega
   have xo1:=u8_xor_nat (Y pp) x (hYl pp) hx
   obtain ⟨yx,hyx⟩:∃ y,y=Y pp ^^^ x:=⟨_,rfl⟩
   rw [←hyx] at xo1 o2
   clear hN hN2 hpp hY hY2 hST hSO hSA hSD hyx cA h2 h3 ho l2 l3 lo lA lB hYl
   go_enter Try.func7,Try.ntmps7
   go_upto_region 8 with (first
    | (go_at_call 22;rw [←HV.out];refine ca.mono ?_;clear ca HV;rintro e w1 ⟨ga,rfl,-,ra,bb⟩;(replace rX:=rX.still bb);(replace b:=below_next b bb);(obtain ⟨f0,f1,f2,f3⟩:=box4 rX);(replace cb:=cb w1 b);clear bb)
    | (go_at_call 22;refine cb.mono ?_;clear cb;rintro e w2 ⟨gb,rfl,-,rb,bb⟩;(replace rX:=rX.still bb);(replace ra:=ra.still bb);(replace b:=below_next b bb);(obtain ⟨f0,f1,f2,f3⟩:=box4 rX);(replace s1:=s1 _ _ w2 (rowB ra (by decide) (Nat.le_refl _)) (rowB rb (by decide) (Nat.le_refl _)) b);clear bb)
    | (go_at_call 18;refine s1.mono ?_;clear s1;rintro e w3 ⟨g1,p1,rfl,hg1,hp1,r1,bb⟩;(have wg1:=Nat.le_trans b.size hg1);(have la:ga<g1:=Nat.lt_of_lt_of_le (block_lt_of_cell (ra 0 (by decide)).1) hg1);(have lb:gb<g1:=Nat.lt_of_lt_of_le (block_lt_of_cell (rb 0 (by decide)).1) hg1);(have lX:w.heap.size<g1:=Nat.lt_of_lt_of_le rX.lt hg1);(replace rX:=rX.still bb);(replace ra:=ra.still bb);(replace rb:=rb.still bb);(replace b:=below_next b bb);(obtain ⟨f0,f1,f2,f3⟩:=box4 rX);(replace o1:=o1 _ _ _ w3 (rowB ra (by decide) (Nat.le_refl _)) (rowB rb (by decide) (Nat.le_refl _)) b (rowB r1 N0 hp1));clear bb hg1)
    | (go_at_call 20;refine o1.mono ?_;clear o1;rintro e w4 ⟨s4,rfl,i4,bb⟩;(obtain ⟨x4,l4,hs4,-,-,-⟩:=i4.src);subst hs4;(replace rX:=rX.still bb);(replace ra:=ra.still bb);(replace rb:=rb.still bb);(replace b:=below_next b bb);(obtain ⟨f0,f1,f2,f3⟩:=box4 rX);(replace r1:=r1.still bb);(replace s2:=s2 _ _ w4 (rowB ra (by decide) (Nat.le_refl _)) (rowB rb (by decide) (Nat.le_refl _)) b);clear bb)
    | (go_at_call 18;refine s2.mono ?_;clear s2;rintro e w5 ⟨g2,p2,rfl,-,hp2,r2,bb⟩;(replace rX:=rX.still bb);(replace ra:=ra.still bb);(replace rb:=rb.still bb);(replace b:=below_next b bb);(obtain ⟨f0,f1,f2,f3⟩:=box4 rX);(replace r1:=r1.still bb);(have qB:=cB w4 w5 _ i4 bb);(have qT:=cT w5 b);(have qO:=cO w5 b);(have qA:=cA1 w5 g1 p1 r1);(have qD:=cA2 w5 g2 p2 r2);clear bb cB cT cO cA1 cA2 i4 r2))
   go_upto_region 11 with (first
    | rw [qB]
    | rw [qT]
    | rw [qO]
    | rw [qA]
    | rw [qD]
    | (go_at_call 13;refine (num9_any _ _).mono ?_;rintro e wn ⟨rfl,hwn⟩;subst hwn)
    | (go_at_call 15;refine (ck _).mono ?_;clear ck;rintro e w6 ⟨rfl,bb⟩;(replace rX:=rX.still bb);(replace ra:=ra.still bb);(replace rb:=rb.still bb);(replace b:=below_next b bb);(obtain ⟨f0,f1,f2,f3⟩:=box4 rX);(replace r1:=r1.still bb);clear bb))
   have rc:w6.cell? ⟨g1,pp,none⟩=some (.int .u8 (Y pp)):=by have:=(r1 pp ypN).1;rwa [Nat.zero_add] at this
   have rf:w6.frozen? ⟨g1,pp,none⟩=false:=by have:=(r1 pp ypN).2;rwa [Nat.zero_add] at this
   have rS:=r1.set (i:=pp) ypN (v:=(yx:Int)) (u:=yx) rfl
   rw [Nat.zero_add] at rS
   replace ra:=ra.far (a:=⟨g1,pp,none⟩) (Nat.ne_of_gt la) (.int .u8 (yx:Int))
   replace rb:=rb.far (a:=⟨g1,pp,none⟩) (Nat.ne_of_gt lb) (.int .u8 (yx:Int))
   replace rX:=rX.far g1 pp [.int .u8 (yx:Int)] (.inl (Nat.ne_of_lt lX))
   replace rX:RW (w6.setCell ⟨g1,pp,none⟩ (.int .u8 (yx:Int))) w.heap.size 0 [.slice x0 n0 c0,.slice x1 n1 c1,.slice x2 n2 c2,.slice x3 n3 c3]:=rX
   replace b:=b.setCell (p:=⟨g1,pp,none⟩) wg1 (.int .u8 (yx:Int))
   obtain ⟨f0,f1,f2,f3⟩:=box4 rX
   replace o2:=o2 _ _ _ _ (rowB ra (by decide) (Nat.le_refl _)) (rowB rb (by decide) (Nat.le_refl _)) b (rowB rS N0 hp1)
   go_upto_region 13 with (first
    | rw [xo1]
    | (go_at_call 20;refine o2.mono ?_;clear o2;rintro e w7 ⟨s7,E,rfl,hE,bb⟩;(replace b:=below_next b bb);clear bb))
   clear rX ra rb rS r1 rc rf f0 f1 f2 f3 wg1 la lb lX
   by_cases hx0:x=0
   · subst hx0
     go_wp2_with (first
      | (go_at_call 13;refine (num9_any _ _).mono ?_;rintro e wn ⟨rfl,hwn⟩;subst hwn))
     go_ret
     exact ⟨rfl,b⟩
   · obtain rfl:=hE.resolve_left hx0
     have hxi:¬((x:Int)=0):=by omega
     go_wp2_with (first
      | (go_at_call 13;refine (num9_any _ _).mono ?_;rintro e wn ⟨rfl,hwn⟩;subst hwn))
     go_ret
     exact ⟨rfl,b⟩
 · clear h2 h3 ho l2 l3 lo hx
   rcases (show 65536<n3∨(n3≤65536∧65536<n2)∨(n3≤65536∧n2≤65536∧65536<no) by omega) with k3 | ⟨k3,k2⟩ | ⟨k3,k2,ko⟩
   · have t0:(65536:Int)<(n3:Int):=by omega
     clear hlen
     go_enter Try.func7,Try.ntmps7
     go_wp2_with (first
      | (go_at_call 22;rw [←HV.out];refine ca.mono ?_;clear ca HV;rintro e w1 ⟨ga,rfl,-,ra,bb⟩;(replace rX:=rX.still bb);(replace b:=below_next b bb);(obtain ⟨f0,f1,f2,f3⟩:=box4 rX);(replace cb:=cb w1 b);clear bb)
      | (go_at_call 22;refine cb.mono ?_;clear cb;rintro e w2 ⟨gb,rfl,-,rb,bb⟩;(replace rX:=rX.still bb);(replace ra:=ra.still bb);(replace b:=below_next b bb);(obtain ⟨f0,f1,f2,f3⟩:=box4 rX);clear bb)
      | (go_at_call 15;refine (ck _).mono ?_;clear ck;rintro e w6 ⟨rfl,bb⟩))
     go_ret
     exact ⟨rfl,below_next b bb⟩
   · have t0:¬(65536:Int)<(n3:Int):=by omega
     have t1:(65536:Int)<(n2:Int):=by omega
     clear hlen
     go_enter Try.func7,Try.ntmps7
     go_wp2_with (first
      | (go_at_call 22;rw [←HV.out];refine ca.mono ?_;clear ca HV;rintro e w1 ⟨ga,rfl,-,ra,bb⟩;(replace rX:=rX.still bb);(replace b:=below_next b bb);(obtain ⟨f0,f1,f2,f3⟩:=box4 rX);(replace cb:=cb w1 b);clear bb)
      | (go_at_call 22;refine cb.mono ?_;clear cb;rintro e w2 ⟨gb,rfl,-,rb,bb⟩;(replace rX:=rX.still bb);(replace ra:=ra.still bb);(replace b:=below_next b bb);(obtain ⟨f0,f1,f2,f3⟩:=box4 rX);clear bb)
      | (go_at_call 15;refine (ck _).mono ?_;clear ck;rintro e w6 ⟨rfl,bb⟩))
     go_ret
     exact ⟨rfl,below_next b bb⟩
   · have t0:¬(65536:Int)<(n3:Int):=by omega
     have t1:¬(65536:Int)<(n2:Int):=by omega
     have t2:(65536:Int)<(no:Int):=by omega
     clear hlen
     go_enter Try.func7,Try.ntmps7
     go_wp2_with (first
      | (go_at_call 22;rw [←HV.out];refine ca.mono ?_;clear ca HV;rintro e w1 ⟨ga,rfl,-,ra,bb⟩;(replace rX:=rX.still bb);(replace b:=below_next b bb);(obtain ⟨f0,f1,f2,f3⟩:=box4 rX);(replace cb:=cb w1 b);clear bb)
      | (go_at_call 22;refine cb.mono ?_;clear cb;rintro e w2 ⟨gb,rfl,-,rb,bb⟩;(replace rX:=rX.still bb);(replace ra:=ra.still bb);(replace b:=below_next b bb);(obtain ⟨f0,f1,f2,f3⟩:=box4 rX);clear bb)
      | (go_at_call 15;refine (ck _).mono ?_;clear ck;rintro e w6 ⟨rfl,bb⟩))
     go_ret
     exact ⟨rfl,below_next b bb⟩
end Go.Proofs.Ytalgabgofpmebaa
