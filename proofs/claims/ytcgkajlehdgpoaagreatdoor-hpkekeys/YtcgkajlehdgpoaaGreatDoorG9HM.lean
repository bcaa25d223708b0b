/- What the proof stands on: G9H, G9I, G9K, G9L, G9M, G9Kn, G9Ans, QRO, QCO, QRQ, QCQ, QNum, QAes, G9LT, G9LB. -/
import Derived.Test.YtcgkajlehdgpoaaGreatDoorA8NxtM
import Derived.Test.YtcgkajlehdgpoaaGreatDoorBaseM
import Derived.Test.YtcgkajlehdgpoaaGreatDoorQCTM
import Derived.Test.YtcgkajlehdgpoaaGreatDoorQRDM
namespace Go.Proofs.YtcgkajlehdgpoaaGreatDoor
open Go.RowKit Go.Shelf
attribute [local go_sem] Oper.semAt_some
theorem Own.but {bad:Nat→Prop} {W W':World} {base g n c:Nat} {X:Nat→Nat} (h:Own base W (.slice (some ⟨g,0,none⟩) n c) n X) (hb:But bad W W') (hne:¬bad g):Own base W' (.slice (some ⟨g,0,none⟩) n c) n X:=by
 rcases h.2 with ⟨e,_⟩ | ⟨g',cap,cur,e,h1,h2,h3⟩
 · cases e
 · cases e
   exact ⟨h.1,.inr ⟨g,c,cur,rfl,h1,(hb.block g (Array.getElem?_eq_some_iff.1 h2).1 hne).trans h2,h3⟩⟩
theorem make_roomN (W:World) (n:Nat) (l:Int) (hl:l=(n:Int)) (hn:n≤1000000):(Instr.makeSlice 22 (.int .i64 0) (.int .i64 l)).run Tryz.prog W = .ok (.slice (some ⟨W.heap.size,0,none⟩) 0 n) (W.alloc (.cells (zb n) 5)):=by
 subst hl
 obtain ⟨i0,hi,hz0,hz1,hz2⟩:=info_parts (show (Tryz.prog.info? 5).map (fun i=>(i.zero,i.size,i.bytes))=some (some (.int .u8 0),1,1) by kernel_rfl)
 have:=run_makeSlice (P:=Tryz.prog) W 22 5 i0 (.int .u8 0) Tryz.underlying22 hi hz0 .i64 .i64 0 n (Int.le_refl _) (by omega) (by rw [hz1];simp;omega) (by rw [hz2];omega) (by omega)
 rw [this,hz1]
 simp only [Int.toNat_natCast,Int.toNat_zero,made_zb]
theorem Own.madeN (base:Nat) (W:World) (c:Nat) (X:Nat→Nat) (hb:base≤W.heap.size) (hc:c<1000000):Own base (W.alloc (.cells (zb c) 5)) (.slice (some ⟨W.heap.size,0,none⟩) 0 c) 0 X :=
 ⟨rfl,.inr ⟨W.heap.size,c,zb c,rfl,hb,World.alloc_heap_new _ _,Nat.zero_le _,by unfold maxLen;omega,by simp [zb],by simp [ints]⟩⟩
theorem RowAt.toRW {K:IntKind} {w:World} {g o n:Nat} {X:Nat→Nat} (h:RowAt K w g o n X) (hn:0<n):RW w g o (ints K n X):=⟨h.range,by rw [ints_len];exact h.there,block_lt_of_cell (h 0 hn).1⟩
structure CInv (w:World) (l D:Nat) (rec:Loop) (ks nn T:Nat→Nat) (n N:Nat) (tv:Value) (k:Nat) (W:World):Prop where
 lp:W.heap[l]? = some (.loop rec)
 dfr:W.heap[D]? = some (.deferred (some []))
 lock:RW W w.heap.size 0 (ints .u8 32 (lkN ks nn))
 txt:RW W (w.heap.size+1) 0 [tv]
 own:Own w.heap.size W (.slice (some ⟨w.heap.size+1+1,0,none⟩) (min n (16*k)) N) (min n (16*k)) T
 out:RW W (w.heap.size+1+1+1) 0 [.slice (some ⟨w.heap.size+1+1,0,none⟩) (min n (16*k)) N]
 num:RW W (w.heap.size+1+1+1+1) 0 [.int .u32 ((2+k:Nat):Int)]
 lst:W.cell? ⟨w.heap.size+1+1+1+1+1,0,none⟩=some tv
 box:W.cell? ⟨w.heap.size+1+1+1+1+1+1,0,none⟩=some (.slice (some ⟨w.heap.size+1+1+1+1+1,0,none⟩) 1 1)
 bel:Below w.heap.size w W
theorem CInv.below {w:World} {l D:Nat} {rec:Loop} {ks nn T:Nat→Nat} {n N:Nat} {tv:Value} {k:Nat} {W W':World} (H:CInv w l D rec ks nn T n N tv k W) (hb:Below W.heap.size W W'):CInv w l D rec ks nn T n N tv k W' :=
 ⟨(hb.block l (Array.getElem?_eq_some_iff.1 H.lp).1).trans H.lp,(hb.block D (Array.getElem?_eq_some_iff.1 H.dfr).1).trans H.dfr,H.lock.still hb,H.txt.still hb,H.own.below hb,H.out.still hb,H.num.still hb,(hb.cell (block_lt_of_cell H.lst)).trans H.lst,(hb.cell (block_lt_of_cell H.box)).trans H.box,below_next H.bel hb⟩
theorem cross_start (w:World) (L:Nat→Nat) (tv:Value) (N:Nat) (hN:N<1000000) (T:Nat→Nat) (w2:World)
 (hw:w2=((((((w.alloc (.cells (ints .u8 32 L).toArray 97)).alloc (.cells #[tv] 22)).alloc (.cells (zb N) 5)).alloc (.cells #[.slice (some ⟨w.heap.size+1+1,0,none⟩) 0 N] 22)).alloc (.cells #[.int .u32 2] 126)).alloc (.cells #[tv] 22)).alloc (.cells #[.slice (some ⟨w.heap.size+1+1+1+1+1,0,none⟩) 1 1] 74)) :
 w2.heap.size=w.heap.size+7∧Below w.heap.size w w2∧RW w2 w.heap.size 0 (ints .u8 32 L)∧RW w2 (w.heap.size+1) 0 [tv]∧Own w.heap.size w2 (.slice (some ⟨w.heap.size+1+1,0,none⟩) 0 N) 0 T∧RW w2 (w.heap.size+1+1+1) 0 [.slice (some ⟨w.heap.size+1+1,0,none⟩) 0 N]∧RW w2 (w.heap.size+1+1+1+1) 0 [.int .u32 2] ∧
  w2.cell? ⟨w.heap.size+1+1+1+1+1,0,none⟩=some tv∧w2.cell? ⟨w.heap.size+1+1+1+1+1+1,0,none⟩=some (.slice (some ⟨w.heap.size+1+1+1+1+1,0,none⟩) 1 1):=by
 have al:∀ (W:World) (o:Obj),Below W.heap.size W (W.alloc o):=fun W o=>(Below.refl _ _).alloc (Nat.le_refl _) _
 obtain ⟨a1,e1⟩:∃ a,a=w.alloc (.cells (ints .u8 32 L).toArray 97):=⟨_,rfl⟩
 obtain ⟨a2,e2⟩:∃ a,a=a1.alloc (.cells #[tv] 22):=⟨_,rfl⟩
 obtain ⟨a3,e3⟩:∃ a,a=a2.alloc (.cells (zb N) 5):=⟨_,rfl⟩
 obtain ⟨a4,e4⟩:∃ a,a=a3.alloc (.cells #[.slice (some ⟨w.heap.size+1+1,0,none⟩) 0 N] 22):=⟨_,rfl⟩
 obtain ⟨a5,e5⟩:∃ a,a=a4.alloc (.cells #[.int .u32 2] 126):=⟨_,rfl⟩
 obtain ⟨a6,e6⟩:∃ a,a=a5.alloc (.cells #[tv] 22):=⟨_,rfl⟩
 rw [←e1,←e2,←e3,←e4,←e5,←e6] at hw
 have s1:a1.heap.size=w.heap.size+1:=by rw [e1];simp
 have s2:a2.heap.size=w.heap.size+1+1:=by rw [e2,World.size_alloc,s1]
 have s3:a3.heap.size=w.heap.size+1+1+1:=by rw [e3,World.size_alloc,s2]
 have s4:a4.heap.size=w.heap.size+1+1+1+1:=by rw [e4,World.size_alloc,s3]
 have s5:a5.heap.size=w.heap.size+1+1+1+1+1:=by rw [e5,World.size_alloc,s4]
 have s6:a6.heap.size=w.heap.size+1+1+1+1+1+1:=by rw [e6,World.size_alloc,s5]
 have t6:Below a6.heap.size a6 w2:=by rw [hw];exact al _ _
 have t5:Below a5.heap.size a5 w2:=below_next (by rw [e6];exact al _ _) t6
 have t4:Below a4.heap.size a4 w2:=below_next (by rw [e5];exact al _ _) t5
 have t3:Below a3.heap.size a3 w2:=below_next (by rw [e4];exact al _ _) t4
 have t2:Below a2.heap.size a2 w2:=below_next (by rw [e3];exact al _ _) t3
 have t1:Below a1.heap.size a1 w2:=below_next (by rw [e2];exact al _ _) t2
 have t0:Below w.heap.size w w2:=below_next (by rw [e1];exact al _ _) t1
 have r0:RW a1 w.heap.size 0 (ints .u8 32 L):=by rw [e1];exact RW.fresh _ _ _
 have r1:RW a2 a1.heap.size 0 [tv]:=by rw [e2];exact RW.fresh _ [tv] _
 have r2:Own w.heap.size a3 (.slice (some ⟨a2.heap.size,0,none⟩) 0 N) 0 T:=by rw [e3];exact Own.madeN _ _ _ _ (by omega) hN
 have r3:RW a4 a3.heap.size 0 [.slice (some ⟨w.heap.size+1+1,0,none⟩) 0 N]:=by rw [e4];exact RW.fresh _ [_] _
 have r4:RW a5 a4.heap.size 0 [.int .u32 2]:=by rw [e5];exact RW.fresh _ [_] _
 have r5:RW a6 a5.heap.size 0 [tv]:=by rw [e6];exact RW.fresh _ [tv] _
 have r6:RW w2 a6.heap.size 0 [.slice (some ⟨w.heap.size+1+1+1+1+1,0,none⟩) 1 1]:=by rw [hw];exact RW.fresh _ [_] _
 rw [s1] at r1
 rw [s2] at r2
 rw [s3] at r3
 rw [s4] at r4
 rw [s5] at r5
 rw [s6] at r6
 refine ⟨by rw [hw,World.size_alloc,s6],t0,r0.still t1,r1.still t2,r2.below t3,r3.still t4,r4.still t5,(r5.still t6).range 0 _ rfl,r6.range 0 _ rfl⟩
theorem RW.one {w:World} {g:Nat} {v:Value} (r:RW w g 0 [v]):w.cell? ⟨g,0,none⟩=some v∧w.frozen? ⟨g,0,none⟩=false:=⟨r.range 0 v rfl,(r.there 0 (Nat.zero_lt_succ _)).2⟩
theorem cross_bytes {ks nn X:Nat→Nat} (hks:∀ j,ks j<256) (hnn:∀ j,nn j<256) (hX:∀ j,X j<256) (n k j:Nat) (hj:j<16) (hl:16*k+j<n):byV (blkT n X k ^^^ toV (ctB ks nn (2+k))) j=trN ks nn X (16*k+j):=by
 unfold blkT
 rw [←toV_xor]
 rw [byV_toV (fun i hi=>xor_byte (padN_lt hX _) (ctB_B hks hnn _ i hi)) j hj]
 unfold trN gpadN
 dsimp only
 rw [if_pos hl,show (16*k+j) / 16=k by omega,show (16*k+j)%16=j by omega]
theorem but_of_below {bad:Nat→Prop} {W W':World} (h:Below W.heap.size W W'):But bad W W':=⟨h.os,h.tape,h.output,h.size,fun k hk _=>h.block k hk⟩
set_option maxRecDepth 100000 in
set_option maxHeartbeats 4000000 in
theorem crossed_in (d:Nat) (ks nn X:Nat→Nat) (n:Nat) (hn:n<200000) (hks:∀ j,ks j<256) (hnn:∀ j,nn j<256) (hX:∀ j,X j<256) (v:Value) (w:World) (hv:BytesIn w v n X) :
 CallsIn Fence.wide d Tryz.prog 67 #[lkV ks nn,v] w fun e w'=>∃ g,e = .returned (.slice (some ⟨g,0,none⟩) n (n+16))∧Own w.heap.size w' (.slice (some ⟨g,0,none⟩) n (n+16)) n (trN ks nn X)∧Below w.heap.size w w':=by
 obtain ⟨xv,cv,rfl,-,-,-⟩:=hv.src
 have hmk:=fun W=>make_roomN W (n+16) ((n+16:Nat):Int) rfl (by omega)
 have cb:=fun xo n c W=>blocks_any xo n c W
 have e1:IntKind.i64.wrap ((n:Int)+16)=((n+16:Nat):Int):=by simp only [IntKind.wrap_i64];omega
 have e2:(n:Int)+16=((n+16:Nat):Int):=by omega
 generalize hN:n+16=N at *
 refine callsIn_of_wp_marks Tryz.func67 rfl trivial ?_ rfl
 simp only [Tryz.ntmps67,List.size_toArray,List.length_cons,List.length_nil,Nat.reduceAdd,Nat.reduceSub,Array.replicate_succ,Array.replicate_zero,List.push_toArray,List.append_toArray,List.nil_append,List.cons_append]
 unfold lkV
 gi_wp2_with (first
  | rw [hmk]
  | (refine ⟨trivial,(fun h=>by cases h),?_⟩;gi_at_call 90;refine (callsIn_wide.2 (cb _ _ _ _)).mono ?_;clear cb;rintro e w2 ⟨rfl,hw2⟩))
 obtain ⟨T,hT⟩:∃ T,T=trN ks nn X:=⟨_,rfl⟩
 have hN2:N<1000000:=by omega
 obtain ⟨hs2,hb2,q0,q1,q2,q3,q4,q5,q6⟩:=cross_start w (lkN ks nn) (.slice xv n cv) N hN2 T w2 hw2
 rw [←hw2]
 have HN:=Hid.mk' hN
 clear hw2 hmk e1 e2 hN2 hN
 refine wpIn_range_with rfl (fun _=>trivial) (fun h=>by cases h) rfl (enters_of Tryz.func117 (by kernel_rfl) rfl) (fun q0' e1 e2 e4 e5 e6 e7 => ?_)
 obtain ⟨W1,hW1⟩:∃ W1,W1=(w2.alloc (.deferred (some []))).alloc (.loop q0'):=⟨_,rfl⟩
 obtain ⟨l,hl⟩:∃ l,l=w2.heap.size+1:=⟨_,rfl⟩
 have hbl1:Below w2.heap.size w2 W1:=by rw [hW1];exact ((Below.refl _ _).alloc (Nat.le_refl _) _).alloc (by simp) _
 have hl1:W1.heap[l]? = some (.loop q0'):=by
  rw [hW1,hl];have:=World.alloc_heap_new (w2.alloc (.deferred (some []))) (.loop q0');rwa [World.size_alloc] at this
 have hD1:W1.heap[w2.heap.size]? = some (.deferred (some [])):=by
  rw [hW1];exact (Below.heap_alloc _ _ _ (by simp)).trans (World.alloc_heap_new w2 _)
 rw [←hW1,←hl]
 obtain ⟨D,hD⟩:∃ D,D=w2.heap.size:=⟨_,rfl⟩
 have hDl:D<l:=by omega
 rw [←hD] at hD1 ⊢
 have hDc:D=w.heap.size+7:=by omega
 clear hW1 hl
 have hI0:CInv w l D q0' ks nn T n N (.slice xv n cv) 0 W1:=⟨hl1,hD1,q0.still hbl1,q1.still hbl1,by rw [Nat.mul_zero,Nat.min_zero];exact q2.below hbl1,by rw [Nat.mul_zero,Nat.min_zero];exact q3.still hbl1,q4.still hbl1,(hbl1.cell (block_lt_of_cell q5)).trans q5,(hbl1.cell (block_lt_of_cell q6)).trans q6,hb2.trans (hbl1.mono hb2.size)⟩
 have hY:∀ k V,16*k<n→CInv w l D q0' ks nn T n N (.slice xv n cv) k V→YieldAt Fence.wide (d - 1 - 1) Tryz.prog l #[blV (blkT n X k)] V fun e W'=>e = .returned (.bool true)∧CInv w l D q0' ks nn T n N (.slice xv n cv) (k+1) W':=by
  intro k V hk hI
  obtain ⟨A,hA⟩:∃ A,A=16*k:=⟨_,rfl⟩
  obtain ⟨m,hm,hmc⟩:∃ m,(m=16∧A+16≤n∨A+m=n∧m<16)∧m≤16:=by
   by_cases h:A+16≤n
   · exact ⟨16,.inl ⟨rfl,h⟩,Nat.le_refl _⟩
   · exact ⟨n - A,.inr ⟨by omega,by omega⟩,by omega⟩
  have hA1:min n (16*k)=A:=by omega
  have hA2:min n (16*(k+1))=A+m:=by omega
  refine yield_round hI.lp (by rw [e5];rfl) ?_
  rw [e4,e5,e6,e7]
  have ca:=fun W=>blockAt_any ks nn (2+k) hks hnn W
  have cp:=fun W=>gplus_any (blkT n X k) (toV (ctB ks nn (2+k))) W
  have cy:=fun W=>gbytes_any (blkT n X k ^^^ toV (ctB ks nn (2+k))) W
  have hby:∀ j,j<m→byV (blkT n X k ^^^ toV (ctB ks nn (2+k))) j=T (A+j):=fun j hj=>by rw [hT,hA];exact cross_bytes hks hnn hX n k j (by omega) (by omega)
  unfold blV at *
  generalize toV (ctB ks nn (2+k))=c at *
  generalize blkT n X k=b at *
  generalize (b ^^^ c)=bc at *
  obtain ⟨x0,hx0⟩:∃ x,x=wd b 0:=⟨_,rfl⟩
  obtain ⟨x1,hx1⟩:∃ x,x=wd b 64:=⟨_,rfl⟩
  rw [←hx0,←hx1] at cp ⊢
  generalize wd c 0=c0 at *
  generalize wd c 64=c1 at *
  generalize wd bc 0=p0 at *
  generalize wd bc 64=p1 at *
  obtain ⟨V1,hV1⟩:∃ V1,V1=V.alloc (.cells #[.int .u64 x0,.int .u64 x1] 101):=⟨_,rfl⟩
  have rB:RW V1 V.heap.size 0 (b2 x0 x1):=by rw [hV1];exact RW.fresh _ _ _
  have bV1:Below V.heap.size V V1:=by rw [hV1];exact (Below.refl _ _).alloc (Nat.le_refl _) _
  have hI1:=hI.below bV1
  obtain ⟨V2,hV2⟩:∃ V2,V2=V1.putObj l (.loop { q0' with state := .busy }):=⟨_,rfl⟩
  have hbV:But (fun k=>k=l) V1 V2:=by rw [hV2];exact but_put _ _ _
  have hlV:V2.heap[l]? = some (.loop { q0' with state := .busy }):=by rw [hV2];exact World.putObj_heap_same (Array.getElem?_eq_some_iff.1 hI1.lp).1
  have hDV:V2.heap[D]? = some (.deferred (some [])):=(hbV.block _ (Array.getElem?_eq_some_iff.1 hI1.dfr).1 (by omega)).trans hI1.dfr
  have hlb:l<V.heap.size:=(Array.getElem?_eq_some_iff.1 hI.lp).1
  have hbeg:(Instr.beginRound l).run Tryz.prog V1 = .ok () V2:=by rw [hV2];exact run_beginRound hI1.lp e1
  replace rB:=rB.but hbV (by omega)
  have rL:=hI1.lock.but hbV (by omega)
  have rX:=hI1.txt.but hbV (by omega)
  have rW:=hI1.own.but hbV (by omega)
  have rO:=hI1.out.but hbV (by omega)
  have rN:=hI1.num.but hbV (by omega)
  have rP:=hbV.cell hI1.lst (by omega)
  have rQ:=hbV.cell hI1.box (by omega)
  have hBV:Below w.heap.size w V2:=hI1.bel.trans (hbV.below hI1.bel.size (by omega))
  rw [hA1] at rW rO
  have hAm:A+m≤N:=by have:=HN.out;omega
  have hfin:∀ V6:World,But (fun q=>q=w.heap.size+1+1∨q=w.heap.size+1+1+1∨q=w.heap.size+1+1+1+1) V2 V6→Own w.heap.size V6 (.slice (some ⟨w.heap.size+1+1,0,none⟩) (A+m) N) (A+m) T→RW V6 (w.heap.size+1+1+1) 0 [.slice (some ⟨w.heap.size+1+1,0,none⟩) (A+m) N]→RW V6 (w.heap.size+1+1+1+1) 0 [.int .u32 ((2+(k+1):Nat):Int)] →
   ∃ v W',(Instr.endRound l none).run Tryz.prog V6 = .ok v W'∧(Ending.returned v = .returned (.bool true)∧CInv w l D q0' ks nn T n N (.slice xv n cv) (k+1) W'):=by
   intro V6 hb3 o6 r6 n6
   have hl3:V6.heap[l]? = some (.loop { q0' with state := .busy }):=(hb3.block l (Array.getElem?_eq_some_iff.1 hlV).1 (by omega)).trans hlV
   have hrec:({ { q0' with state := .busy } with state := .ready,pending:=none }:Loop)=q0':=loop_back q0' e1 e2
   have hb5:=but_put V6 l (.loop q0')
   refine ⟨_,_,run_endRound none hl3,rfl,?_⟩
   simp only [Option.isNone_none,if_true,hrec]
   have hD3:=(hb3.block D (Array.getElem?_eq_some_iff.1 hDV).1 (by omega)).trans hDV
   exact ⟨World.putObj_heap_same (Array.getElem?_eq_some_iff.1 hl3).1,(hb5.block D (Array.getElem?_eq_some_iff.1 hD3).1 (by omega)).trans hD3,(rL.but hb3 (by omega)).but hb5 (by omega),(rX.but hb3 (by omega)).but hb5 (by omega),by rw [hA2];exact o6.but hb5 (by omega),by rw [hA2];exact r6.but hb5 (by omega),n6.but hb5 (by omega),hb5.cell (hb3.cell rP (by omega)) (by omega),hb5.cell (hb3.cell rQ (by omega)) (by omega),(hBV.trans (hb3.below hBV.size (by omega))).trans (hb5.below (Nat.le_trans hBV.size hb3.size) (by omega))⟩
  have hk32:IntKind.u32.wrap (((2+k:Nat):Int)+1)=((2+(k+1):Nat):Int):=by
   show (((2+k:Nat):Int)+1)%4294967296=_
   omega
  have HV1:=Hid.mk' hV1
  obtain ⟨u0,-⟩:=rX.one
  obtain ⟨u1,-⟩:=rO.one
  have hiL:=infoL (lkN ks nn)
  have hlO:w.heap.size+1+1+1<V.heap.size:=by have:=hI.out.lt;omega
  clear hV1 hV2 hx0 hx1 e1 e2 e4 e5 e6 e7 hI0 hbV hBV hDV hlV hI1 hI bV1 hD hDc hDl rX rP rQ hT hA2 hA1 q0 q1 q2 q3 q4 q5 q6 hA hk hs2
  obtain ⟨z,hz⟩:∃ z,z=2+k:=⟨_,rfl⟩
  obtain ⟨z1,hz1⟩:∃ z,z=2+(k+1):=⟨_,rfl⟩
  rw [←hz] at hk32 rN ca
  rw [←hz1] at hk32 hfin
  clear hz hz1
  rcases hm with ⟨rfl,hm⟩ | ⟨hm,hm16⟩
  · have v1:IntKind.i64.wrap ((n:Int) - (A:Int))=(n:Int) - (A:Int):=by simp only [IntKind.wrap_i64];omega
    have v2:(16:Int)≤(n:Int) - (A:Int):=by omega
    gi_wp2
    rw [←HV1.out]
    refine ⟨V2,hbeg,?_⟩
    gi_wp2
    have hdr:Below V2.heap.size V2 V2.drew:=(Below.refl _ _).drew
    have bdr:But (fun q=>q=w.heap.size+1+1) V2 V2.drew:=⟨rfl,rfl,rfl,Nat.le_refl _,fun _ _ _=>rfl⟩
    replace rB:=rB.still hdr
    replace rL:=rL.still hdr
    replace rO:=rO.still hdr
    replace rN:=rN.still hdr
    replace rW:=rW.below hdr
    refine wpIn_last 10 (S:=fun u=>But (fun q=>q=w.heap.size+1+1) V2.drew u) (by kernel_rfl) (by kernel_rfl) (by kernel_rfl) (by kernel_rfl) (by kernel_rfl) (But.refl _ _) (fun hS => ?_)
    generalize V2.drew=V3 at *
    refine tlS 1 (fun u hu=>rB.but hu (by omega)) hS 101 Tryz.underlying101 info2 ?_
    (try simp only [pS])
    refine tlS 2 (fun u hu=>rL.but hu (by omega)) hS 97 Tryz.underlying97 hiL ?_
    (try simp only [pS])
    refine tc 0 hS (fun u hu=>(rO.but hu (by omega)).one.1) ?_
    (try simp only [pS])
    refine tc 3 hS (fun u hu=>(rN.but hu (by omega)).one.1) ?_
    (try simp only [pS])
    refine tg 7 hS ?_
    (try simp only [pS])
    refine cl 4 (ca _) ?_
    rintro e V4 ⟨rfl,hb4⟩
    refine ⟨_,rfl,but_of_below hb4,?_⟩
    (try simp only [pS])
    refine cl 5 (cp _) ?_
    rintro e V5 ⟨rfl,hb5⟩
    replace hb5:=below_next hb4 hb5
    refine ⟨_,rfl,but_of_below hb5,?_⟩
    (try simp only [pS])
    refine cl 6 (cy _) ?_
    rintro e V6 ⟨gy,rfl,hgy,ry,hb6⟩
    have hg6:V3.heap.size≤gy:=Nat.le_trans hb5.size hgy
    replace hb6:=below_next hb5 hb6
    refine ⟨_,rfl,but_of_below hb6,?_⟩
    (try simp only [pS])
    refine tg 8 (but_of_below hb6) ?_
    (try simp only [pS])
    refine ao 9 23 31 w.heap.size (w.heap.size+1+1) A N T (rW.below hb6) gy 16 16 (fun j=>T (A+j)) (fun j hj=>by
     have:=(ry j (by omega)).1
     rw [Nat.zero_add,hby j hj] at this
     exact this) hAm ?_
    intro V7 own7 bt7
    have ot7:But (fun q=>q=w.heap.size+1+1) V3 V7:=(but_of_below hb6).trans bt7
    refine ⟨ot7,?_⟩
    (try simp only [pS])
    replace own7:=own7.congr (Y:=T) (fun j _=>by
     unfold cat
     by_cases h:j<A
     · rw [if_pos h]
     · rw [if_neg h]
       dsimp only
       rw [show A+(j - A)=j by omega])
    replace rO:=rO.but ot7 (by omega)
    replace rN:=rN.but ot7 (by omega)
    obtain ⟨y0,y1⟩:=rO.one
    refine wpAnyH_done (by kernel_rfl) ?_ _
    refine lastRun 10 (w':=V7.setCell ⟨w.heap.size+1+1+1,0,none⟩ (.slice (some ⟨w.heap.size+1+1,0,none⟩) (A+16) N)) ?_
    refine OnlyN.normal ?_
    dsimp only [Act.put]
    have r8:=rO.stored [.slice (some ⟨w.heap.size+1+1,0,none⟩) (A+16) N] rfl
    have bt8:But (fun q=>q=w.heap.size+1+1+1) V7 (V7.setCells (w.heap.size+1+1+1) 0 [.slice (some ⟨w.heap.size+1+1,0,none⟩) (A+16) N]):=(Out.setCells (o:=0) (n:=1) _ _ (Nat.le_refl _) (Nat.le_refl _)).but
    have n8:=rN.but bt8 (by omega)
    have own8:=own7.but bt8 (by omega)
    obtain ⟨V8,hV8⟩:∃ V8,V8=V7.setCells (w.heap.size+1+1+1) 0 [.slice (some ⟨w.heap.size+1+1,0,none⟩) (A+16) N]:=⟨_,rfl⟩
    rw [←hV8] at r8 bt8 n8 own8
    rw [show V7.setCell ⟨w.heap.size+1+1+1,0,none⟩ (.slice (some ⟨w.heap.size+1+1,0,none⟩) (A+16) N)=V8 from hV8.symm]
    have bt9:But (fun q=>q=w.heap.size+1+1+1+1) V8 (V8.setCells (w.heap.size+1+1+1+1) 0 [.int .u32 (z1:Int)]):=(Out.setCells (o:=0) (n:=1) _ _ (Nat.le_refl _) (Nat.le_refl _)).but
    have n9:=n8.stored [.int .u32 (z1:Int)] rfl
    obtain ⟨y2,y3⟩:=n8.one
    have hf:=hfin (V8.setCells (w.heap.size+1+1+1+1) 0 [.int .u32 (z1:Int)]) ((((bdr.trans ot7).mono (fun q h => .inl h)).trans (bt8.mono (fun q h => .inr (.inl h)))).trans (bt9.mono (fun q h => .inr (.inr h)))) (own8.but bt9 (by omega)) (r8.but bt9 (by omega)) n9
    clear hfin hV8 bt9 n9 own8 r8 n8 bt8 bt7 ot7 own7 rO rN y0 y1 ca cp cy hby rB rL rW hb4 hb5 hb6 ry
    gi_wp2
    exact hf
  · have v1:IntKind.i64.wrap ((n:Int) - (A:Int))=(m:Int):=by simp only [IntKind.wrap_i64];omega
    have v3:(n:Int) - (A:Int)=(m:Int):=by omega
    have v2:¬(16:Int)≤(m:Int):=by omega
    have v4:(m:Int)<16:=by omega
    have v5:(0:Int)≤(m:Int):=by omega
    have v6:(m:Int)≤16:=by omega
    clear hm hm16
    gi_wp2
    rw [←HV1.out]
    refine ⟨V2,hbeg,?_⟩
    gi_wp2
    have hdr:Below V2.heap.size V2 V2.drew:=(Below.refl _ _).drew
    have bdr:But (fun q=>q=w.heap.size+1+1) V2 V2.drew:=⟨rfl,rfl,rfl,Nat.le_refl _,fun _ _ _=>rfl⟩
    replace rB:=rB.still hdr
    replace rL:=rL.still hdr
    replace rO:=rO.still hdr
    replace rN:=rN.still hdr
    replace rW:=rW.below hdr
    refine wpIn_last 10 (S:=fun u=>But (fun q=>q=w.heap.size+1+1) V2.drew u) (by kernel_rfl) (by kernel_rfl) (by kernel_rfl) (by kernel_rfl) (by kernel_rfl) (But.refl _ _) (fun hS => ?_)
    generalize V2.drew=V3 at *
    refine tlS 1 (fun u hu=>rB.but hu (by omega)) hS 101 Tryz.underlying101 info2 ?_
    (try simp only [pS])
    refine tlS 2 (fun u hu=>rL.but hu (by omega)) hS 97 Tryz.underlying97 hiL ?_
    (try simp only [pS])
    refine tc 0 hS (fun u hu=>(rO.but hu (by omega)).one.1) ?_
    (try simp only [pS])
    refine tc 3 hS (fun u hu=>(rN.but hu (by omega)).one.1) ?_
    (try simp only [pS])
    refine tg 7 hS ?_
    (try simp only [pS])
    refine cl 4 (ca _) ?_
    rintro e V4 ⟨rfl,hb4⟩
    refine ⟨_,rfl,but_of_below hb4,?_⟩
    (try simp only [pS])
    refine cl 5 (cp _) ?_
    rintro e V5 ⟨rfl,hb5⟩
    replace hb5:=below_next hb4 hb5
    refine ⟨_,rfl,but_of_below hb5,?_⟩
    (try simp only [pS])
    refine cl 6 (cy _) ?_
    rintro e V6 ⟨gy,rfl,hgy,ry,hb6⟩
    have hg6:V3.heap.size≤gy:=Nat.le_trans hb5.size hgy
    replace hb6:=below_next hb5 hb6
    refine ⟨_,rfl,but_of_below hb6,?_⟩
    (try simp only [pS])
    refine tg 8 (but_of_below hb6) ?_
    (try simp only [pS])
    refine ao 9 23 31 w.heap.size (w.heap.size+1+1) A N T (rW.below hb6) gy m 16 (fun j=>T (A+j)) (fun j hj=>by
     have:=(ry j (by omega)).1
     rw [Nat.zero_add,hby j hj] at this
     exact this) hAm ?_
    intro V7 own7 bt7
    have ot7:But (fun q=>q=w.heap.size+1+1) V3 V7:=(but_of_below hb6).trans bt7
    refine ⟨ot7,?_⟩
    (try simp only [pS])
    replace own7:=own7.congr (Y:=T) (fun j _=>by
     unfold cat
     by_cases h:j<A
     · rw [if_pos h]
     · rw [if_neg h]
       dsimp only
       rw [show A+(j - A)=j by omega])
    replace rO:=rO.but ot7 (by omega)
    replace rN:=rN.but ot7 (by omega)
    obtain ⟨y0,y1⟩:=rO.one
    refine wpAnyH_done (by kernel_rfl) ?_ _
    refine lastRun 10 (w':=V7.setCell ⟨w.heap.size+1+1+1,0,none⟩ (.slice (some ⟨w.heap.size+1+1,0,none⟩) (A+m) N)) ?_
    refine OnlyN.normal ?_
    dsimp only [Act.put]
    have r8:=rO.stored [.slice (some ⟨w.heap.size+1+1,0,none⟩) (A+m) N] rfl
    have bt8:But (fun q=>q=w.heap.size+1+1+1) V7 (V7.setCells (w.heap.size+1+1+1) 0 [.slice (some ⟨w.heap.size+1+1,0,none⟩) (A+m) N]):=(Out.setCells (o:=0) (n:=1) _ _ (Nat.le_refl _) (Nat.le_refl _)).but
    have n8:=rN.but bt8 (by omega)
    have own8:=own7.but bt8 (by omega)
    obtain ⟨V8,hV8⟩:∃ V8,V8=V7.setCells (w.heap.size+1+1+1) 0 [.slice (some ⟨w.heap.size+1+1,0,none⟩) (A+m) N]:=⟨_,rfl⟩
    rw [←hV8] at r8 bt8 n8 own8
    rw [show V7.setCell ⟨w.heap.size+1+1+1,0,none⟩ (.slice (some ⟨w.heap.size+1+1,0,none⟩) (A+m) N)=V8 from hV8.symm]
    have bt9:But (fun q=>q=w.heap.size+1+1+1+1) V8 (V8.setCells (w.heap.size+1+1+1+1) 0 [.int .u32 (z1:Int)]):=(Out.setCells (o:=0) (n:=1) _ _ (Nat.le_refl _) (Nat.le_refl _)).but
    have n9:=n8.stored [.int .u32 (z1:Int)] rfl
    obtain ⟨y2,y3⟩:=n8.one
    have hf:=hfin (V8.setCells (w.heap.size+1+1+1+1) 0 [.int .u32 (z1:Int)]) ((((bdr.trans ot7).mono (fun q h => .inl h)).trans (bt8.mono (fun q h => .inr (.inl h)))).trans (bt9.mono (fun q h => .inr (.inr h)))) (own8.but bt9 (by omega)) (r8.but bt9 (by omega)) n9
    clear hfin hV8 bt9 n9 own8 r8 n8 bt8 bt7 ot7 own7 rO rN y0 y1 ca cp cy hby rB rL rW hb4 hb5 hb6 ry
    gi_wp2
    exact hf
 have hmin:min n (16*nb n)=n:=by unfold nb;omega
 refine (giter_in (d - 1) l (w.heap.size+1+1+1+1+1+1) (w.heap.size+1+1+1+1+1) 1 (fun _=>n) (fun _=>X) (fun _=>hX) (fun _ => .slice xv n cv) (fun i k W=>CInv w l D q0' ks nn T n N (.slice xv n cv) (if i=0 then k else nb n) W) (fun i k W H=>H.box) (fun i k W H j hj=>by
  obtain rfl:j=0:=by omega
  exact H.lst) (fun i k W H j hj=>hv.keep H.bel) (fun _=>by omega) (by decide) (fun i k W W' H hb=>H.below hb) (fun i W H=>by
   rw [show (if i=0 then nb n else nb n)=nb n by split <;> rfl] at H
   rw [if_neg (by omega)]
   exact H) (fun i k V hi hk H=>by
    obtain rfl:i=0:=by omega
    rw [if_pos rfl] at H ⊢
    exact hY k V hk H) W1 hI0).mono ?_
 rintro e W2 ⟨⟨v,rfl⟩,hG⟩
 rw [if_neg (by decide)] at hG
 obtain ⟨V,hV⟩:∃ V,V=W2.putObj l (.loop { q0' with state := .exhausted }):=⟨_,rfl⟩
 have hbV:But (fun k=>k=l) W2 V:=by rw [hV];exact but_put _ _ _
 have hDV:V.heap[D]? = some (.deferred (some [])):=(hbV.block _ (Array.getElem?_eq_some_iff.1 hG.dfr).1 (by omega)).trans hG.dfr
 have hBV:Below w.heap.size w V:=hG.bel.trans (hbV.below hG.bel.size (by omega))
 have hout:=hG.out.but hbV (by omega)
 have hown:=hG.own.but hbV (by omega)
 rw [hmin] at hout hown
 refine ⟨none,V,?_,?_⟩
 · have h:=run_endLoop (P:=Tryz.prog) hG.lp (by rw [e1];simp)
   rw [←hV,e2] at h
   exact h
 have hD':D<V.heap.size:=(Array.getElem?_eq_some_iff.1 hDV).1
 obtain ⟨u0,-⟩:=hout.one
 have hb5:=but_put V D (.deferred none)
 have own5:=hown.but hb5 (by omega)
 have hB5:=hBV.trans (hb5.below hBV.size (by omega))
 clear hV hY hI0 e1 e2 e4 e5 e6 e7 hbl1 hl1 hD1 hG q0 q1 q2 q3 q4 q5 q6 hout hown hD hDc hs2
 gi_wp2
 refine ⟨by simp,.inl ⟨_,_,rfl,run_takeDeferred hDV,?_⟩⟩
 have hN:=HN.out
 subst hN
 rw [hT] at own5
 exact ⟨_,results_tmp rfl _ _ _,w.heap.size+1+1,rfl,own5,hB5⟩
theorem crossed_any (ks nn X:Nat→Nat) (n:Nat) (hn:n<200000) (hks:∀ j,ks j<256) (hnn:∀ j,nn j<256) (hX:∀ j,X j<256) (v:Value) (w:World) (hv:BytesIn w v n X) :
 Calls Tryz.prog 67 #[lkV ks nn,v] w fun e w'=>∃ g,e = .returned (.slice (some ⟨g,0,none⟩) n (n+16))∧Own w.heap.size w' (.slice (some ⟨g,0,none⟩) n (n+16)) n (trN ks nn X)∧Below w.heap.size w w' :=
 callsIn_wide.1 (crossed_in 9 ks nn X n hn hks hnn hX v w hv)
end Go.Proofs.YtcgkajlehdgpoaaGreatDoor
namespace Go.Proofs.YtcgkajlehdgpoaaGreatDoor
open Go.RowKit
theorem three_all {α:Type} {p:α→Prop} {a b c:α} (ha:p a) (hb:p b) (hc:p c) (i:Nat):p (three a b c i):=by
 unfold three
 split
 · exact ha
 · split
   · exact hb
   · exact hc
set_option maxRecDepth 100000 in
set_option maxHeartbeats 4000000 in
theorem gtag_any (ks nn M D:Nat→Nat) (ml dl:Nat) (hml:ml<200000) (hdl:dl<200000) (hks:∀ j,ks j<256) (hnn:∀ j,nn j<256) (hM:∀ j,M j<256) (hD:∀ j,D j<256) (m d:Value) (w:World) (hm:BytesIn w m ml M) (hd:BytesIn w d dl D) :
 Calls Tryz.prog 68 #[lkV ks nn,m,d] w fun e w'=>e = .returned (blV (toV (tgN ks nn ml M dl D)))∧Below w.heap.size w w':=by
 have cb1:=fun W h=>bitsOf_any m ml M hml W (hm.keep h)
 have cb2:=fun W h=>bitsOf_any d dl D hdl W (hd.keep h)
 have ch:=fun W=>blockBy_any ks (fun _=>0) hks (fun _=>by decide) (lkN ks nn) (lkN_key ks nn) W
 rw [←gzb_ints,show blkN (kyN ks) (fun _=>0)=h0N ks from rfl] at ch
 have cy:=fun W=>gbytes_any (lnV ml dl) W
 have cbk:=fun xo n c W=>blocks_any xo n c W
 have hXs:∀ i j,three M D (byV (lnV ml dl)) i j<256:=fun i=>three_all (p:=fun X:Nat→Nat=>∀ j,X j<256) hM hD (byV_lt _) i
 have hNs:∀ i,three ml dl 16 i<4611686018427387904:=three_all (p:=fun n=>n<4611686018427387904) (by omega) (by omega) (by decide)
 have cH:=fun pb lb U W h1 h2 h3=>hashed_any (toV (h0N ks)) pb lb 3 (three ml dl 16) (three M D (byV (lnV ml dl))) hXs U hNs (by decide) W h1 h2 h3
 have ca:=fun W=>blockAt_any ks nn 1 hks hnn W
 have cp:=fun W=>gplus_any (hsC (toV (h0N ks)) (three ml dl 16) (three M D (byV (lnV ml dl))) 3) (toV (ctB ks nn 1)) W
 rw [tag_block]
 unfold blV at *
 rw [(ln_words ml dl hml hdl).1,(ln_words ml dl hml hdl).2] at cy
 generalize hLb:byV (lnV ml dl)=Lb at *
 generalize wd (hsC (toV (h0N ks)) (three ml dl 16) (three M D Lb) 3 ^^^ toV (ctB ks nn 1)) 0=f0 at *
 generalize wd (hsC (toV (h0N ks)) (three ml dl 16) (three M D Lb) 3 ^^^ toV (ctB ks nn 1)) 64=f1 at *
 generalize wd (hsC (toV (h0N ks)) (three ml dl 16) (three M D Lb) 3) 0=s0 at *
 generalize wd (hsC (toV (h0N ks)) (three ml dl 16) (three M D Lb) 3) 64=s1 at *
 generalize wd (toV (ctB ks nn 1)) 0=c0 at *
 generalize wd (toV (ctB ks nn 1)) 64=c1 at *
 generalize wd (toV (h0N ks)) 0=k0 at *
 generalize wd (toV (h0N ks)) 64=k1 at *
 have h8m:8*ml<18446744073709551616:=by omega
 generalize 8*ml=m8 at *
 generalize 8*dl=d8 at *
 obtain ⟨xm,cm,rfl,-,-,-⟩:=hm.src
 obtain ⟨xd,cd,rfl,-,-,-⟩:=hd.src
 unfold lkV at *
 have hiL:=infoL (lkN ks nn)
 generalize lkN ks nn=L at *
 obtain ⟨V0,hV0⟩:∃ V,V=(w.alloc (.cells (ints .u8 32 L).toArray 97)).alloc (.cells #[.int .u64 0,.int .u64 0] 101):=⟨_,rfl⟩
 have b0:Below w.heap.size w V0:=by rw [hV0];exact ((Below.refl _ _).alloc (Nat.le_refl _) _).alloc (by simp) _
 have rL:RW V0 w.heap.size 0 (ints .u8 32 L):=by rw [hV0];exact (RW.fresh w _ _).still ((Below.refl _ _).alloc (Nat.le_refl _) _)
 have s0z:V0.heap.size=w.heap.size+1+1:=by rw [hV0];simp
 have rR:RW V0 (w.heap.size+1) 0 (b2 0 0):=by
  have:=RW.fresh (w.alloc (.cells (ints .u8 32 L).toArray 97)) (b2 0 0) 101
  rw [World.size_alloc] at this
  rw [hV0];exact this
 obtain ⟨V1,hV1⟩:∃ V,V=V0.alloc (.cells #[.int .u64 m8,.int .u64 d8] 101):=⟨_,rfl⟩
 have b01:Below V0.heap.size V0 V1:=by rw [hV1];exact (Below.refl _ _).alloc (Nat.le_refl _) _
 have rLen:RW V1 V0.heap.size 0 (b2 m8 d8):=by rw [hV1];exact RW.fresh V0 (b2 m8 d8) 101
 replace rL:=rL.still b01
 replace rR:=rR.still b01
 have b1:=below_next b0 b01
 have HV1:=Hid.mk' hV1
 have HV0:=Hid.mk' hV0
 have rLr:=rL.range
 clear hV0 hV1 s0z b01 hks hnn hM hD
 go_enter Tryz.func68,Tryz.ntmps68
 go_upto_region 3 with (first
  | (go_at_call 93;rw [←HV0.out];refine (cb1 V0 b0).mono ?_;clear cb1;rintro e w1 ⟨rfl,rfl⟩)
  | (go_at_call 93;refine (cb2 _ b0).mono ?_;clear cb2;rintro e w2 ⟨rfl,rfl⟩)
  | (rw [←HV1.out];refine wpList_load_mid rfl 97 _ rfl w.heap.size 0 rfl (ints .u8 32 L) _ rLr Tryz.underlying97 rfl hiL ?_)
  | (refine wpList_val (some 15) (.agg (zb 16)) rfl rfl (by kernel_rfl) ?_)
  | (go_at_call 94;refine (ch _).mono ?_;clear ch;rintro e w3 ⟨rfl,hb3⟩))
 replace rL:=rL.still hb3
 replace rR:=rR.still hb3
 replace rLen:=rLen.still hb3
 have b3:=below_next b1 hb3
 obtain ⟨V4,hV4⟩:∃ V,V=w3.alloc (.cells #[.int .u64 k0,.int .u64 k1] 101):=⟨_,rfl⟩
 have b34:Below w3.heap.size w3 V4:=by rw [hV4];exact (Below.refl _ _).alloc (Nat.le_refl _) _
 have rK:RW V4 w3.heap.size 0 (b2 k0 k1):=by rw [hV4];exact RW.fresh w3 (b2 k0 k1) 101
 rw [←hV4]
 replace rL:=rL.still b34
 replace rR:=rR.still b34
 replace rLen:=rLen.still b34
 have b4:=below_next b3 b34
 clear hV4 HV0 HV1 hb3 b3 b34 b1 b0 rLr
 have hdr:Below V4.heap.size V4 V4.drew:=(Below.refl _ _).drew
 replace rL:=rL.still hdr
 replace rR:=rR.still hdr
 replace rLen:=rLen.still hdr
 replace rK:=rK.still hdr
 replace b4:=below_next b4 hdr
 refine wp_last 11 (S:=fun u=>Below V4.drew.heap.size V4.drew u) (by kernel_rfl) (by kernel_rfl) (by kernel_rfl) (by kernel_rfl) (Below.refl _ _) (fun hS => ?_)
 generalize V4.drew=V5 at *
 refine tlS 0 (fun u hu=>rK.still hu) hS 101 Tryz.underlying101 info2 ?_
 (try simp only [pS])
 refine tg 1 hS ?_
 (try simp only [pS])
 refine tg 2 hS ?_
 (try simp only [pS])
 refine tlS 3 (fun u hu=>rLen.still hu) hS 101 Tryz.underlying101 info2 ?_
 (try simp only [pS])
 refine tlS 8 (fun u hu=>rL.still hu) hS 97 Tryz.underlying97 hiL ?_
 (try simp only [pS])
 refine cl 4 (cy _) ?_
 rintro e V6 ⟨gy,rfl,hgy,ry,hb6⟩
 refine ⟨_,rfl,hb6,?_⟩
 (try simp only [pS])
 have nb6:Below V6.heap.size V6 (V6.alloc (.cells #[.slice xm ml cm,.slice xd dl cd,.slice (some ⟨gy,0,none⟩) 16 16] 22)):=(Below.refl _ _).alloc (Nat.le_refl _) _
 have r7:=RW.fresh V6 [.slice xm ml cm,.slice xd dl cd,.slice (some ⟨gy,0,none⟩) 16 16] 22
 refine wo 5 (v := .slice (some ⟨V6.heap.size,0,none⟩) 3 3) (w':=V6.alloc (.cells #[.slice xm ml cm,.slice xd dl cd,.slice (some ⟨gy,0,none⟩) 16 16] 22)) (by kernel_rfl) (below_next hb6 nb6) ?_
 (try simp only [pS])
 replace ry:=ry.still nb6
 replace hb6:=below_next hb6 nb6
 generalize hV7:V6.alloc (.cells #[.slice xm ml cm,.slice xd dl cd,.slice (some ⟨gy,0,none⟩) 16 16] 22)=V7 at *
 clear hV7 nb6
 refine cl 6 (cbk (some ⟨V6.heap.size,0,none⟩) 3 3 V7) ?_
 rintro e V8 ⟨rfl,hV8⟩
 have nb8:Below V7.heap.size V7 V8:=by rw [hV8];exact (Below.refl _ _).alloc (Nat.le_refl _) _
 have r8:V8.cell? ⟨V7.heap.size,0,none⟩=some (.slice (some ⟨V6.heap.size,0,none⟩) 3 3):=by
  rw [hV8];exact (RW.fresh V7 [_] _).range 0 _ rfl
 replace r7:=r7.still nb8
 replace ry:=ry.still nb8
 replace hb6:=below_next hb6 nb8
 clear hV8 nb8
 refine ⟨_,rfl,hb6,?_⟩
 (try simp only [pS])
 have b8:=below_next b4 hb6
 have cH1:=cH V7.heap.size V6.heap.size (three (.slice xm ml cm) (.slice xd dl cd) (.slice (some ⟨gy,0,none⟩) 16 16)) V8 r8 (fun j hj=>by
  have hr:=r7.range j
  rw [Nat.zero_add] at hr
  rcases (show j=0∨j=1∨j=2 by omega) with rfl | rfl | rfl
  · exact hr _ rfl
  · exact hr _ rfl
  · exact hr _ rfl) (fun j hj=>by
  rcases (show j=0∨j=1∨j=2 by omega) with rfl | rfl | rfl
  · exact hm.keep b8
  · exact hd.keep b8
  · exact .inr ⟨gy,0,16,rfl,block_lt_of_cell (ry 0 (by decide)).1,Nat.le_refl _,fun j hj=>(ry j hj).1⟩)
 clear cH
 refine cl 7 cH1 ?_
 rintro e V9 ⟨rfl,hb9⟩
 replace hb6:=below_next hb6 hb9
 refine ⟨_,rfl,hb6,?_⟩
 (try simp only [pS])
 refine cl 9 (ca _) ?_
 rintro e V10 ⟨rfl,hb10⟩
 replace hb6:=below_next hb6 hb10
 refine ⟨_,rfl,hb6,?_⟩
 (try simp only [pS])
 refine cl 10 (cp _) ?_
 rintro e V11 ⟨rfl,hb11⟩
 replace hb6:=below_next hb6 hb11
 refine ⟨_,rfl,hb6,?_⟩
 (try simp only [pS])
 replace rR:=rR.still hb6
 have b11:=below_next b4 hb6
 refine wpAnyH_done (by kernel_rfl) ?_ _
 refine lastRow 11 101 6 27 (b2 f0 f1) rR rfl (info2a f0 f1) (one2 f0 f1) (fun r12 => ?_)
 refine NoPanic.normal ?_
 dsimp only [Act.put]
 clear cH1 ca cp cy cbk
 go_wp2
 refine bodyPost_ret (results_cell_mid Tryz.results68 _ _ (w.heap.size+1) 0 (b2 f0 f1) _ rfl r12.range Tryz.underlying101 rfl info2) rfl ⟨rfl,?_⟩
 exact below_setCells (Nat.le_succ _) _ _ _ b11
end Go.Proofs.YtcgkajlehdgpoaaGreatDoor
namespace Go.Proofs.YtcgkajlehdgpoaaGreatDoor
open Go.RowKit
theorem padN_16 (X:Nat→Nat):toV (gpadN 16 X)=toV X:=toV_S fun j hj=>by unfold gpadN;rw [if_pos hj]
end Go.Proofs.YtcgkajlehdgpoaaGreatDoor
namespace Go.Proofs.YtcgkajlehdgpoaaGreatDoor
open Go.RowKit
theorem own_down {base base':Nat} {w:World} {v:Value} {n:Nat} {X:Nat→Nat} (h:Own base w v n X) (hb:base'≤base):Own base' w v n X :=
 ⟨h.1,h.2.imp id fun ⟨g,cap,cur,e,h1,h2⟩=>⟨g,cap,cur,e,Nat.le_trans hb h1,h2⟩⟩
theorem lock_var (w:World) (L:Nat→Nat) (V:World) (hV:V=(w.alloc (.cells (zb 32) 97)).setCells w.heap.size 0 (ints .u8 32 L)):RW V w.heap.size 0 (ints .u8 32 L)∧Below w.heap.size w V:=by
 subst hV
 have h:=RowAt.zero w 32 97
 refine ⟨(h.toRW (by decide)).stored _ (by rw [ints_len,ints_len]),below_setCells (Nat.le_refl _) _ _ _ ((Below.refl _ _).alloc (Nat.le_refl _) _)⟩
theorem lock_there (w:World) (L:Nat→Nat):(w.alloc (.cells (zb 32) 97)).there w.heap.size 0 (ints .u8 32 L).toArray.size:=by
 rw [ints_size];exact (RowAt.zero w 32 97).there
theorem tgN_B {ks nn M D:Nat→Nat} (hks:∀ j,ks j<256) (hnn:∀ j,nn j<256) (ml dl:Nat):B16 (tgN ks nn ml M dl D):=fun j hj=>xor_byte (ctB_B hks hnn 1 j hj) (hsN_lt _ _ _ j)
set_option maxRecDepth 20000 in
set_option maxHeartbeats 4000000 in
theorem seal_good (v u m t:Value) (ml n:Nat) (ks nn M X:Nat→Nat) (hml:ml≤65536) (hn:n≤65536) (hks:∀ j,ks j<256) (hnn:∀ j,nn j<256) (hM:∀ j,M j<256) (hX:∀ j,X j<256) (w:World) (hv:BytesIn w v 16 ks) (hu:BytesIn w u 12 nn) (hm:BytesIn w m ml M) (ht:BytesIn w t n X) :
 Calls Tryz.prog 46 #[v,u,m,t] w fun e w'=>∃ s,e = .returned (.tuple #[s,.int .i64 0])∧Own w.heap.size w' s (n+16) (slN ks nn ml M n X)∧Below w.heap.size w w':=by
 have c1:=lockOf_good v u ks nn w hv hu
 have hT:=trN_lt (X:=X) hks hnn hX
 have c2:=fun W h=>crossed_any ks nn X n (by omega) hks hnn hX t W (ht.keep h)
 have c3:=fun d W h hd=>gtag_any ks nn M (trN ks nn X) ml n (by omega) (by omega) hks hnn hM hT m d W (hm.keep h) hd
 have c4:=fun W=>gbytes_any (toV (tgN ks nn ml M n (trN ks nn X))) W
 have hfit:=byV_toV (tgN_B (M:=M) (D:=trN ks nn X) hks hnn ml n)
 have hsl:slN ks nn ml M n X=cat n (trN ks nn X) (tgN ks nn ml M n (trN ks nn X)):=rfl
 rw [hsl]
 unfold blV at *
 generalize wd (toV (tgN ks nn ml M n (trN ks nn X))) 0=g0 at *
 generalize wd (toV (tgN ks nn ml M n (trN ks nn X))) 64=g1 at *
 generalize byV (toV (tgN ks nn ml M n (trN ks nn X)))=GB at *
 generalize tgN ks nn ml M n (trN ks nn X)=G at *
 generalize trN ks nn X=T at *
 unfold lkV at *
 have hz:=zeroL
 have hth:=fun W=>lock_there W (lkN ks nn)
 have hi1:=infoL (lkN ks nn)
 have hi2:=infoLA (lkN ks nn)
 have ho:=oneU 32 (lkN ks nn)
 generalize lkN ks nn=L at *
 obtain ⟨xv,cv,rfl,-,-,-⟩:=hv.src
 obtain ⟨xu,cu,rfl,-,-,-⟩:=hu.src
 obtain ⟨xm,cm,rfl,-,-,-⟩:=hm.src
 obtain ⟨xt,ct,rfl,-,-,-⟩:=ht.src
 have hml':¬(65536:Int)<(ml:Int):=by omega
 have hn':¬(65536:Int)<(n:Int):=by omega
 have hfit2:n+16≤140737488355328:=by omega
 clear hv hu hm ht hks hnn hM hX hT hsl
 go_enter Tryz.func46,Tryz.ntmps46
 go_wp2_with (first
  | (go_at_call 66;refine c1.mono ?_;clear c1;rintro e w1 ⟨rfl,b1⟩;(have hth1:=hth w1);(obtain ⟨V,hV⟩:∃ V,V=(w1.alloc (.cells (zb 32) 97)).setCells w1.heap.size 0 (ints .u8 32 L):=⟨_,rfl⟩);(obtain ⟨rL,bV⟩:=lock_var w1 L V hV);(have HV:=Hid.mk' hV);(replace b1:=below_next b1 bV);(have rLr:=rL.range);clear hth hV bV)
  | (with_reducible (refine id (?_:wpList _ _ _ _ _ _));refine wpList_store_mid rfl 97 _ _ rfl w1.heap.size 0 (ints .u8 32 L).toArray rfl rfl hth1 hi2 ho ?_;rw [List.toList_toArray,←HV.out];clear hth1 HV;(have c2':=c2 V b1);clear c2)
  | (refine wpList_load_mid rfl 97 _ rfl w1.heap.size 0 rfl (ints .u8 32 L) _ rLr Tryz.underlying97 rfl hi1 ?_)
  | (go_at_call 67;refine c2'.mono ?_;clear c2';rintro e w2 ⟨gh,rfl,own2,b2⟩;(replace rLr:=(rL.still b2).range);(replace rL:=rL.still b2);(replace own2:Own w.heap.size w2 _ n T:=own_down own2 b1.size);(replace b1:=below_next b1 b2);(have c3':=c3 _ w2 b1 own2.bytesOf);clear c3 b2)
  | (go_at_call 68;refine c3'.mono ?_;clear c3';rintro e w3 ⟨rfl,b3⟩;(replace own2:=own2.below b3);(replace b1:=below_next b1 b3);clear b3)
  | (go_at_call 69;refine (c4 _).mono ?_;clear c4;rintro e w4 ⟨gt,rfl,hgt,r4,b4⟩;(replace own2:=own2.below b4);(replace b1:=below_next b1 b4);(have src4:Src w4 (some ⟨gt,0,none⟩) 16 GB := .inr ⟨gt,0,rfl,fun j hj=>(r4 j hj).1⟩);(have hz4:=b1.size);clear b4)
  | (at_builtin;refine wpList_append_bytes rfl (.tmp 33) (.tmp 38) rfl w.heap.size _ n T rfl own2 _ 16 16 GB rfl src4 (fun h=>by cases h) hfit2 hz4 ?_;intro v5 w5 own5 grow5;(have b5:=Own.grown b1 grow5 own2 (Nat.le_refl _) hz4)))
 go_ret2
 exact ⟨v5,rfl,own5.congr (fun j hj=>by
  unfold cat
  by_cases h:j<n
  · rw [if_pos h,if_pos h]
  · rw [if_neg h,if_neg h];exact hfit _ (by omega)),b5⟩
end Go.Proofs.YtcgkajlehdgpoaaGreatDoor
namespace Go.Proofs.YtcgkajlehdgpoaaGreatDoor
open Go.RowKit
set_option maxRecDepth 20000 in
set_option maxHeartbeats 4000000 in
theorem open_long (v u m t:Value) (ml k:Nat) (ks nn M X:Nat→Nat) (hml:ml≤65536) (hk:k≤65536) (hks:∀ j,ks j<256) (hnn:∀ j,nn j<256) (hM:∀ j,M j<256) (hX:∀ j,X j<256) (w:World) (hv:BytesIn w v 16 ks) (hu:BytesIn w u 12 nn) (hm:BytesIn w m ml M) (ht:BytesIn w t (k+16) X) :
 Calls Tryz.prog 47 #[v,u,m,t] w fun e w'=>(S16 (tgN ks nn ml M k X) (fun j=>X (k+j))→∃ s,e = .returned (.tuple #[s,.int .i64 0])∧Own w.heap.size w' s k (trN ks nn X))∧(¬S16 (tgN ks nn ml M k X) (fun j=>X (k+j))→e = .returned (.tuple #[.slice none 0 0,.int .i64 32]))∧Below w.heap.size w w':=by
 obtain ⟨bb,ob,ct,rfl,hbb,hct,hcell⟩:=ht.resolve_left (fun ⟨_,_,h⟩=>by omega)
 have hd:BytesIn w (.slice (some ⟨bb,ob,none⟩) k ct) k X := .inr ⟨bb,ob,ct,rfl,hbb,by omega,fun j hj=>hcell j (by omega)⟩
 have hg:BytesIn w (.slice (some ⟨bb,ob+k,none⟩) 16 (ct - k)) 16 (fun j=>X (k+j)) := .inr ⟨bb,ob+k,ct - k,rfl,hbb,by omega,fun j hj=>by
  have:=hcell (k+j) (by omega)
  rwa [←Nat.add_assoc] at this⟩
 have c1:=lockOf_good v u ks nn w hv hu
 have c2:=fun W h=>gblockOf_any _ 16 _ (Nat.le_refl _) (fun j=>hX _) W (hg.keep h)
 rw [padN_16] at c2
 have c3:=fun W h=>gtag_any ks nn M X ml k (by omega) (by omega) hks hnn hM hX m _ W (hm.keep h) (hd.keep h)
 have c4:=fun W=>gsame_any (toV (tgN ks nn ml M k X)) (toV (fun j=>X (k+j))) W
 have c5:=fun W h=>crossed_any ks nn X k (by omega) hks hnn hX _ W (hd.keep h)
 have hsame:S16 (tgN ks nn ml M k X) (fun j=>X (k+j))↔toV (tgN ks nn ml M k X)=toV (fun j=>X (k+j)):=⟨toV_S,toV_inj (tgN_B hks hnn ml k) (fun j _=>hX _)⟩
 obtain ⟨T,hT⟩:∃ T,T=decide (toV (tgN ks nn ml M k X)=toV (fun j=>X (k+j))):=⟨_,rfl⟩
 rw [←hT] at c4
 have hTt:S16 (tgN ks nn ml M k X) (fun j=>X (k+j))↔T=true:=by rw [hsame,hT,decide_eq_true_iff]
 rw [hTt]
 clear hsame hT hTt
 unfold blV at *
 generalize wd (toV (tgN ks nn ml M k X)) 0=g0 at *
 generalize wd (toV (tgN ks nn ml M k X)) 64=g1 at *
 generalize wd (toV (fun j=>X (k+j))) 0=t0 at *
 generalize wd (toV (fun j=>X (k+j))) 64=t1 at *
 generalize trN ks nn X=Tr at *
 unfold lkV at *
 have hz:=zeroL
 have hth:=fun W=>lock_there W (lkN ks nn)
 have hi1:=infoL (lkN ks nn)
 have hi2:=infoLA (lkN ks nn)
 have ho:=oneU 32 (lkN ks nn)
 generalize lkN ks nn=L at *
 obtain ⟨xv,cv,rfl,-,-,-⟩:=hv.src
 obtain ⟨xu,cu,rfl,-,-,-⟩:=hu.src
 obtain ⟨xm,cm,rfl,-,-,-⟩:=hm.src
 obtain ⟨n,hn⟩:∃ n,n=k+16:=⟨_,rfl⟩
 rw [←hn]
 have ha':¬(65536:Int)<(ml:Int):=by omega
 have hb':¬(65552:Int)<(n:Int):=by omega
 have hb2':¬(n:Int)<16:=by omega
 have hc':(n:Int) - 16=(k:Int):=by omega
 have hd':IntKind.i64.wrap ((n:Int) - 16)=(k:Int):=by simp only [IntKind.wrap_i64];omega
 have i1:(0:Int)≤(k:Int)∧(k:Int)≤(n:Int):=by omega
 have i2:(k:Int)≤(ct:Int):=by omega
 have i3:n - k=16:=by omega
 have i5:(n:Int)≤(ct:Int):=by omega
 have i6:(n:Int) - (k:Int)=16:=by omega
 have i7:¬ct=k:=by omega
 have i8:IntKind.i64.wrap (k:Int)=(k:Int):=by simp only [IntKind.wrap_i64];omega
 clear hv hu hm ht hks hnn hM hX hd hg hcell hn hct
 go_enter Tryz.func47,Tryz.ntmps47
 go_upto_region 8 with (first
  | (go_at_call 66;refine c1.mono ?_;clear c1;rintro e w1 ⟨rfl,b1⟩;(have hth1:=hth w1);(obtain ⟨V,hV⟩:∃ V,V=(w1.alloc (.cells (zb 32) 97)).setCells w1.heap.size 0 (ints .u8 32 L):=⟨_,rfl⟩);(obtain ⟨rL,bV⟩:=lock_var w1 L V hV);(have HV:=Hid.mk' hV);(replace b1:=below_next b1 bV);clear hth hV bV)
  | (with_reducible (refine id (?_:wpList _ _ _ _ _ _));refine wpList_store_mid rfl 97 _ _ rfl w1.heap.size 0 (ints .u8 32 L).toArray rfl rfl hth1 hi2 ho ?_;rw [List.toList_toArray,←HV.out];clear hth1 HV))
 have hdr:Below V.heap.size V V.drew:=(Below.refl _ _).drew
 replace rL:=rL.still hdr
 replace b1:=below_next b1 hdr
 refine wp_last 13 (S:=fun u=>Below V.drew.heap.size V.drew u) (by kernel_rfl) (by kernel_rfl) (by kernel_rfl) (by kernel_rfl) (Below.refl _ _) (fun hS => ?_)
 generalize V.drew=V2 at *
 refine tg 0 hS ?_
 (try simp only [pS])
 refine tg 1 hS ?_
 (try simp only [pS])
 refine tg 2 hS ?_
 (try simp only [pS])
 refine tg 3 hS ?_
 (try simp only [pS])
 refine tg 4 hS ?_
 (try simp only [pS])
 refine tg 5 hS ?_
 (try simp only [pS])
 refine tg 6 hS ?_
 (try simp only [pS])
 refine tg 7 hS ?_
 (try simp only [pS])
 refine tg 8 hS ?_
 (try simp only [pS])
 refine tg 9 hS ?_
 (try simp only [pS])
 refine wpAnyH_ready (rs:=[10,11]) (by kernel_rfl) (by simp) (cR (c2 V2 b1) ?_ (gR (fun g=>pA g 0) (b2 0 0) 101 (fun u hu=>hu) ?_ AllReadyH.nil))
 · rintro e V3 ⟨rfl,hb3⟩
   refine ⟨_,rfl,hb3,?_⟩
   (try simp only [pS])
   refine wpAnyH_ready (rs:=[11]) (by kernel_rfl) (by simp) (gR (fun g=>pA g 0) (b2 0 0) 101 (fun u hu=>below_next hb3 hu) ?_ AllReadyH.nil)
   intro V4 g hg hb4 rG
   have hb3a:=hb3
   replace hb3:=below_next hb3 hb4
   (try simp only [pS])
   have hgl:V2.heap.size≤g:=Nat.le_trans (Nat.le_trans (Nat.le_refl _) hb3a.size) hg
   refine tg 12 hb3 ?_
   (try simp only [pS])
   refine wpAnyH_done (by kernel_rfl) ?_ _
   refine lastRow 13 101 13 44 (b2 t0 t1) rG rfl (info2a t0 t1) (one2 t0 t1) (fun rG' => ?_)
   refine NoPanic.normal ?_
   dsimp only [Act.put]
   have hwg:w1.heap.size≠g:=Nat.ne_of_lt (Nat.lt_of_lt_of_le rL.lt hgl)
   have rL5:=(rL.still hb3).far g 0 (b2 t0 t1) (.inl hwg)
   have b5:=below_setCells (Nat.le_trans b1.size hgl) (b2 t0 t1) 0 _ (below_next b1 hb3)
   generalize V4.setCells g 0 (b2 t0 t1)=V5 at *
   clear rG hb3 hS c2
   go_upto_region 9 with (fail)
   have hdr5:Below V5.heap.size V5 V5.drew:=(Below.refl _ _).drew
   replace rL5:=rL5.still hdr5
   replace rG':=rG'.still hdr5
   replace b5:=below_next b5 hdr5
   refine wp_region_noPanic ?_
   refine wp_region_held_drew (S:=fun u=>Below V5.drew.heap.size V5.drew u) (by kernel_rfl) (Below.refl _ _) (fun hS => ?_)
   generalize V5.drew=V6 at *
   refine tlS 0 (fun u hu=>rL5.still hu) hS 97 Tryz.underlying97 hi1 ?_
   (try simp only [pS])
   refine tg 1 hS ?_
   (try simp only [pS])
   refine tg 2 hS ?_
   (try simp only [pS])
   refine tlS 4 (fun u hu=>rG'.still hu) hS 101 Tryz.underlying101 info2 ?_
   (try simp only [pS])
   refine cl 3 (c3 V6 b5) ?_
   rintro e V7 ⟨rfl,hb7⟩
   refine ⟨_,rfl,hb7,?_⟩
   (try simp only [pS])
   refine cl 5 (c4 V7) ?_
   rintro e V8 ⟨rfl,hb8⟩
   replace hb7:=below_next hb7 hb8
   refine ⟨_,rfl,hb7,?_⟩
   (try simp only [pS])
   refine tg 6 hb7 ?_
   (try simp only [pS])
   refine wpAnyH_done (by kernel_rfl) ?_ _
   refine NoPanic.normal ?_
   have rL8:=rL5.still hb7
   have b8:=below_next b5 hb7
   have rLr:=rL8.range
   have c5':=c5 V8 b8
   clear c5 c3 c4 rL5 rG' hb7 hb8 hS b5
   cases T with
   | false =>
    go_wp2
    go_ret2
    exact ⟨(fun h=>Bool.noConfusion h),fun _=>rfl,b8⟩
   | true =>
    go_wp2_with (first
     | (refine wpList_load_mid rfl 97 _ rfl w1.heap.size 0 rfl (ints .u8 32 L) _ rLr Tryz.underlying97 rfl hi1 ?_)
     | (go_at_call 67;refine c5'.mono ?_;clear c5';rintro e w9 ⟨gh,rfl,own9,b9⟩))
    go_ret2
    exact ⟨⟨_,rfl,own_down own9 b8.size⟩,below_next b8 b9⟩
 · intro V3 g hg hb3 rG
   (try simp only [pS])
   refine cl 10 (c2 V3 (below_next b1 hb3)) ?_
   rintro e V4 ⟨rfl,hb4⟩
   replace rG:=rG.still hb4
   replace hb3:=below_next hb3 hb4
   refine ⟨_,rfl,hb3,?_⟩
   (try simp only [pS])
   have hgl:V2.heap.size≤g:=hg
   refine tg 12 hb3 ?_
   (try simp only [pS])
   refine wpAnyH_done (by kernel_rfl) ?_ _
   refine lastRow 13 101 13 44 (b2 t0 t1) rG rfl (info2a t0 t1) (one2 t0 t1) (fun rG' => ?_)
   refine NoPanic.normal ?_
   dsimp only [Act.put]
   have hwg:w1.heap.size≠g:=Nat.ne_of_lt (Nat.lt_of_lt_of_le rL.lt hgl)
   have rL5:=(rL.still hb3).far g 0 (b2 t0 t1) (.inl hwg)
   have b5:=below_setCells (Nat.le_trans b1.size hgl) (b2 t0 t1) 0 _ (below_next b1 hb3)
   generalize V4.setCells g 0 (b2 t0 t1)=V5 at *
   clear rG hb3 hS c2
   go_upto_region 9 with (fail)
   have hdr5:Below V5.heap.size V5 V5.drew:=(Below.refl _ _).drew
   replace rL5:=rL5.still hdr5
   replace rG':=rG'.still hdr5
   replace b5:=below_next b5 hdr5
   refine wp_region_noPanic ?_
   refine wp_region_held_drew (S:=fun u=>Below V5.drew.heap.size V5.drew u) (by kernel_rfl) (Below.refl _ _) (fun hS => ?_)
   generalize V5.drew=V6 at *
   refine tlS 0 (fun u hu=>rL5.still hu) hS 97 Tryz.underlying97 hi1 ?_
   (try simp only [pS])
   refine tg 1 hS ?_
   (try simp only [pS])
   refine tg 2 hS ?_
   (try simp only [pS])
   refine tlS 4 (fun u hu=>rG'.still hu) hS 101 Tryz.underlying101 info2 ?_
   (try simp only [pS])
   refine cl 3 (c3 V6 b5) ?_
   rintro e V7 ⟨rfl,hb7⟩
   refine ⟨_,rfl,hb7,?_⟩
   (try simp only [pS])
   refine cl 5 (c4 V7) ?_
   rintro e V8 ⟨rfl,hb8⟩
   replace hb7:=below_next hb7 hb8
   refine ⟨_,rfl,hb7,?_⟩
   (try simp only [pS])
   refine tg 6 hb7 ?_
   (try simp only [pS])
   refine wpAnyH_done (by kernel_rfl) ?_ _
   refine NoPanic.normal ?_
   have rL8:=rL5.still hb7
   have b8:=below_next b5 hb7
   have rLr:=rL8.range
   have c5':=c5 V8 b8
   clear c5 c3 c4 rL5 rG' hb7 hb8 hS b5
   cases T with
   | false =>
    go_wp2
    go_ret2
    exact ⟨(fun h=>Bool.noConfusion h),fun _=>rfl,b8⟩
   | true =>
    go_wp2_with (first
     | (refine wpList_load_mid rfl 97 _ rfl w1.heap.size 0 rfl (ints .u8 32 L) _ rLr Tryz.underlying97 rfl hi1 ?_)
     | (go_at_call 67;refine c5'.mono ?_;clear c5';rintro e w9 ⟨gh,rfl,own9,b9⟩))
    go_ret2
    exact ⟨⟨_,rfl,own_down own9 b8.size⟩,below_next b8 b9⟩
end Go.Proofs.YtcgkajlehdgpoaaGreatDoor
namespace Go.Proofs.YtcgkajlehdgpoaaGreatDoor
open Go.RowKit
abbrev z0:Nat→Nat:=fun _=>0
theorem hz0:∀ j,z0 j<256:=fun _=>(by decide:0<256)
end Go.Proofs.YtcgkajlehdgpoaaGreatDoor
namespace Go.Proofs.YtcgkajlehdgpoaaGreatDoor
open Go.RowKit
abbrev AnsC (f:FuncId) (args:Array Value) (w:World) (N:Nat) (Z:Nat→Nat) (E:Int):Prop :=
 Calls Tryz.prog f args w fun e w'=>∃ s,e = .returned (.tuple #[s,.int .i64 E])∧BytesIn w' s N Z∧Below w.heap.size w w'
theorem RowF.bytes {base:Nat} {w:World} {s:Value} {X:Nat→Nat} (h:RowF base w s 16 X):BytesIn w s 16 X:=by
 obtain ⟨g,cap,rfl,-,hc,hr⟩:=h
 exact .inr ⟨g,0,cap,rfl,block_lt_of_cell (hr 0 (by decide)).1,hc,fun j hj=>(hr j hj).1⟩
def slB (ks nn:Nat→Nat) (ml:Nat) (M:Nat→Nat) (n:Nat) (X:Nat→Nat) (j:Nat):Nat:=slN ks nn ml M n X j%256
theorem slN_lt {ks nn M X:Nat→Nat} (hks:∀ j,ks j<256) (hnn:∀ j,nn j<256) (hX:∀ j,X j<256) (ml n j:Nat) (hj:j<n+16):slN ks nn ml M n X j<256:=by
 unfold slN cat
 split
 · exact trN_lt hks hnn hX j
 · exact tgN_B hks hnn ml n _ (by omega)
end Go.Proofs.YtcgkajlehdgpoaaGreatDoor
namespace Go.Proofs.YtcgkajlehdgpoaaGreatDoor
open Go.RowKit
theorem RW.set3 {w:World} {g:Nat} {a b c d:Value} (r:RW w g 0 [a,b,c,d]) (y:Value):RW (w.setCell ⟨g,3,none⟩ y) g 0 [a,b,c,y]:=by
 have h:=fun j (hj:j<4)=>r.there j (by simpa using hj)
 refine ⟨fun j v hv => ?_,fun j hj => ?_,by rw [World.size_setCell];exact r.lt⟩
 · by_cases e:j=3
   · subst e
     simp only [List.getElem?_cons_succ,List.getElem?_cons_zero,Option.some.injEq] at hv
     subst hv
     exact World.cell?_setCell_same _ _ _ (r.range 3 d rfl)
   · have hne:(⟨g,3,none⟩:Addr)≠⟨g,0+j,none⟩:=fun e'=>by injection e';omega
     rw [World.cell?_setCell_other _ _ _ _ hne]
     refine r.range j v ?_
     rw [←hv]
     match j,e with
     | 0,_=>rfl
     | 1,_=>rfl
     | 2,_=>rfl
     | j+4,_=>rfl
 · rw [World.frozen?_setCell]
   refine ⟨?_,(r.there j (by simpa using hj)).2⟩
   by_cases e:j=3
   · subst e
     rw [World.cell?_setCell_same _ _ _ (r.range 3 d rfl)];rfl
   · have hne:(⟨g,3,none⟩:Addr)≠⟨g,0+j,none⟩:=fun e'=>by injection e';omega
     rw [World.cell?_setCell_other _ _ _ _ hne]
     exact (r.there j (by simpa using hj)).1
end Go.Proofs.YtcgkajlehdgpoaaGreatDoor
namespace Go.Proofs.YtcgkajlehdgpoaaGreatDoor
open Go.RowKit
theorem made_len (gc:Nat) (x:Option Addr) (l c:Nat) (w:World) (h:w.cell? ⟨gc,0,none⟩=some (.slice x l c)):Calls Tryz.prog 48 #[.pointer (some ⟨gc,0,none⟩)] w fun e w'=>e = .returned (.bool ((l:Int) != 0))∧w'=w:=by
 go_enter Tryz.func48,Tryz.ntmps48
 go_wp2
 go_ret
 exact ⟨rfl,rfl⟩
theorem RowAt.set_u64 {w:World} {g o n b q:Nat} {X:Nat→Nat} {z:Int} (h:RowAt .u8 w g o n X) (hc:w.cell? ⟨b,q,none⟩=some (.int .u64 z)) (u:Value):RowAt .u8 (w.setCell ⟨b,q,none⟩ u) g o n X:=fun j hj=>by
 have hne:(⟨b,q,none⟩:Addr)≠⟨g,o+j,none⟩:=fun e=>by
  rw [e,(h j hj).1] at hc
  cases hc
 rw [World.cell?_setCell_other _ _ _ _ hne,World.frozen?_setCell]
 exact h j hj
theorem BytesIn.set_u64 {w:World} {v:Value} {n g o:Nat} {X:Nat→Nat} {z:Int} (h:BytesIn w v n X) (hc:w.cell? ⟨g,o,none⟩=some (.int .u64 z)) (u:Value):BytesIn (w.setCell ⟨g,o,none⟩ u) v n X:=by
 rcases h with h | ⟨bb,ob,cap,rfl,h1,h2,h3⟩
 · exact .inl h
 · refine .inr ⟨bb,ob,cap,rfl,by rw [World.size_setCell];exact h1,h2,fun j hj => ?_⟩
   have hne:(⟨g,o,none⟩:Addr)≠⟨bb,ob+j,none⟩:=fun e=>by
    rw [e,h3 j hj] at hc
    cases hc
   rw [World.cell?_setCell_other _ _ _ _ hne]
   exact h3 j hj
theorem CCtx.lt {w:World} {g:Nat} {K N X:Nat→Nat} {n:Nat} (h:CCtx w g K N X n):g<w.heap.size:=by
 obtain ⟨_,_,_,r,_⟩:=h
 exact r.lt
theorem CCtx.num {w:World} {g:Nat} {K N X:Nat→Nat} {n:Nat} (h:CCtx w g K N X n):w.cell? ⟨g,3,none⟩=some (.int .u64 (n:Int)):=by
 obtain ⟨_,_,_,r,_⟩:=h
 exact r.range 3 _ rfl
theorem cmade {w:World} {g:Nat} {K N X:Nat→Nat} {n:Nat} (h:CCtx w g K N X n):Calls Tryz.prog 48 #[.pointer (some ⟨g,0,none⟩)] w fun e w'=>e = .returned (.bool true)∧w'=w:=by
 obtain ⟨_,_,_,r,_⟩:=h
 exact made_len g _ 16 16 w (r.range 0 _ rfl)
theorem CCtx.next {w:World} {g:Nat} {K N X:Nat→Nat} {n:Nat} (h:CCtx w g K N X n) (m:Nat):CCtx (w.setCell ⟨g,3,none⟩ (.int .u64 (m:Int))) g K N X m:=by
 have hc:=h.num
 obtain ⟨gk,gu,gx,r,h1,h2,h3⟩:=h
 exact ⟨gk,gu,gx,r.set3 _,h1.set_u64 hc _,h2.set_u64 hc _,h3.set_u64 hc _⟩
set_option maxRecDepth 20000 in
set_option maxHeartbeats 4000000 in
theorem cnextSeal (gc n:Nat) (K N X:Nat→Nat) (hN:∀ j,N j<256) (mv tv:Value) (L:Nat) (Z:Nat→Nat) (E:Int) (hE:E=0∨L=0) (hn:n+1<9223372036854775808) (w:World) (h:CCtx w gc K N X n) (ha:∀ kv nv W,Below w.heap.size w W→BytesIn W kv 16 K→BytesIn W nv 12 (ncN N n)→AnsC 46 #[kv,nv,mv,tv] W L Z E) :
 Calls Tryz.prog 45 #[.pointer (some ⟨gc,0,none⟩),.func (.func 46) #[] #[],mv,tv] w fun e w'=>∃ s,e = .returned (.tuple #[s,.int .i64 E])∧BytesIn w' s L Z∧CCtx w' gc K N X (if E=0 then n+1 else n)∧Out gc 3 1 w w':=by
 have bd:Below w.heap.size w w.drew:=(Below.refl _ _).drew
 have cm:=cmade h
 have hc:=h.keep bd
 have hc':=hc
 obtain ⟨gk,gu,gx,r,hk,hu,hx⟩:=hc
 have cn:=cnonce_any gk gu gx n N hN w.drew hu
 have f0:w.drew.cell? ⟨gc,0,none⟩=some (.slice (some ⟨gk,0,none⟩) 16 16):=r.range 0 _ rfl
 have f3:w.drew.cell? ⟨gc,3,none⟩=some (.int .u64 (n:Int)):=r.range 3 _ rfl
 have r3:RW w.drew gc 0 [.slice (some ⟨gk,0,none⟩) 16 16,.slice (some ⟨gu,0,none⟩) 12 12,.slice (some ⟨gx,0,none⟩) 32 32]:=RW.left (ds:=[.int .u64 (n:Int)]) r
 have gl:gc<w.heap.size:=r.lt
 replace hk:=row_bytes (by decide) hk
 clear hu hx r
 go_enter Tryz.func45,Tryz.ntmps45
 go_upto_region 3 with (go_at_call 48;refine cm.mono ?_;clear cm;rintro e w0 ⟨rfl,hw0⟩;obtain rfl:=hw0.symm)
 refine wp_region_held_drew (S:=fun u=>Below w.drew.heap.size w.drew u) (by kernel_rfl) (Below.refl _ _) (fun hS => ?_)
 refine tg 0 hS ?_
 (try simp only [pS])
 refine tg 1 hS ?_
 (try simp only [pS])
 refine tg 2 hS ?_
 (try simp only [pS])
 refine tg 3 hS ?_
 (try simp only [pS])
 refine tg 4 hS ?_
 (try simp only [pS])
 refine tc 5 hS (fun u hu=>(hu.cell (p:=⟨gc,0,none⟩) gl).trans f0) ?_
 (try simp only [pS])
 refine tg 6 hS ?_
 (try simp only [pS])
 refine tg 7 hS ?_
 (try simp only [pS])
 refine tg 8 hS ?_
 (try simp only [pS])
 refine tl 9 r3 hS 52 Tryz.underlying52 (infoKl _ _ _) ?_
 (try simp only [pS])
 refine tg 10 hS ?_
 (try simp only [pS])
 refine tg 11 hS ?_
 (try simp only [pS])
 refine tg 12 hS ?_
 (try simp only [pS])
 refine tc 13 hS (fun u hu=>(hu.cell (p:=⟨gc,3,none⟩) gl).trans f3) ?_
 (try simp only [pS])
 refine tg 15 hS ?_
 (try simp only [pS])
 refine tg 16 hS ?_
 (try simp only [pS])
 refine cl 14 cn ?_
 rintro e w1 ⟨s1,rfl,o1,b1⟩
 refine ⟨_,rfl,b1,?_⟩
 (try simp only [pS])
 refine cl 17 (ha _ s1 w1 (below_next bd b1) (hk.keep b1) o1) ?_
 rintro e w2 ⟨s2,rfl,o2,hb2⟩
 have b2:=below_next b1 hb2
 refine ⟨_,rfl,b2,?_⟩
 (try simp only [pS])
 refine tg 18 b2 ?_
 (try simp only [pS])
 refine tg 19 b2 ?_
 (try simp only [pS])
 refine tg 20 b2 ?_
 (try simp only [pS])
 refine tg 21 b2 ?_
 (try simp only [pS])
 refine tg 22 b2 ?_
 (try simp only [pS])
 refine wpAnyH_done (by kernel_rfl) ?_ _
 replace hc':=hc'.keep b2
 have bw:=below_next bd b2
 have f3:=hc'.num
 have z3:w2.frozen? ⟨gc,3,none⟩=false:=by
  obtain ⟨_,_,_,r,_⟩:=hc'
  exact (r.there 3 (by show 3<4;decide)).2
 clear ha hk h b1 b2 hS o1 hb2 cn r3 f0
 by_cases h0:E=0
 · subst h0
   have hw:(n:Int)+1=((n+1:Nat):Int):=by omega
   have hw':IntKind.u64.wrap ((n:Int)+1)=((n+1:Nat):Int):=by show ((n:Int)+1)%18446744073709551616=_;omega
   have hx:=hc'.next (n+1)
   obtain ⟨n1,hn1⟩:∃ n1,n1=n+1:=⟨_,rfl⟩
   rw [←hn1] at hw hw' hx
   have HN:=Hid.mk' hn1
   clear hn1 hE
   go_wp2
   go_ret2
   refine ⟨_,rfl,o2.set_u64 f3 _,?_,(Out.of_below bw gl).trans (Out.setCell w2 _ (Nat.le_refl _) (by decide))⟩
   rw [←HN.out]
   exact hx
 · have hL:=hE.resolve_left h0
   subst hL
   clear hE
   go_wp2
   go_ret2
   exact ⟨_,rfl,.inl ⟨none,rfl,rfl⟩,hc',Out.of_below bw gl⟩
set_option maxRecDepth 20000 in
set_option maxHeartbeats 2000000 in
theorem cSeal (gc n:Nat) (K N X:Nat→Nat) (hN:∀ j,N j<256) (mv tv:Value) (L:Nat) (Z:Nat→Nat) (E:Int) (hE:E=0∨L=0) (hn:n+1<9223372036854775808) (w:World) (h:CCtx w gc K N X n) (ha:∀ kv nv W,Below w.heap.size w W→BytesIn W kv 16 K→BytesIn W nv 12 (ncN N n)→AnsC 46 #[kv,nv,mv,tv] W L Z E) :
 Calls Tryz.prog 21 #[.pointer (some ⟨gc,0,none⟩),mv,tv] w fun e w'=>∃ s,e = .returned (.tuple #[s,.int .i64 E])∧BytesIn w' s L Z∧CCtx w' gc K N X (if E=0 then n+1 else n)∧Out gc 3 1 w w':=by
 have cx:=cnextSeal gc n K N X hN mv tv L Z E hE hn w h ha
 generalize (if E=0 then n+1 else n)=q at cx ⊢
 clear h ha
 go_enter Tryz.func21,Tryz.ntmps21
 go_wp2_with (go_at_call 45;refine cx.mono ?_;clear cx;rintro e w1 ⟨s1,rfl,o1,c1,u1⟩)
 go_ret2
 exact ⟨_,rfl,o1,c1,u1⟩
set_option maxRecDepth 20000 in
set_option maxHeartbeats 4000000 in
theorem cnextOpen (gc n:Nat) (K N X:Nat→Nat) (hN:∀ j,N j<256) (mv tv:Value) (L:Nat) (Z:Nat→Nat) (E:Int) (hE:E=0∨L=0) (hn:n+1<9223372036854775808) (w:World) (h:CCtx w gc K N X n) (ha:∀ kv nv W,Below w.heap.size w W→BytesIn W kv 16 K→BytesIn W nv 12 (ncN N n)→AnsC 47 #[kv,nv,mv,tv] W L Z E) :
 Calls Tryz.prog 45 #[.pointer (some ⟨gc,0,none⟩),.func (.func 47) #[] #[],mv,tv] w fun e w'=>∃ s,e = .returned (.tuple #[s,.int .i64 E])∧BytesIn w' s L Z∧CCtx w' gc K N X (if E=0 then n+1 else n)∧Out gc 3 1 w w':=by
 have bd:Below w.heap.size w w.drew:=(Below.refl _ _).drew
 have cm:=cmade h
 have hc:=h.keep bd
 have hc':=hc
 obtain ⟨gk,gu,gx,r,hk,hu,hx⟩:=hc
 have cn:=cnonce_any gk gu gx n N hN w.drew hu
 have f0:w.drew.cell? ⟨gc,0,none⟩=some (.slice (some ⟨gk,0,none⟩) 16 16):=r.range 0 _ rfl
 have f3:w.drew.cell? ⟨gc,3,none⟩=some (.int .u64 (n:Int)):=r.range 3 _ rfl
 have r3:RW w.drew gc 0 [.slice (some ⟨gk,0,none⟩) 16 16,.slice (some ⟨gu,0,none⟩) 12 12,.slice (some ⟨gx,0,none⟩) 32 32]:=RW.left (ds:=[.int .u64 (n:Int)]) r
 have gl:gc<w.heap.size:=r.lt
 replace hk:=row_bytes (by decide) hk
 clear hu hx r
 go_enter Tryz.func45,Tryz.ntmps45
 go_upto_region 3 with (go_at_call 48;refine cm.mono ?_;clear cm;rintro e w0 ⟨rfl,hw0⟩;obtain rfl:=hw0.symm)
 refine wp_region_held_drew (S:=fun u=>Below w.drew.heap.size w.drew u) (by kernel_rfl) (Below.refl _ _) (fun hS => ?_)
 refine tg 0 hS ?_
 (try simp only [pS])
 refine tg 1 hS ?_
 (try simp only [pS])
 refine tg 2 hS ?_
 (try simp only [pS])
 refine tg 3 hS ?_
 (try simp only [pS])
 refine tg 4 hS ?_
 (try simp only [pS])
 refine tc 5 hS (fun u hu=>(hu.cell (p:=⟨gc,0,none⟩) gl).trans f0) ?_
 (try simp only [pS])
 refine tg 6 hS ?_
 (try simp only [pS])
 refine tg 7 hS ?_
 (try simp only [pS])
 refine tg 8 hS ?_
 (try simp only [pS])
 refine tl 9 r3 hS 52 Tryz.underlying52 (infoKl _ _ _) ?_
 (try simp only [pS])
 refine tg 10 hS ?_
 (try simp only [pS])
 refine tg 11 hS ?_
 (try simp only [pS])
 refine tg 12 hS ?_
 (try simp only [pS])
 refine tc 13 hS (fun u hu=>(hu.cell (p:=⟨gc,3,none⟩) gl).trans f3) ?_
 (try simp only [pS])
 refine tg 15 hS ?_
 (try simp only [pS])
 refine tg 16 hS ?_
 (try simp only [pS])
 refine cl 14 cn ?_
 rintro e w1 ⟨s1,rfl,o1,b1⟩
 refine ⟨_,rfl,b1,?_⟩
 (try simp only [pS])
 refine cl 17 (ha _ s1 w1 (below_next bd b1) (hk.keep b1) o1) ?_
 rintro e w2 ⟨s2,rfl,o2,hb2⟩
 have b2:=below_next b1 hb2
 refine ⟨_,rfl,b2,?_⟩
 (try simp only [pS])
 refine tg 18 b2 ?_
 (try simp only [pS])
 refine tg 19 b2 ?_
 (try simp only [pS])
 refine tg 20 b2 ?_
 (try simp only [pS])
 refine tg 21 b2 ?_
 (try simp only [pS])
 refine tg 22 b2 ?_
 (try simp only [pS])
 refine wpAnyH_done (by kernel_rfl) ?_ _
 replace hc':=hc'.keep b2
 have bw:=below_next bd b2
 have f3:=hc'.num
 have z3:w2.frozen? ⟨gc,3,none⟩=false:=by
  obtain ⟨_,_,_,r,_⟩:=hc'
  exact (r.there 3 (by show 3<4;decide)).2
 clear ha hk h b1 b2 hS o1 hb2 cn r3 f0
 by_cases h0:E=0
 · subst h0
   have hw:(n:Int)+1=((n+1:Nat):Int):=by omega
   have hw':IntKind.u64.wrap ((n:Int)+1)=((n+1:Nat):Int):=by show ((n:Int)+1)%18446744073709551616=_;omega
   have hx:=hc'.next (n+1)
   obtain ⟨n1,hn1⟩:∃ n1,n1=n+1:=⟨_,rfl⟩
   rw [←hn1] at hw hw' hx
   have HN:=Hid.mk' hn1
   clear hn1 hE
   go_wp2
   go_ret2
   refine ⟨_,rfl,o2.set_u64 f3 _,?_,(Out.of_below bw gl).trans (Out.setCell w2 _ (Nat.le_refl _) (by decide))⟩
   rw [←HN.out]
   exact hx
 · have hL:=hE.resolve_left h0
   subst hL
   clear hE
   go_wp2
   go_ret2
   exact ⟨_,rfl,.inl ⟨none,rfl,rfl⟩,hc',Out.of_below bw gl⟩
set_option maxRecDepth 20000 in
set_option maxHeartbeats 2000000 in
theorem cOpen (gc n:Nat) (K N X:Nat→Nat) (hN:∀ j,N j<256) (mv tv:Value) (L:Nat) (Z:Nat→Nat) (E:Int) (hE:E=0∨L=0) (hn:n+1<9223372036854775808) (w:World) (h:CCtx w gc K N X n) (ha:∀ kv nv W,Below w.heap.size w W→BytesIn W kv 16 K→BytesIn W nv 12 (ncN N n)→AnsC 47 #[kv,nv,mv,tv] W L Z E) :
 Calls Tryz.prog 22 #[.pointer (some ⟨gc,0,none⟩),mv,tv] w fun e w'=>∃ s,e = .returned (.tuple #[s,.int .i64 E])∧BytesIn w' s L Z∧CCtx w' gc K N X (if E=0 then n+1 else n)∧Out gc 3 1 w w':=by
 have cx:=cnextOpen gc n K N X hN mv tv L Z E hE hn w h ha
 generalize (if E=0 then n+1 else n)=q at cx ⊢
 clear h ha
 go_enter Tryz.func22,Tryz.ntmps22
 go_wp2_with (go_at_call 45;refine cx.mono ?_;clear cx;rintro e w1 ⟨s1,rfl,o1,c1,u1⟩)
 go_ret2
 exact ⟨_,rfl,o1,c1,u1⟩
end Go.Proofs.YtcgkajlehdgpoaaGreatDoor
namespace Go.Proofs.YtcgkajlehdgpoaaGreatDoor
open Go.RowKit
theorem ckN_lt (l:List Nat) (N:Nat) (sh:Nat→Nat) (m:Nat) (info:Nat→Nat) (j:Nat):ckN l N sh m info j<256:=leN_lt _ _ _ _ _ _ _ _
theorem BytesIn.out {w w':World} {v:Value} {n g:Nat} {X:Nat→Nat} {z:Int} (h:BytesIn w v n X) (hc:w.cell? ⟨g,3,none⟩=some (.int .i64 z)) (u:Out g 3 1 w w'):BytesIn w' v n X:=by
 rcases h with h | ⟨bb,ob,cap,rfl,h1,h2,h3⟩
 · exact .inl h
 · refine .inr ⟨bb,ob,cap,rfl,Nat.lt_of_lt_of_le h1 u.size,h2,fun j hj => ?_⟩
   by_cases e:bb=g
   · subst e
     by_cases e3:ob+j=3
     · have:=h3 j hj
       rw [e3,hc] at this
       cases this
     · rw [u.cell (ob+j) (by omega)];exact h3 j hj
   · rw [u.cell' h1 e];exact h3 j hj
end Go.Proofs.YtcgkajlehdgpoaaGreatDoor
namespace Go.Proofs.YtcgkajlehdgpoaaGreatDoor
open Go.RowKit
set_option maxRecDepth 20000 in
set_option maxHeartbeats 4000000 in
theorem cNew_good (v u:Value) (m:Nat) (s info:Nat→Nat) (hs:∀ j,s j<256) (hi:∀ j,info j<256) (hm:m≤65536) (w:World) (hT:HTab w cubeK squareK) (hv:BytesIn w v 32 s) (hu:BytesIn w u m info) :
 Calls Tryz.prog 18 #[v,u] w fun e w'=>∃ g,e = .returned (.tuple #[.pointer (some ⟨g,0,none⟩),.int .i64 0])∧w.heap.size≤g∧CCtx w' g (ckN lKey 16 s m info) (ckN lBn 12 s m info) (ckN lExp 32 s m info) 0∧Below w.heap.size w w':=by
 have ck:=keysOf_any v u m s info hs hi hm w hT hv hu
 obtain ⟨x1,c1,rfl,-,-,-⟩:=hv.src
 obtain ⟨x2,c2,rfl,-,-,-⟩:=hu.src
 have n2:¬((65536:Int)<(m:Int)):=by omega
 generalize ckN lKey 16 s m info=Y1 at ck ⊢
 generalize ckN lBn 12 s m info=Y2 at ck ⊢
 generalize ckN lExp 32 s m info=Y3 at ck ⊢
 clear hv hu hT
 go_enter Tryz.func18,Tryz.ntmps18
 go_wp2_with (go_at_call 39;refine ck.mono ?_;clear ck;rintro e w1 ⟨gk,gu,gx,rfl,r1,r2,r3,b1⟩)
 go_ret2
 have hb:=(Below.refl w1.heap.size w1).alloc (Nat.le_refl _) (.cells #[.slice (some ⟨gk,0,none⟩) 16 16,.slice (some ⟨gu,0,none⟩) 12 12,.slice (some ⟨gx,0,none⟩) 32 32,.int .u64 0] 55)
 exact ⟨w1.heap.size,rfl,b1.size,⟨gk,gu,gx,RW.fresh w1 [_,_,_,_] _,r1.stay (by decide) hb,r2.stay (by decide) hb,r3.stay (by decide) hb⟩,below_next b1 hb⟩
theorem BytesIn.outU {w w':World} {v:Value} {n g:Nat} {X:Nat→Nat} {z:Int} (h:BytesIn w v n X) (hc:w.cell? ⟨g,3,none⟩=some (.int .u64 z)) (u:Out g 3 1 w w'):BytesIn w' v n X:=by
 rcases h with h | ⟨bb,ob,cap,rfl,h1,h2,h3⟩
 · exact .inl h
 · refine .inr ⟨bb,ob,cap,rfl,Nat.lt_of_lt_of_le h1 u.size,h2,fun j hj => ?_⟩
   by_cases e:bb=g
   · subst e
     by_cases e3:ob+j=3
     · have:=h3 j hj
       rw [e3,hc] at this
       cases this
     · rw [u.cell (ob+j) (by omega)];exact h3 j hj
   · rw [u.cell' h1 e];exact h3 j hj
end Go.Proofs.YtcgkajlehdgpoaaGreatDoor
namespace Go.Proofs.YtcgkajlehdgpoaaGreatDoor
open Go.RowKit
theorem padH_like {kv kv' t t':Nat→Nat} {p m:Nat} (hk:∀ j,kv j=kv' j) (ht:∀ j,j<m→t j=t' j):padH kv p m t=padH kv' p m t':=by
 unfold padH
 rw [specS_congr (cs:=cat 64 (fun j=>kv' j ^^^ p) t') fun j hj => ?_]
 unfold cat
 by_cases h:j<64
 · rw [if_pos h,if_pos h]
   show kv j ^^^ p=kv' j ^^^ p
   rw [hk]
 · rw [if_neg h,if_neg h,ht (j - 64) (by omega)]
theorem keyB_like {n:Nat} {bs cs:Nat→Nat} (hn:n≤64) (h:∀ j,j<n→bs j=cs j) (j:Nat):keyB n bs j=keyB n cs j:=by
 unfold keyB
 rw [if_pos hn,if_pos hn]
 by_cases e:j<n
 · rw [if_pos e,if_pos e,h j e]
 · rw [if_neg e,if_neg e]
theorem all_at {f g:Nat→Nat} {n:Nat} (h:((List.range n).all fun j=>f j == g j)=true) (j:Nat) (hj:j<n):f j=g j:=by
 have:=List.all_eq_true.1 h j (List.mem_range.2 hj)
 simpa using this
theorem tag_lit {kv kv' t t':Nat→Nat} {m:Nat} {I O:Nat→Nat} (hk:∀ j,kv j=kv' j) (ht:∀ j,j<m→t j=t' j) (h1:((List.range 32).all fun j=>padH kv' 54 m t' j == I j)=true) (h2:((List.range 32).all fun j=>padH kv' 92 32 I j == O j)=true) (j:Nat) (hj:j<32):tagH kv m t j=O j:=by
 unfold tagH
 rw [padH_like hk (fun q hq=>(by rw [padH_like hk ht];exact all_at h1 q hq:padH kv 54 m t q=I q))]
 exact all_at h2 j hj
theorem catL_like:∀ (ps qs:List (Nat × (Nat→Nat))),ps.length=qs.length→(∀ (i:Nat) (p q:Nat × (Nat→Nat)),ps[i]? = some p→qs[i]? = some q→p.1=q.1∧∀ j,j<p.1→p.2 j=q.2 j)→∀ j,catL ps j=catL qs j
 | [],[],_,_,_=>rfl
 | p :: r,q :: s,hl,h,j=>by
  obtain ⟨h1,h2⟩:=h 0 p q rfl rfl
  have hr:=catL_like r s (by simpa using hl) (fun i a b ha hb=>h (i+1) a b (by simpa using ha) (by simpa using hb))
  show cat p.1 p.2 (catL r) j=cat q.1 q.2 (catL s) j
  unfold cat
  rw [←h1]
  by_cases e:j<p.1
  · rw [if_pos e,if_pos e,h2 j e]
  · rw [if_neg e,if_neg e,hr]
theorem one_lit {ikm:Nat→Nat} {c:Nat} (h:ikm 0=c) (j:Nat) (hj:j<1):ikm j=litB [c] j:=by
 obtain rfl:j=0:=by omega
 exact h
theorem lx_lit (suite label:List Nat) (sn m:Nat) {salt salt' ikm ikm' I O:Nat→Nat} (hs:sn≤64) (h1:∀ j,j<sn→salt j=salt' j) (h2:∀ j,j<m→ikm j=ikm' j)
 (k1:((List.range 32).all fun j=>padH (keyB sn salt') 54 (lenL (lxT suite label m ikm')) (catL (lxT suite label m ikm')) j == I j)=true) (k2:((List.range 32).all fun j=>padH (keyB sn salt') 92 32 I j == O j)=true) (j:Nat) (hj:j<32):lxN suite sn salt label m ikm j=O j:=by
 unfold lxN
 refine tag_lit (keyB_like hs h1) (fun q _ => ?_) k1 k2 j hj
 unfold lxT
 refine catL_like _ _ (by rfl) (fun i a b ha hb => ?_) q
 match i,ha,hb with
 | 0,ha,hb=>cases ha;cases hb;exact ⟨rfl,fun _ _=>rfl⟩
 | 1,ha,hb=>cases ha;cases hb;exact ⟨rfl,fun _ _=>rfl⟩
 | 2,ha,hb=>cases ha;cases hb;exact ⟨rfl,fun _ _=>rfl⟩
 | 3,ha,hb=>cases ha;cases hb;exact ⟨rfl,h2⟩
 | i+4,ha,hb=>simp at ha
theorem le_lit (suite label:List Nat) (pn m N:Nat) {prk prk' info info' I O:Nat→Nat} (hs:pn≤64) (hN:N≤32) (h1:∀ j,j<pn→prk j=prk' j) (h2:∀ j,j<m→info j=info' j)
 (k1:((List.range 32).all fun j=>padH (keyB pn prk') 54 (0+lenL (leT suite label m info' N)+1) (cat 0 (fun _=>0) (cat (lenL (leT suite label m info' N)) (catL (leT suite label m info' N)) (fun _=>1))) j == I j)=true) (k2:((List.range 32).all fun j=>padH (keyB pn prk') 92 32 I j == O j)=true) (j:Nat) (hj:j<N):leN suite pn prk label m info N j=O j:=by
 unfold leN outF
 rw [if_pos hj,Nat.div_eq_of_lt (by omega:j<32),Nat.mod_eq_of_lt (by omega:j<32)]
 have e:∀ q,catL (leT suite label m info N) q=catL (leT suite label m info' N) q:=fun q=>by
  unfold leT lxT
  refine catL_like _ _ (by rfl) (fun i a b ha hb => ?_) q
  match i,ha,hb with
  | 0,ha,hb=>cases ha;cases hb;exact ⟨rfl,fun _ _=>rfl⟩
  | 1,ha,hb=>cases ha;cases hb;exact ⟨rfl,fun _ _=>rfl⟩
  | 2,ha,hb=>cases ha;cases hb;exact ⟨rfl,fun _ _=>rfl⟩
  | 3,ha,hb=>cases ha;cases hb;exact ⟨rfl,fun _ _=>rfl⟩
  | 4,ha,hb=>cases ha;cases hb;exact ⟨rfl,h2⟩
  | i+5,ha,hb=>simp at ha
 exact tag_lit (keyB_like hs h1) (fun q _=>by
  show cat 0 _ (cat (lenL (leT suite label m info' N)) (catL (leT suite label m info N)) (fun _=>0+1)) q=_
  rw [funext e]
  rfl) k1 k2 j (by omega)
def iEx:List Nat:=[85,242,183,113,202,27,112,246,247,253,157,163,187,193,16,224,126,240,68,113,29,201,192,254,215,143,72,156,251,138,160,27]
def nEx:List Nat:=[210,247,76,15,223,124,104,157,218,105,204,42,146,215,237,4,126,214,74,248,102,48,36,240,227,100,50,113,168,27,139,163]
set_option maxRecDepth 100000 in
theorem aEx:((List.range 32).all fun j=>padH (keyB 0 lZ) 54 (lenL (lxT lKem lDkp 1 (litB [120]))) (catL (lxT lKem lDkp 1 (litB [120]))) j == litB iEx j)=true:=by kernel_rfl
set_option maxRecDepth 100000 in
theorem bEx:((List.range 32).all fun j=>padH (keyB 0 lZ) 92 32 (litB iEx) j == litB nEx j)=true:=by kernel_rfl
def iDx:List Nat:=[119,95,37,19,149,246,160,139,135,57,93,142,30,142,174,116,56,12,212,246,35,108,10,73,126,70,206,136,204,231,119,17]
def nDx:List Nat:=[6,157,90,94,107,97,20,217,238,7,70,89,64,147,39,129,172,211,223,201,172,49,77,147,63,31,102,11,99,196,98,15]
set_option maxRecDepth 100000 in
theorem aDx:((List.range 32).all fun j=>padH (keyB 32 (litB nEx)) 54 (0+lenL (leT lKem lSk 0 lZ 32)+1) (cat 0 (fun _=>0) (cat (lenL (leT lKem lSk 0 lZ 32)) (catL (leT lKem lSk 0 lZ 32)) (fun _=>1))) j == litB iDx j)=true:=by kernel_rfl
set_option maxRecDepth 100000 in
theorem bDx:((List.range 32).all fun j=>padH (keyB 32 (litB nEx)) 92 32 (litB iDx) j == litB nDx j)=true:=by kernel_rfl
theorem ds_x (ikm:Nat→Nat) (h:ikm 0=120) (j:Nat) (hj:j<32):dsN 1 ikm j=litB nDx j :=
 le_lit lKem lSk 32 0 32 (by decide) (by decide) (lx_lit lKem lDkp 0 1 (by decide) (fun j hj=>by omega) (one_lit h) aEx bEx) (fun j hj=>by omega) aDx bDx j hj
def iEy:List Nat:=[127,159,160,238,98,99,167,203,125,175,120,82,127,138,240,175,82,33,227,102,38,35,18,11,100,254,206,25,12,61,56,12]
def nEy:List Nat:=[240,152,73,142,210,131,153,120,3,28,244,10,90,114,196,113,156,119,15,114,252,153,162,127,26,30,149,96,84,133,152,233]
set_option maxRecDepth 100000 in
theorem aEy:((List.range 32).all fun j=>padH (keyB 0 lZ) 54 (lenL (lxT lKem lDkp 1 (litB [121]))) (catL (lxT lKem lDkp 1 (litB [121]))) j == litB iEy j)=true:=by kernel_rfl
set_option maxRecDepth 100000 in
theorem bEy:((List.range 32).all fun j=>padH (keyB 0 lZ) 92 32 (litB iEy) j == litB nEy j)=true:=by kernel_rfl
def iDy:List Nat:=[58,93,220,180,177,12,28,243,96,121,113,81,108,26,145,162,44,75,135,146,174,162,21,106,238,65,253,207,134,34,128,219]
def nDy:List Nat:=[36,228,103,216,237,235,109,179,50,22,154,188,155,42,248,178,150,199,230,17,251,104,43,147,117,185,39,142,136,28,233,170]
set_option maxRecDepth 100000 in
theorem aDy:((List.range 32).all fun j=>padH (keyB 32 (litB nEy)) 54 (0+lenL (leT lKem lSk 0 lZ 32)+1) (cat 0 (fun _=>0) (cat (lenL (leT lKem lSk 0 lZ 32)) (catL (leT lKem lSk 0 lZ 32)) (fun _=>1))) j == litB iDy j)=true:=by kernel_rfl
set_option maxRecDepth 100000 in
theorem bDy:((List.range 32).all fun j=>padH (keyB 32 (litB nEy)) 92 32 (litB iDy) j == litB nDy j)=true:=by kernel_rfl
theorem ds_y (ikm:Nat→Nat) (h:ikm 0=121) (j:Nat) (hj:j<32):dsN 1 ikm j=litB nDy j :=
 le_lit lKem lSk 32 0 32 (by decide) (by decide) (lx_lit lKem lDkp 0 1 (by decide) (fun j hj=>by omega) (one_lit h) aEy bEy) (fun j hj=>by omega) aDy bDy j hj
theorem clB_like {s t:Nat→Nat} (h:∀ j,j<32→s j=t j) (j:Nat) (hj:j<32):clB s j=clB t j:=by unfold clB;rw [h j hj,h 0 (by decide),h 31 (by decide)]
def px:Nat:=43366608476099930956769318608978268198203409999857882993783226267459177348134
set_option maxRecDepth 100000 in
theorem up_x:(let s:=climbL 9 (clB (litB nDx)) 255;s.zl != 0 && decide (s.zl<pF) && (px*s.zl%pF == s.xl))=true:=by kernel_rfl
theorem mul_x:mulL (clB (litB nDx)) 9=px:=by
 have h:=up_x
 simp only [Bool.and_eq_true,bne_iff_ne,decide_eq_true_eq,beq_iff_eq] at h
 exact quot_of (by decide) h.1.1 h.1.2 h.2
theorem pu_x (ikm:Nat→Nat) (h:ikm 0=120):puN (dsN 1 ikm)=byt px:=by
 unfold puN
 rw [mulL_congr (clB_like (ds_x ikm h)) 9,mul_x]
def py:Nat:=13979613507518318578300256471120989229922844313776856819278657164220742382587
set_option maxRecDepth 100000 in
theorem up_y:(let s:=climbL 9 (clB (litB nDy)) 255;s.zl != 0 && decide (s.zl<pF) && (py*s.zl%pF == s.xl))=true:=by kernel_rfl
theorem mul_y:mulL (clB (litB nDy)) 9=py:=by
 have h:=up_y
 simp only [Bool.and_eq_true,bne_iff_ne,decide_eq_true_eq,beq_iff_eq] at h
 exact quot_of (by decide) h.1.1 h.1.2 h.2
theorem pu_y (ikm:Nat→Nat) (h:ikm 0=121):puN (dsN 1 ikm)=byt py:=by
 unfold puN
 rw [mulL_congr (clB_like (ds_y ikm h)) 9,mul_y]
def ssN:Nat:=50397941658369444083649142919742308952667810776468248375716387249801536046274
set_option maxRecDepth 100000 in
theorem up_s1:(let s:=climbL px (clB (litB nDy)) 255;s.zl != 0 && decide (s.zl<pF) && (ssN*s.zl%pF == s.xl))=true:=by kernel_rfl
theorem mul_s1:mulL (clB (litB nDy)) px=ssN:=by
 have h:=up_s1
 simp only [Bool.and_eq_true,bne_iff_ne,decide_eq_true_eq,beq_iff_eq] at h
 exact quot_of (by decide) h.1.1 h.1.2 h.2
theorem sd_s1 (ikm:Nat→Nat) (h:ikm 0=121):sdN (dsN 1 ikm) (byt px)=ssN:=by
 unfold sdN
 rw [loB_byt (by decide),mulL_congr (clB_like (ds_y ikm h)),mul_s1]
set_option maxRecDepth 100000 in
theorem up_s2:(let s:=climbL py (clB (litB nDx)) 255;s.zl != 0 && decide (s.zl<pF) && (ssN*s.zl%pF == s.xl))=true:=by kernel_rfl
theorem mul_s2:mulL (clB (litB nDx)) py=ssN:=by
 have h:=up_s2
 simp only [Bool.and_eq_true,bne_iff_ne,decide_eq_true_eq,beq_iff_eq] at h
 exact quot_of (by decide) h.1.1 h.1.2 h.2
theorem sd_s2 (ikm:Nat→Nat) (h:ikm 0=120):sdN (dsN 1 ikm) (byt py)=ssN:=by
 unfold sdN
 rw [loB_byt (by decide),mulL_congr (clB_like (ds_x ikm h)),mul_s2]
def iEa:List Nat:=[66,183,217,203,182,204,93,66,84,52,76,176,176,11,128,41,151,225,46,125,184,69,209,203,235,208,33,57,196,191,105,219]
def nEa:List Nat:=[248,61,151,233,213,65,164,89,247,118,52,119,176,249,153,211,241,148,32,162,116,45,35,190,197,204,235,103,32,233,76,201]
set_option maxRecDepth 100000 in
theorem aEa:((List.range 32).all fun j=>padH (keyB 0 lZ) 54 (lenL (lxT lKem lEae 32 (byt ssN))) (catL (lxT lKem lEae 32 (byt ssN))) j == litB iEa j)=true:=by kernel_rfl
set_option maxRecDepth 100000 in
theorem bEa:((List.range 32).all fun j=>padH (keyB 0 lZ) 92 32 (litB iEa) j == litB nEa j)=true:=by kernel_rfl
def iSh:List Nat:=[40,135,76,83,2,208,191,235,226,75,31,26,117,65,35,237,145,196,82,142,195,220,228,107,149,79,252,210,169,133,105,206]
def nSh:List Nat:=[205,33,103,106,135,80,92,11,192,227,48,190,117,131,99,57,144,181,131,215,56,247,204,125,190,158,176,216,183,47,231,167]
set_option maxRecDepth 100000 in
theorem aSh:((List.range 32).all fun j=>padH (keyB 32 (litB nEa)) 54 (0+lenL (leT lKem lSs 64 (catL [(32,byt py),(32,byt px)]) 32)+1) (cat 0 (fun _=>0) (cat (lenL (leT lKem lSs 64 (catL [(32,byt py),(32,byt px)]) 32)) (catL (leT lKem lSs 64 (catL [(32,byt py),(32,byt px)]) 32)) (fun _=>1))) j == litB iSh j)=true:=by kernel_rfl
set_option maxRecDepth 100000 in
theorem bSh:((List.range 32).all fun j=>padH (keyB 32 (litB nEa)) 92 32 (litB iSh) j == litB nSh j)=true:=by kernel_rfl
theorem sh_lit (j:Nat) (hj:j<32):shN2 (byt ssN) (byt py) (byt px) j=litB nSh j :=
 le_lit lKem lSs 32 64 32 (by decide) (by decide) (lx_lit lKem lEae 0 32 (by decide) (fun j hj=>by omega) (fun _ _=>rfl) aEa bEa) (fun _ _=>rfl) aSh bSh j hj
def iPk:List Nat:=[37,138,14,8,217,244,140,48,20,114,225,16,0,98,88,229,252,1,72,108,203,226,28,17,125,251,228,116,131,168,144,92]
def nPk:List Nat:=[114,86,17,201,217,140,7,192,63,96,9,92,211,45,64,13,131,71,212,94,214,112,151,187,173,80,252,86,218,116,45,7]
set_option maxRecDepth 100000 in
theorem aPk:((List.range 32).all fun j=>padH (keyB 0 lZ) 54 (lenL (lxT lAll lPsk 0 lZ)) (catL (lxT lAll lPsk 0 lZ)) j == litB iPk j)=true:=by kernel_rfl
set_option maxRecDepth 100000 in
theorem bPk:((List.range 32).all fun j=>padH (keyB 0 lZ) 92 32 (litB iPk) j == litB nPk j)=true:=by kernel_rfl
def iIh:List Nat:=[6,89,33,211,135,142,37,119,77,19,154,83,91,208,211,42,6,190,237,200,203,233,183,12,204,189,241,99,210,230,172,119]
def nIh:List Nat:=[83,178,196,70,238,97,43,50,134,17,209,31,49,45,210,27,2,5,227,110,51,110,215,237,177,197,78,170,37,108,195,100]
set_option maxRecDepth 100000 in
theorem aIh:((List.range 32).all fun j=>padH (keyB 0 lZ) 54 (lenL (lxT lAll lInf 0 lZ)) (catL (lxT lAll lInf 0 lZ)) j == litB iIh j)=true:=by kernel_rfl
set_option maxRecDepth 100000 in
theorem bIh:((List.range 32).all fun j=>padH (keyB 0 lZ) 92 32 (litB iIh) j == litB nIh j)=true:=by kernel_rfl
def iSe:List Nat:=[84,18,145,4,118,162,238,138,168,129,163,57,164,213,148,55,129,63,144,188,63,65,92,138,148,11,234,131,28,56,120,121]
def nSe:List Nat:=[60,247,250,111,75,250,131,179,25,15,204,54,177,116,192,123,185,120,72,215,226,135,240,41,229,163,131,134,210,254,235,44]
set_option maxRecDepth 100000 in
theorem aSe:((List.range 32).all fun j=>padH (keyB 32 (litB nSh)) 54 (lenL (lxT lAll lSecr 0 lZ)) (catL (lxT lAll lSecr 0 lZ)) j == litB iSe j)=true:=by kernel_rfl
set_option maxRecDepth 100000 in
theorem bSe:((List.range 32).all fun j=>padH (keyB 32 (litB nSh)) 92 32 (litB iSe) j == litB nSe j)=true:=by kernel_rfl
def iKe:List Nat:=[211,218,100,144,207,175,25,106,66,114,9,221,199,222,232,177,233,32,228,194,217,234,0,182,23,33,90,11,178,217,99,84]
def nKe:List Nat:=[64,130,75,144,161,247,146,159,206,246,21,132,253,58,241,31,181,28,118,89,5,174,218,117,206,221,118,160,139,35,99,217]
set_option maxRecDepth 100000 in
theorem aKe:((List.range 32).all fun j=>padH (keyB 32 (litB nSe)) 54 (0+lenL (leT lAll lKey 65 (catL [(1,lZ),(32,litB nPk),(32,litB nIh)]) 16)+1) (cat 0 (fun _=>0) (cat (lenL (leT lAll lKey 65 (catL [(1,lZ),(32,litB nPk),(32,litB nIh)]) 16)) (catL (leT lAll lKey 65 (catL [(1,lZ),(32,litB nPk),(32,litB nIh)]) 16)) (fun _=>1))) j == litB iKe j)=true:=by kernel_rfl
set_option maxRecDepth 100000 in
theorem bKe:((List.range 32).all fun j=>padH (keyB 32 (litB nSe)) 92 32 (litB iKe) j == litB nKe j)=true:=by kernel_rfl
def iNo:List Nat:=[73,219,122,215,199,66,207,200,245,190,32,246,186,240,63,81,106,131,212,94,239,202,61,46,21,214,194,55,252,67,36,33]
def nNo:List Nat:=[35,184,0,58,143,159,158,243,36,250,87,216,151,25,118,143,238,247,185,235,246,189,124,67,88,154,62,2,147,243,0,88]
set_option maxRecDepth 100000 in
theorem aNo:((List.range 32).all fun j=>padH (keyB 32 (litB nSe)) 54 (0+lenL (leT lAll lBn 65 (catL [(1,lZ),(32,litB nPk),(32,litB nIh)]) 12)+1) (cat 0 (fun _=>0) (cat (lenL (leT lAll lBn 65 (catL [(1,lZ),(32,litB nPk),(32,litB nIh)]) 12)) (catL (leT lAll lBn 65 (catL [(1,lZ),(32,litB nPk),(32,litB nIh)]) 12)) (fun _=>1))) j == litB iNo j)=true:=by kernel_rfl
set_option maxRecDepth 100000 in
theorem bNo:((List.range 32).all fun j=>padH (keyB 32 (litB nSe)) 92 32 (litB iNo) j == litB nNo j)=true:=by kernel_rfl
theorem cx_lit (info:Nat→Nat) (j:Nat):cxN 0 info j=catL [(1,lZ),(32,litB nPk),(32,litB nIh)] j:=by
 unfold cxN
 refine catL_like _ _ (by rfl) (fun i a b ha hb => ?_) j
 match i,ha,hb with
 | 0,ha,hb=>cases ha;cases hb;exact ⟨rfl,fun _ _=>rfl⟩
 | 1,ha,hb=>cases ha;cases hb;exact ⟨rfl,lx_lit lAll lPsk 0 0 (by decide) (fun j hj=>by omega) (fun j hj=>by omega) aPk bPk⟩
 | 2,ha,hb=>cases ha;cases hb;exact ⟨rfl,lx_lit lAll lInf 0 0 (by decide) (fun j hj=>by omega) (fun j hj=>by omega) aIh bIh⟩
 | i+3,ha,hb=>simp at ha
theorem ck_Ke (sh info:Nat→Nat) (h:∀ j,j<32→sh j=litB nSh j) (j:Nat) (hj:j<16):ckN lKey 16 sh 0 info j=litB nKe j :=
 le_lit lAll lKey 32 65 16 (by decide) (by decide) (lx_lit lAll lSecr 32 0 (by decide) h (fun j hj=>by omega) aSe bSe) (fun j _=>cx_lit info j) aKe bKe j hj
theorem ck_No (sh info:Nat→Nat) (h:∀ j,j<32→sh j=litB nSh j) (j:Nat) (hj:j<12):ckN lBn 12 sh 0 info j=litB nNo j :=
 le_lit lAll lBn 32 65 12 (by decide) (by decide) (lx_lit lAll lSecr 32 0 (by decide) h (fun j hj=>by omega) aSe bSe) (fun j _=>cx_lit info j) aNo bNo j hj
end Go.Proofs.YtcgkajlehdgpoaaGreatDoor
namespace Go.Proofs.YtcgkajlehdgpoaaGreatDoor
open Go.RowKit
theorem kyS_lit {ks:Nat→Nat} {l:List Nat} (h0:∀ j,j<16→ks j=litB l j) (hk:((List.range 40).all fun n=>(List.range 4).all fun i=>kyT (litB l) (n+4) i == litB l (4*(n+4)+i))=true):∀ n,n≤40→∀ j,j<4*(n+4)→kyS ks n j=litB l j
 | 0,_,j,hj=>h0 j (by omega)
 | n+1,hn,j,hj=>by
  have ih:=kyS_lit h0 hk n (by omega)
  show cat (4*(n+4)) (kyS ks n) (kyT (kyS ks n) (n+4)) j=litB l j
  unfold cat
  by_cases h:j<4*(n+4)
  · rw [if_pos h];exact ih j h
  · rw [if_neg h]
    have hc:=all_below (all_below hk n (by omega)) (j - 4*(n+4)) (by omega)
    simp only [beq_iff_eq] at hc
    rw [show 4*(n+4)+(j - 4*(n+4))=j by omega] at hc
    rw [←hc]
    generalize hi:j - 4*(n+4)=i at *
    unfold kyT
    rw [ih _ (by omega),ih _ (by omega),ih _ (by omega),ih (4*(n+4) - 4+i) (by omega)]
theorem blkS_lit {ks c:Nat→Nat} {l s:List Nat} (hk:∀ j,j<176→kyN ks j=litB l j) (h0:∀ j,j<16→c j ^^^ litB l j=litB s j) (hs:((List.range 9).all fun r=>(List.range 16).all fun j=>addN (litB l) (r+1) (colN mT (rowN 1 (thrN boxN (fun j=>litB s (16*r+j))))) j == litB s (16*(r+1)+j))=true):∀ r,r≤9→S16 (blkS (kyN ks) c r) (fun j=>litB s (16*r+j))
 | 0,_=>fun j hj=>by
  show c j ^^^ kyN ks (16*0+j)=litB s (16*0+j)
  rw [hk _ (by omega),Nat.mul_zero,Nat.zero_add]
  exact h0 j hj
 | r+1,hr=>fun j hj=>by
  have ih:=blkS_lit hk h0 hs r (by omega)
  have h:=all_below (all_below hs r (by omega)) j hj
  simp only [beq_iff_eq] at h
  show colN mT (rowN 1 (thrN boxN (blkS (kyN ks) c r))) j ^^^ kyN ks (16*(r+1)+j)=litB s (16*(r+1)+j)
  rw [hk _ (by omega),←h]
  show _=colN mT (rowN 1 (thrN boxN (fun j=>litB s (16*r+j)))) j ^^^ litB l (16*(r+1)+j)
  rw [colN_S (rowN_S (thrN_S ih boxN) 1) mT j hj]
theorem blk_lit {ks c:Nat→Nat} {l s:List Nat} (hk:∀ j,j<176→kyN ks j=litB l j) (h0:∀ j,j<16→c j ^^^ litB l j=litB s j) (hs:((List.range 9).all fun r=>(List.range 16).all fun j=>addN (litB l) (r+1) (colN mT (rowN 1 (thrN boxN (fun j=>litB s (16*r+j))))) j == litB s (16*(r+1)+j))=true) :
 blkN (kyN ks) c 0=rowN 1 (thrN boxN (fun j=>litB s (16*9+j))) 0 ^^^ litB l 160:=by
 show rowN 1 (thrN boxN (blkS (kyN ks) c 9)) 0 ^^^ kyN ks (16*10+0)=_
 rw [hk _ (by decide),rowN_S (thrN_S (blkS_lit hk h0 hs 9 (Nat.le_refl _)) boxN) 1 0 (by decide)]
def aKey:List Nat:=[64,130,75,144,161,247,146,159,206,246,21,132,253,58,241,31,193,35,139,196,96,212,25,91,174,34,12,223,83,24,253,192,110,119,49,41,14,163,40,114,160,129,36,173,243,153,217,109,132,66,13,36,138,225,37,86,42,96,1,251,217,249,216,150,21,35,157,17,159,194,184,71,181,162,185,188,108,91,97,42,60,204,120,65,163,14,192,6,22,172,121,186,122,247,24,144,116,97,24,155,215,111,216,157,193,195,161,39,187,52,185,183,44,55,177,113,251,88,105,236,58,155,200,203,129,175,113,124,213,148,161,125,46,204,200,145,20,87,0,90,149,248,113,38,143,55,86,87,161,251,158,198,181,172,158,156,32,84,239,186,153,232,162,224,56,19,60,38,141,191,162,186,173,235,77,0]
def aS0:List Nat:=[99,58,75,170,46,104,12,108,234,12,66,92,253,58,241,29,107,130,154,232,22,86,96,20,195,32,134,222,212,4,16,214,234,75,118,170,19,79,225,235,179,121,134,122,155,129,30,76,107,51,253,36,111,209,229,86,53,180,48,177,29,89,225,78,130,3,165,244,150,78,44,189,33,244,132,251,112,218,236,76,29,73,129,86,51,13,178,185,114,143,81,3,43,204,193,119,97,237,214,155,22,115,80,177,198,87,72,12,67,145,144,69,95,69,199,90,236,29,137,54,239,255,73,240,231,20,129,179,241,40,11,114,33,132,209,165,103,51,189,22,63,206,81,75,254,21,146,247,143,179,217,72,15,95,204,164,239,76,27,161]
def aS1:List Nat:=[99,58,75,170,46,104,12,108,234,12,66,93,253,58,241,29,107,130,154,232,22,86,96,20,195,32,134,222,210,2,26,218,75,234,142,243,123,247,49,131,39,104,3,255,122,124,227,80,105,255,213,95,27,116,116,123,108,75,192,126,53,114,42,143,152,67,12,207,62,235,63,126,247,86,204,77,0,191,208,242,82,23,193,32,238,223,166,5,211,62,240,9,4,220,181,135,86,222,188,167,40,235,49,247,143,81,12,165,106,80,240,108,219,6,254,14,43,6,107,85,36,137,154,184,99,195,241,172,36,177,180,67,47,59,33,210,77,23,106,118,218,48,175,248,157,153,69,111,227,132,167,68,92,126,188,90,8,172,217,6]
set_option maxRecDepth 100000 in
theorem aKey_ok:((List.range 16).all fun j=>litB nKe j == litB aKey j)=true∧((List.range 40).all fun n=>(List.range 4).all fun i=>kyT (litB aKey) (n+4) i == litB aKey (4*(n+4)+i))=true:=⟨by kernel_rfl,by kernel_rfl⟩
set_option maxRecDepth 100000 in
theorem aS0_ok:((List.range 16).all fun j=>(ctN (ncN (litB nNo) 0) 2 j ^^^ litB aKey j) == litB aS0 j)=true∧((List.range 9).all fun r=>(List.range 16).all fun j=>addN (litB aKey) (r+1) (colN mT (rowN 1 (thrN boxN (fun j=>litB aS0 (16*r+j))))) j == litB aS0 (16*(r+1)+j))=true∧rowN 1 (thrN boxN (fun j=>litB aS0 (16*9+j))) 0 ^^^ litB aKey 160=34:=⟨by kernel_rfl,by kernel_rfl,by kernel_rfl⟩
set_option maxRecDepth 100000 in
theorem aS1_ok:((List.range 16).all fun j=>(ctN (ncN (litB nNo) 1) 2 j ^^^ litB aKey j) == litB aS1 j)=true∧((List.range 9).all fun r=>(List.range 16).all fun j=>addN (litB aKey) (r+1) (colN mT (rowN 1 (thrN boxN (fun j=>litB aS1 (16*r+j))))) j == litB aS1 (16*(r+1)+j))=true∧rowN 1 (thrN boxN (fun j=>litB aS1 (16*9+j))) 0 ^^^ litB aKey 160=199:=⟨by kernel_rfl,by kernel_rfl,by kernel_rfl⟩
theorem ct_lit {ks nn:Nat→Nat} (hk:∀ j,j<16→ks j=litB nKe j) (hn:∀ j,j<12→nn j=litB nNo j):ctB ks (ncN nn 0) 2 0=34∧ctB ks (ncN nn 1) 2 0=199:=by
 have hky:∀ j,j<176→kyN ks j=litB aKey j:=kyS_lit (fun j hj=>(hk j hj).trans (all_at aKey_ok.1 j hj)) aKey_ok.2 40 (Nat.le_refl _)
 have hc:∀ k j,j<16→ctN (ncN nn k) 2 j=ctN (ncN (litB nNo) k) 2 j:=fun k j hj=>by
  unfold ctN
  by_cases h:j<12
  · rw [if_pos h,if_pos h];unfold ncN;rw [hn j h]
  · rw [if_neg h,if_neg h]
 refine ⟨?_,?_⟩
 · show blkN (kyN ks) _ 0=_
   rw [blk_lit hky (fun j hj=>by rw [hc 0 j hj];exact all_at aS0_ok.1 j hj) aS0_ok.2.1]
   exact aS0_ok.2.2
 · show blkN (kyN ks) _ 0=_
   rw [blk_lit hky (fun j hj=>by rw [hc 1 j hj];exact all_at aS1_ok.1 j hj) aS1_ok.2.1]
   exact aS1_ok.2.2
end Go.Proofs.YtcgkajlehdgpoaaGreatDoor
namespace Go.Proofs.YtcgkajlehdgpoaaGreatDoor
open Go.RowKit
theorem seal_own (v u m t:Value) (ml n:Nat) (ks nn M X:Nat→Nat) (hml:ml≤65536) (hn:n≤65536) (hks:∀ j,ks j<256) (hnn:∀ j,nn j<256) (hM:∀ j,M j<256) (hX:∀ j,X j<256) (w:World) (hv:BytesIn w v 16 ks) (hu:BytesIn w u 12 nn) (hm:BytesIn w m ml M) (ht:BytesIn w t n X) :
 Calls Tryz.prog 46 #[v,u,m,t] w fun e w'=>∃ g cap,e = .returned (.tuple #[.slice (some ⟨g,0,none⟩) (n+16) cap,.int .i64 0])∧w.heap.size≤g∧n+16≤cap∧RowAt .u8 w' g 0 (n+16) (slB ks nn ml M n X)∧Below w.heap.size w w' :=
 (seal_good v u m t ml n ks nn M X hml hn hks hnn hM hX w hv hu hm ht).mono fun _ _ ⟨s,he,ho,hb⟩=>by
  obtain ⟨g,cap,rfl,hg,-,hc,hr⟩:=ho.form.resolve_left (fun h=>by omega)
  exact ⟨g,cap,he,hg,hc,hr.congr (fun j hj=>(Nat.mod_eq_of_lt (slN_lt hks hnn hX ml n j hj)).symm),hb⟩
end Go.Proofs.YtcgkajlehdgpoaaGreatDoor
namespace Go.Proofs.YtcgkajlehdgpoaaGreatDoor
open Go.RowKit
theorem tgN_same (ks nn:Nat→Nat) (ml:Nat) (M:Nat→Nat) (n:Nat) {D F:Nat→Nat} (h:∀ j,j<n→D j=F j):tgN ks nn ml M n D=tgN ks nn ml M n F:=by
 have e:gpadN n D=gpadN n F:=funext fun j=>by
  unfold gpadN
  split
  · exact h j (by assumption)
  · rfl
 funext j
 unfold tgN auN
 rw [e]
theorem slB_low {ks nn X:Nat→Nat} (hks:∀ j,ks j<256) (hnn:∀ j,nn j<256) (hX:∀ j,X j<256) (ml:Nat) (M:Nat→Nat) (n j:Nat) (hj:j<n):slB ks nn ml M n X j=trN ks nn X j:=by
 unfold slB slN cat
 rw [if_pos hj,Nat.mod_eq_of_lt (trN_lt hks hnn hX j)]
theorem slB_tag {ks nn:Nat→Nat} (hks:∀ j,ks j<256) (hnn:∀ j,nn j<256) (X:Nat→Nat) (ml:Nat) (M:Nat→Nat) (n j:Nat) (hj:j<16):slB ks nn ml M n X (n+j)=tgN ks nn ml M n (trN ks nn X) j:=by
 unfold slB slN cat
 rw [if_neg (by omega),Nat.add_sub_cancel_left,Nat.mod_eq_of_lt (tgN_B hks hnn ml n j hj)]
theorem trN_back (ks nn:Nat→Nat) {X Y:Nat→Nat} (n:Nat) (h:∀ j,j<n→Y j=trN ks nn X j) (j:Nat) (hj:j<n):trN ks nn Y j=X j:=by
 unfold trN
 rw [h j hj]
 unfold trN
 rw [Nat.xor_assoc,Nat.xor_self,Nat.xor_zero]
theorem open_back (v u m t:Value) (ml n:Nat) (ks nn M X:Nat→Nat) (hml:ml≤65536) (hn:n≤65536) (hks:∀ j,ks j<256) (hnn:∀ j,nn j<256) (hM:∀ j,M j<256) (hX:∀ j,X j<256) (w:World) (hv:BytesIn w v 16 ks) (hu:BytesIn w u 12 nn) (hm:BytesIn w m ml M) (ht:BytesIn w t (n+16) (slB ks nn ml M n X)) :
 Calls Tryz.prog 47 #[v,u,m,t] w fun e w'=>∃ s,e = .returned (.tuple #[s,.int .i64 0])∧BytesIn w' s n X∧Below w.heap.size w w' :=
 (open_long v u m t ml n ks nn M (slB ks nn ml M n X) hml hn hks hnn hM (fun j=>Nat.mod_lt _ (by decide)) w hv hu hm ht).mono fun _ _ ⟨h,_,hb⟩=>by
  obtain ⟨s,he,ho⟩:=h fun j hj=>by
   rw [tgN_same ks nn ml M n (fun j hj=>slB_low hks hnn hX ml M n j hj)]
   exact (slB_tag hks hnn X ml M n j hj).symm
  exact ⟨s,he,(ho.congr (trN_back ks nn n (fun j hj=>slB_low hks hnn hX ml M n j hj))).bytesOf,hb⟩
end Go.Proofs.YtcgkajlehdgpoaaGreatDoor
