/- What the proof stands on: G9H, G9I, G9K, G9L. -/
import Derived.Test.YtibdhadbflfdpaaGreatDoorG9BM
import Derived.Test.YtibdhadbflfdpaaGreatDoorG9GM
import Derived.Test.YtibdhadbflfdpaaGreatDoorG9RUM
import Derived.Test.YtibdhadbflfdpaaGreatDoorZFM
namespace Go.Proofs.YtibdhadbflfdpaaGreatDoor
open Go.RowKit Go.Shelf
attribute [local go_sem] Oper.semAt_some
theorem Own.but {bad:Nat→Prop} {W W':World} {base g n c:Nat} {X:Nat→Nat} (h:Own base W (.slice (some ⟨g,0,none⟩) n c) n X) (hb:But bad W W') (hne:¬bad g):Own base W' (.slice (some ⟨g,0,none⟩) n c) n X:=by
 rcases h.2 with ⟨e,_⟩ | ⟨g',cap,cur,e,h1,h2,h3⟩
 · cases e
 · cases e
   exact ⟨h.1,.inr ⟨g,c,cur,rfl,h1,(hb.block g (Array.getElem?_eq_some_iff.1 h2).1 hne).trans h2,h3⟩⟩
theorem make_roomN (W:World) (n:Nat) (l:Int) (hl:l=(n:Int)) (hn:n≤1000000):(Instr.makeSlice 22 (.int .i64 0) (.int .i64 l)).run Tryz.prog W = .ok (.slice (some ⟨W.heap.size,0,none⟩) 0 n) (W.alloc (.cells (zb n) 5)):=by
 subst hl
 obtain ⟨i0,hi,hz0,hz1,hz2⟩:=info_parts (show (Tryz.prog.info? 5).map (fun i=>(i.zero,i.size,i.bytes))=some (some (.int .u8 0),1,1) by kernel_rfl)
 have:=run_makeSlice (P:=Tryz.prog) W 22 5 i0 (.int .u8 0) Tryz.underlying22 hi hz0 .i64 .i64 0 n (Int.le_refl _) (by omega) (by rw [hz1];simp;omega) (by rw [hz2];omega) (by omega)
 rw [this,hz1]
 simp only [Int.toNat_natCast,Int.toNat_zero,made_zb]
theorem Own.madeN (base:Nat) (W:World) (c:Nat) (X:Nat→Nat) (hb:base≤W.heap.size) (hc:c<1000000):Own base (W.alloc (.cells (zb c) 5)) (.slice (some ⟨W.heap.size,0,none⟩) 0 c) 0 X :=
 ⟨rfl,.inr ⟨W.heap.size,c,zb c,rfl,hb,World.alloc_heap_new _ _,Nat.zero_le _,by unfold maxLen;omega,by simp [zb],by simp [ints]⟩⟩
theorem RowAt.toRW {K:IntKind} {w:World} {g o n:Nat} {X:Nat→Nat} (h:RowAt K w g o n X) (hn:0<n):RW w g o (ints K n X):=⟨h.range,by rw [ints_len];exact h.there,block_lt_of_cell (h 0 hn).1⟩
structure CInv (w:World) (l D:Nat) (rec:Loop) (ks nn T:Nat→Nat) (n N:Nat) (tv:Value) (k:Nat) (W:World):Prop where
 lp:W.heap[l]? = some (.loop rec)
 dfr:W.heap[D]? = some (.deferred (some []))
 lock:RW W w.heap.size 0 (ints .u8 32 (lkN ks nn))
 txt:RW W (w.heap.size+1) 0 [tv]
 own:Own w.heap.size W (.slice (some ⟨w.heap.size+1+1,0,none⟩) (min n (16*k)) N) (min n (16*k)) T
 out:RW W (w.heap.size+1+1+1) 0 [.slice (some ⟨w.heap.size+1+1,0,none⟩) (min n (16*k)) N]
 num:RW W (w.heap.size+1+1+1+1) 0 [.int .u32 ((2+k:Nat):Int)]
 lst:W.cell? ⟨w.heap.size+1+1+1+1+1,0,none⟩=some tv
 box:W.cell? ⟨w.heap.size+1+1+1+1+1+1,0,none⟩=some (.slice (some ⟨w.heap.size+1+1+1+1+1,0,none⟩) 1 1)
 bel:Below w.heap.size w W
theorem CInv.below {w:World} {l D:Nat} {rec:Loop} {ks nn T:Nat→Nat} {n N:Nat} {tv:Value} {k:Nat} {W W':World} (H:CInv w l D rec ks nn T n N tv k W) (hb:Below W.heap.size W W'):CInv w l D rec ks nn T n N tv k W' :=
 ⟨(hb.block l (Array.getElem?_eq_some_iff.1 H.lp).1).trans H.lp,(hb.block D (Array.getElem?_eq_some_iff.1 H.dfr).1).trans H.dfr,H.lock.still hb,H.txt.still hb,H.own.below hb,H.out.still hb,H.num.still hb,(hb.cell (block_lt_of_cell H.lst)).trans H.lst,(hb.cell (block_lt_of_cell H.box)).trans H.box,below_next H.bel hb⟩
theorem cross_start (w:World) (L:Nat→Nat) (tv:Value) (N:Nat) (hN:N<1000000) (T:Nat→Nat) (w2:World)
 (hw:w2=((((((w.alloc (.cells (ints .u8 32 L).toArray 224)).alloc (.cells #[tv] 22)).alloc (.cells (zb N) 5)).alloc (.cells #[.slice (some ⟨w.heap.size+1+1,0,none⟩) 0 N] 22)).alloc (.cells #[.int .u32 2] 150)).alloc (.cells #[tv] 22)).alloc (.cells #[.slice (some ⟨w.heap.size+1+1+1+1+1,0,none⟩) 1 1] 84)) :
 w2.heap.size=w.heap.size+7∧Below w.heap.size w w2∧RW w2 w.heap.size 0 (ints .u8 32 L)∧RW w2 (w.heap.size+1) 0 [tv]∧Own w.heap.size w2 (.slice (some ⟨w.heap.size+1+1,0,none⟩) 0 N) 0 T∧RW w2 (w.heap.size+1+1+1) 0 [.slice (some ⟨w.heap.size+1+1,0,none⟩) 0 N]∧RW w2 (w.heap.size+1+1+1+1) 0 [.int .u32 2] ∧
  w2.cell? ⟨w.heap.size+1+1+1+1+1,0,none⟩=some tv∧w2.cell? ⟨w.heap.size+1+1+1+1+1+1,0,none⟩=some (.slice (some ⟨w.heap.size+1+1+1+1+1,0,none⟩) 1 1):=by
 have al:∀ (W:World) (o:Obj),Below W.heap.size W (W.alloc o):=fun W o=>(Below.refl _ _).alloc (Nat.le_refl _) _
 obtain ⟨a1,e1⟩:∃ a,a=w.alloc (.cells (ints .u8 32 L).toArray 224):=⟨_,rfl⟩
 obtain ⟨a2,e2⟩:∃ a,a=a1.alloc (.cells #[tv] 22):=⟨_,rfl⟩
 obtain ⟨a3,e3⟩:∃ a,a=a2.alloc (.cells (zb N) 5):=⟨_,rfl⟩
 obtain ⟨a4,e4⟩:∃ a,a=a3.alloc (.cells #[.slice (some ⟨w.heap.size+1+1,0,none⟩) 0 N] 22):=⟨_,rfl⟩
 obtain ⟨a5,e5⟩:∃ a,a=a4.alloc (.cells #[.int .u32 2] 150):=⟨_,rfl⟩
 obtain ⟨a6,e6⟩:∃ a,a=a5.alloc (.cells #[tv] 22):=⟨_,rfl⟩
 rw [←e1,←e2,←e3,←e4,←e5,←e6] at hw
 have s1:a1.heap.size=w.heap.size+1:=by rw [e1];simp
 have s2:a2.heap.size=w.heap.size+1+1:=by rw [e2,World.size_alloc,s1]
 have s3:a3.heap.size=w.heap.size+1+1+1:=by rw [e3,World.size_alloc,s2]
 have s4:a4.heap.size=w.heap.size+1+1+1+1:=by rw [e4,World.size_alloc,s3]
 have s5:a5.heap.size=w.heap.size+1+1+1+1+1:=by rw [e5,World.size_alloc,s4]
 have s6:a6.heap.size=w.heap.size+1+1+1+1+1+1:=by rw [e6,World.size_alloc,s5]
 have t6:Below a6.heap.size a6 w2:=by rw [hw];exact al _ _
 have t5:Below a5.heap.size a5 w2:=below_next (by rw [e6];exact al _ _) t6
 have t4:Below a4.heap.size a4 w2:=below_next (by rw [e5];exact al _ _) t5
 have t3:Below a3.heap.size a3 w2:=below_next (by rw [e4];exact al _ _) t4
 have t2:Below a2.heap.size a2 w2:=below_next (by rw [e3];exact al _ _) t3
 have t1:Below a1.heap.size a1 w2:=below_next (by rw [e2];exact al _ _) t2
 have t0:Below w.heap.size w w2:=below_next (by rw [e1];exact al _ _) t1
 have r0:RW a1 w.heap.size 0 (ints .u8 32 L):=by rw [e1];exact RW.fresh _ _ _
 have r1:RW a2 a1.heap.size 0 [tv]:=by rw [e2];exact RW.fresh _ [tv] _
 have r2:Own w.heap.size a3 (.slice (some ⟨a2.heap.size,0,none⟩) 0 N) 0 T:=by rw [e3];exact Own.madeN _ _ _ _ (by omega) hN
 have r3:RW a4 a3.heap.size 0 [.slice (some ⟨w.heap.size+1+1,0,none⟩) 0 N]:=by rw [e4];exact RW.fresh _ [_] _
 have r4:RW a5 a4.heap.size 0 [.int .u32 2]:=by rw [e5];exact RW.fresh _ [_] _
 have r5:RW a6 a5.heap.size 0 [tv]:=by rw [e6];exact RW.fresh _ [tv] _
 have r6:RW w2 a6.heap.size 0 [.slice (some ⟨w.heap.size+1+1+1+1+1,0,none⟩) 1 1]:=by rw [hw];exact RW.fresh _ [_] _
 rw [s1] at r1
 rw [s2] at r2
 rw [s3] at r3
 rw [s4] at r4
 rw [s5] at r5
 rw [s6] at r6
 refine ⟨by rw [hw,World.size_alloc,s6],t0,r0.still t1,r1.still t2,r2.below t3,r3.still t4,r4.still t5,(r5.still t6).range 0 _ rfl,r6.range 0 _ rfl⟩
theorem RW.one {w:World} {g:Nat} {v:Value} (r:RW w g 0 [v]):w.cell? ⟨g,0,none⟩=some v∧w.frozen? ⟨g,0,none⟩=false:=⟨r.range 0 v rfl,(r.there 0 (Nat.zero_lt_succ _)).2⟩
theorem cross_bytes {ks nn X:Nat→Nat} (hks:∀ j,ks j<256) (hnn:∀ j,nn j<256) (hX:∀ j,X j<256) (n k j:Nat) (hj:j<16) (hl:16*k+j<n):byV (blkT n X k ^^^ toV (ctB ks nn (2+k))) j=trN ks nn X (16*k+j):=by
 unfold blkT
 rw [←toV_xor]
 rw [byV_toV (fun i hi=>xor_byte (padN_lt hX _) (ctB_B hks hnn _ i hi)) j hj]
 unfold trN gpadN
 dsimp only
 rw [if_pos hl,show (16*k+j) / 16=k by omega,show (16*k+j)%16=j by omega]
theorem but_of_below {bad:Nat→Prop} {W W':World} (h:Below W.heap.size W W'):But bad W W':=⟨h.os,h.tape,h.output,h.size,fun k hk _=>h.block k hk⟩
set_option maxRecDepth 100000 in
set_option maxHeartbeats 4000000 in
theorem crossed_in (d:Nat) (ks nn X:Nat→Nat) (n:Nat) (hn:n<200000) (hks:∀ j,ks j<256) (hnn:∀ j,nn j<256) (hX:∀ j,X j<256) (v:Value) (w:World) (hv:BytesIn w v n X) :
 CallsIn Fence.wide d Tryz.prog 198 #[lkV ks nn,v] w fun e w'=>∃ g,e = .returned (.slice (some ⟨g,0,none⟩) n (n+16))∧Own w.heap.size w' (.slice (some ⟨g,0,none⟩) n (n+16)) n (trN ks nn X)∧Below w.heap.size w w':=by
 obtain ⟨xv,cv,rfl,-,-,-⟩:=hv.src
 have hmk:=fun W=>make_roomN W (n+16) ((n+16:Nat):Int) rfl (by omega)
 have cb:=fun xo n c W=>blocks_any xo n c W
 have e1:IntKind.i64.wrap ((n:Int)+16)=((n+16:Nat):Int):=by simp only [IntKind.wrap_i64];omega
 have e2:(n:Int)+16=((n+16:Nat):Int):=by omega
 generalize hN:n+16=N at *
 refine callsIn_of_wp_marks Tryz.func198 rfl trivial ?_ rfl
 simp only [Tryz.ntmps198,List.size_toArray,List.length_cons,List.length_nil,Nat.reduceAdd,Nat.reduceSub,Array.replicate_succ,Array.replicate_zero,List.push_toArray,List.append_toArray,List.nil_append,List.cons_append]
 unfold lkV
 gi_wp2_with (first
  | rw [hmk]
  | (refine ⟨trivial,(fun h=>by cases h),?_⟩;gi_at_call 231;refine (callsIn_wide.2 (cb _ _ _ _)).mono ?_;clear cb;rintro e w2 ⟨rfl,hw2⟩))
 obtain ⟨T,hT⟩:∃ T,T=trN ks nn X:=⟨_,rfl⟩
 have hN2:N<1000000:=by omega
 obtain ⟨hs2,hb2,q0,q1,q2,q3,q4,q5,q6⟩:=cross_start w (lkN ks nn) (.slice xv n cv) N hN2 T w2 hw2
 rw [←hw2]
 have HN:=Hid.mk' hN
 clear hw2 hmk e1 e2 hN2 hN
 refine wpIn_range_with rfl (fun _=>trivial) (fun h=>by cases h) rfl (enters_of Tryz.func259 (by kernel_rfl) rfl) (fun q0' e1 e2 e4 e5 e6 e7 => ?_)
 obtain ⟨W1,hW1⟩:∃ W1,W1=(w2.alloc (.deferred (some []))).alloc (.loop q0'):=⟨_,rfl⟩
 obtain ⟨l,hl⟩:∃ l,l=w2.heap.size+1:=⟨_,rfl⟩
 have hbl1:Below w2.heap.size w2 W1:=by rw [hW1];exact ((Below.refl _ _).alloc (Nat.le_refl _) _).alloc (by simp) _
 have hl1:W1.heap[l]? = some (.loop q0'):=by
  rw [hW1,hl];have:=World.alloc_heap_new (w2.alloc (.deferred (some []))) (.loop q0');rwa [World.size_alloc] at this
 have hD1:W1.heap[w2.heap.size]? = some (.deferred (some [])):=by
  rw [hW1];exact (Below.heap_alloc _ _ _ (by simp)).trans (World.alloc_heap_new w2 _)
 rw [←hW1,←hl]
 obtain ⟨D,hD⟩:∃ D,D=w2.heap.size:=⟨_,rfl⟩
 have hDl:D<l:=by omega
 rw [←hD] at hD1 ⊢
 have hDc:D=w.heap.size+7:=by omega
 clear hW1 hl
 have hI0:CInv w l D q0' ks nn T n N (.slice xv n cv) 0 W1:=⟨hl1,hD1,q0.still hbl1,q1.still hbl1,by rw [Nat.mul_zero,Nat.min_zero];exact q2.below hbl1,by rw [Nat.mul_zero,Nat.min_zero];exact q3.still hbl1,q4.still hbl1,(hbl1.cell (block_lt_of_cell q5)).trans q5,(hbl1.cell (block_lt_of_cell q6)).trans q6,hb2.trans (hbl1.mono hb2.size)⟩
 have hY:∀ k V,16*k<n→CInv w l D q0' ks nn T n N (.slice xv n cv) k V→YieldAt Fence.wide (d - 1 - 1) Tryz.prog l #[blV (blkT n X k)] V fun e W'=>e = .returned (.bool true)∧CInv w l D q0' ks nn T n N (.slice xv n cv) (k+1) W':=by
  intro k V hk hI
  obtain ⟨A,hA⟩:∃ A,A=16*k:=⟨_,rfl⟩
  obtain ⟨m,hm,hmc⟩:∃ m,(m=16∧A+16≤n∨A+m=n∧m<16)∧m≤16:=by
   by_cases h:A+16≤n
   · exact ⟨16,.inl ⟨rfl,h⟩,Nat.le_refl _⟩
   · exact ⟨n - A,.inr ⟨by omega,by omega⟩,by omega⟩
  have hA1:min n (16*k)=A:=by omega
  have hA2:min n (16*(k+1))=A+m:=by omega
  refine yield_round hI.lp (by rw [e5];rfl) ?_
  rw [e4,e5,e6,e7]
  have ca:=fun W=>blockAt_any ks nn (2+k) hks hnn W
  have cp:=fun W=>gplus_any (blkT n X k) (toV (ctB ks nn (2+k))) W
  have cy:=fun W=>gbytes_any (blkT n X k ^^^ toV (ctB ks nn (2+k))) W
  have hby:∀ j,j<m→byV (blkT n X k ^^^ toV (ctB ks nn (2+k))) j=T (A+j):=fun j hj=>by rw [hT,hA];exact cross_bytes hks hnn hX n k j (by omega) (by omega)
  unfold blV at *
  generalize toV (ctB ks nn (2+k))=c at *
  generalize blkT n X k=b at *
  generalize (b ^^^ c)=bc at *
  obtain ⟨x0,hx0⟩:∃ x,x=wd b 0:=⟨_,rfl⟩
  obtain ⟨x1,hx1⟩:∃ x,x=wd b 64:=⟨_,rfl⟩
  rw [←hx0,←hx1] at cp ⊢
  generalize wd c 0=c0 at *
  generalize wd c 64=c1 at *
  generalize wd bc 0=p0 at *
  generalize wd bc 64=p1 at *
  obtain ⟨V1,hV1⟩:∃ V1,V1=V.alloc (.cells #[.int .u64 x0,.int .u64 x1] 228):=⟨_,rfl⟩
  have rB:RW V1 V.heap.size 0 (b2 x0 x1):=by rw [hV1];exact RW.fresh _ _ _
  have bV1:Below V.heap.size V V1:=by rw [hV1];exact (Below.refl _ _).alloc (Nat.le_refl _) _
  have hI1:=hI.below bV1
  obtain ⟨V2,hV2⟩:∃ V2,V2=V1.putObj l (.loop { q0' with state := .busy }):=⟨_,rfl⟩
  have hbV:But (fun k=>k=l) V1 V2:=by rw [hV2];exact but_put _ _ _
  have hlV:V2.heap[l]? = some (.loop { q0' with state := .busy }):=by rw [hV2];exact World.putObj_heap_same (Array.getElem?_eq_some_iff.1 hI1.lp).1
  have hDV:V2.heap[D]? = some (.deferred (some [])):=(hbV.block _ (Array.getElem?_eq_some_iff.1 hI1.dfr).1 (by omega)).trans hI1.dfr
  have hlb:l<V.heap.size:=(Array.getElem?_eq_some_iff.1 hI.lp).1
  have hbeg:(Instr.beginRound l).run Tryz.prog V1 = .ok () V2:=by rw [hV2];exact run_beginRound hI1.lp e1
  replace rB:=rB.but hbV (by omega)
  have rL:=hI1.lock.but hbV (by omega)
  have rX:=hI1.txt.but hbV (by omega)
  have rW:=hI1.own.but hbV (by omega)
  have rO:=hI1.out.but hbV (by omega)
  have rN:=hI1.num.but hbV (by omega)
  have rP:=hbV.cell hI1.lst (by omega)
  have rQ:=hbV.cell hI1.box (by omega)
  have hBV:Below w.heap.size w V2:=hI1.bel.trans (hbV.below hI1.bel.size (by omega))
  rw [hA1] at rW rO
  have hAm:A+m≤N:=by have:=HN.out;omega
  have hfin:∀ V6:World,But (fun q=>q=w.heap.size+1+1∨q=w.heap.size+1+1+1∨q=w.heap.size+1+1+1+1) V2 V6→Own w.heap.size V6 (.slice (some ⟨w.heap.size+1+1,0,none⟩) (A+m) N) (A+m) T→RW V6 (w.heap.size+1+1+1) 0 [.slice (some ⟨w.heap.size+1+1,0,none⟩) (A+m) N]→RW V6 (w.heap.size+1+1+1+1) 0 [.int .u32 ((2+(k+1):Nat):Int)] →
   ∃ v W',(Instr.endRound l none).run Tryz.prog V6 = .ok v W'∧(Ending.returned v = .returned (.bool true)∧CInv w l D q0' ks nn T n N (.slice xv n cv) (k+1) W'):=by
   intro V6 hb3 o6 r6 n6
   have hl3:V6.heap[l]? = some (.loop { q0' with state := .busy }):=(hb3.block l (Array.getElem?_eq_some_iff.1 hlV).1 (by omega)).trans hlV
   have hrec:({ { q0' with state := .busy } with state := .ready,pending:=none }:Loop)=q0':=loop_back q0' e1 e2
   have hb5:=but_put V6 l (.loop q0')
   refine ⟨_,_,run_endRound none hl3,rfl,?_⟩
   simp only [Option.isNone_none,if_true,hrec]
   have hD3:=(hb3.block D (Array.getElem?_eq_some_iff.1 hDV).1 (by omega)).trans hDV
   exact ⟨World.putObj_heap_same (Array.getElem?_eq_some_iff.1 hl3).1,(hb5.block D (Array.getElem?_eq_some_iff.1 hD3).1 (by omega)).trans hD3,(rL.but hb3 (by omega)).but hb5 (by omega),(rX.but hb3 (by omega)).but hb5 (by omega),by rw [hA2];exact o6.but hb5 (by omega),by rw [hA2];exact r6.but hb5 (by omega),n6.but hb5 (by omega),hb5.cell (hb3.cell rP (by omega)) (by omega),hb5.cell (hb3.cell rQ (by omega)) (by omega),(hBV.trans (hb3.below hBV.size (by omega))).trans (hb5.below (Nat.le_trans hBV.size hb3.size) (by omega))⟩
  have hk32:IntKind.u32.wrap (((2+k:Nat):Int)+1)=((2+(k+1):Nat):Int):=by
   show (((2+k:Nat):Int)+1)%4294967296=_
   omega
  have HV1:=Hid.mk' hV1
  obtain ⟨u0,-⟩:=rX.one
  obtain ⟨u1,-⟩:=rO.one
  have hiL:=infoL (lkN ks nn)
  have hlO:w.heap.size+1+1+1<V.heap.size:=by have:=hI.out.lt;omega
  clear hV1 hV2 hx0 hx1 e1 e2 e4 e5 e6 e7 hI0 hbV hBV hDV hlV hI1 hI bV1 hD hDc hDl rX rP rQ hT hA2 hA1 q0 q1 q2 q3 q4 q5 q6 hA hk hs2
  obtain ⟨z,hz⟩:∃ z,z=2+k:=⟨_,rfl⟩
  obtain ⟨z1,hz1⟩:∃ z,z=2+(k+1):=⟨_,rfl⟩
  rw [←hz] at hk32 rN ca
  rw [←hz1] at hk32 hfin
  clear hz hz1
  rcases hm with ⟨rfl,hm⟩ | ⟨hm,hm16⟩
  · have v1:IntKind.i64.wrap ((n:Int) - (A:Int))=(n:Int) - (A:Int):=by simp only [IntKind.wrap_i64];omega
    have v2:(16:Int)≤(n:Int) - (A:Int):=by omega
    gi_wp2
    rw [←HV1.out]
    refine ⟨V2,hbeg,?_⟩
    gi_wp2
    have hdr:Below V2.heap.size V2 V2.drew:=(Below.refl _ _).drew
    have bdr:But (fun q=>q=w.heap.size+1+1) V2 V2.drew:=⟨rfl,rfl,rfl,Nat.le_refl _,fun _ _ _=>rfl⟩
    replace rB:=rB.still hdr
    replace rL:=rL.still hdr
    replace rO:=rO.still hdr
    replace rN:=rN.still hdr
    replace rW:=rW.below hdr
    refine wpIn_last 10 (S:=fun u=>But (fun q=>q=w.heap.size+1+1) V2.drew u) (by kernel_rfl) (by kernel_rfl) (by kernel_rfl) (by kernel_rfl) (by kernel_rfl) (But.refl _ _) (fun hS => ?_)
    generalize V2.drew=V3 at *
    refine tlS 1 (fun u hu=>rB.but hu (by omega)) hS 228 Tryz.underlying228 info2 ?_
    (try simp only [pS])
    refine tlS 2 (fun u hu=>rL.but hu (by omega)) hS 224 Tryz.underlying224 hiL ?_
    (try simp only [pS])
    refine tc 0 hS (fun u hu=>(rO.but hu (by omega)).one.1) ?_
    (try simp only [pS])
    refine tc 3 hS (fun u hu=>(rN.but hu (by omega)).one.1) ?_
    (try simp only [pS])
    refine tg 7 hS ?_
    (try simp only [pS])
    refine cl 4 (ca _) ?_
    rintro e V4 ⟨rfl,hb4⟩
    refine ⟨_,rfl,but_of_below hb4,?_⟩
    (try simp only [pS])
    refine cl 5 (cp _) ?_
    rintro e V5 ⟨rfl,hb5⟩
    replace hb5:=below_next hb4 hb5
    refine ⟨_,rfl,but_of_below hb5,?_⟩
    (try simp only [pS])
    refine cl 6 (cy _) ?_
    rintro e V6 ⟨gy,rfl,hgy,ry,hb6⟩
    have hg6:V3.heap.size≤gy:=Nat.le_trans hb5.size hgy
    replace hb6:=below_next hb5 hb6
    refine ⟨_,rfl,but_of_below hb6,?_⟩
    (try simp only [pS])
    refine tg 8 (but_of_below hb6) ?_
    (try simp only [pS])
    refine ao 9 23 31 w.heap.size (w.heap.size+1+1) A N T (rW.below hb6) gy 16 16 (fun j=>T (A+j)) (fun j hj=>by
     have:=(ry j (by omega)).1
     rw [Nat.zero_add,hby j hj] at this
     exact this) hAm ?_
    intro V7 own7 bt7
    have ot7:But (fun q=>q=w.heap.size+1+1) V3 V7:=(but_of_below hb6).trans bt7
    refine ⟨ot7,?_⟩
    (try simp only [pS])
    replace own7:=own7.congr (Y:=T) (fun j _=>by
     unfold cat
     by_cases h:j<A
     · rw [if_pos h]
     · rw [if_neg h]
       dsimp only
       rw [show A+(j - A)=j by omega])
    replace rO:=rO.but ot7 (by omega)
    replace rN:=rN.but ot7 (by omega)
    obtain ⟨y0,y1⟩:=rO.one
    refine wpAnyH_done (by kernel_rfl) ?_ _
    refine lastRun 10 (w':=V7.setCell ⟨w.heap.size+1+1+1,0,none⟩ (.slice (some ⟨w.heap.size+1+1,0,none⟩) (A+16) N)) ?_
    refine OnlyN.normal ?_
    dsimp only [Act.put]
    have r8:=rO.stored [.slice (some ⟨w.heap.size+1+1,0,none⟩) (A+16) N] rfl
    have bt8:But (fun q=>q=w.heap.size+1+1+1) V7 (V7.setCells (w.heap.size+1+1+1) 0 [.slice (some ⟨w.heap.size+1+1,0,none⟩) (A+16) N]):=(Out.setCells (o:=0) (n:=1) _ _ (Nat.le_refl _) (Nat.le_refl _)).but
    have n8:=rN.but bt8 (by omega)
    have own8:=own7.but bt8 (by omega)
    obtain ⟨V8,hV8⟩:∃ V8,V8=V7.setCells (w.heap.size+1+1+1) 0 [.slice (some ⟨w.heap.size+1+1,0,none⟩) (A+16) N]:=⟨_,rfl⟩
    rw [←hV8] at r8 bt8 n8 own8
    rw [show V7.setCell ⟨w.heap.size+1+1+1,0,none⟩ (.slice (some ⟨w.heap.size+1+1,0,none⟩) (A+16) N)=V8 from hV8.symm]
    have bt9:But (fun q=>q=w.heap.size+1+1+1+1) V8 (V8.setCells (w.heap.size+1+1+1+1) 0 [.int .u32 (z1:Int)]):=(Out.setCells (o:=0) (n:=1) _ _ (Nat.le_refl _) (Nat.le_refl _)).but
    have n9:=n8.stored [.int .u32 (z1:Int)] rfl
    obtain ⟨y2,y3⟩:=n8.one
    have hf:=hfin (V8.setCells (w.heap.size+1+1+1+1) 0 [.int .u32 (z1:Int)]) ((((bdr.trans ot7).mono (fun q h => .inl h)).trans (bt8.mono (fun q h => .inr (.inl h)))).trans (bt9.mono (fun q h => .inr (.inr h)))) (own8.but bt9 (by omega)) (r8.but bt9 (by omega)) n9
    clear hfin hV8 bt9 n9 own8 r8 n8 bt8 bt7 ot7 own7 rO rN y0 y1 ca cp cy hby rB rL rW hb4 hb5 hb6 ry
    gi_wp2
    exact hf
  · have v1:IntKind.i64.wrap ((n:Int) - (A:Int))=(m:Int):=by simp only [IntKind.wrap_i64];omega
    have v3:(n:Int) - (A:Int)=(m:Int):=by omega
    have v2:¬(16:Int)≤(m:Int):=by omega
    have v4:(m:Int)<16:=by omega
    have v5:(0:Int)≤(m:Int):=by omega
    have v6:(m:Int)≤16:=by omega
    clear hm hm16
    gi_wp2
    rw [←HV1.out]
    refine ⟨V2,hbeg,?_⟩
    gi_wp2
    have hdr:Below V2.heap.size V2 V2.drew:=(Below.refl _ _).drew
    have bdr:But (fun q=>q=w.heap.size+1+1) V2 V2.drew:=⟨rfl,rfl,rfl,Nat.le_refl _,fun _ _ _=>rfl⟩
    replace rB:=rB.still hdr
    replace rL:=rL.still hdr
    replace rO:=rO.still hdr
    replace rN:=rN.still hdr
    replace rW:=rW.below hdr
    refine wpIn_last 10 (S:=fun u=>But (fun q=>q=w.heap.size+1+1) V2.drew u) (by kernel_rfl) (by kernel_rfl) (by kernel_rfl) (by kernel_rfl) (by kernel_rfl) (But.refl _ _) (fun hS => ?_)
    generalize V2.drew=V3 at *
    refine tlS 1 (fun u hu=>rB.but hu (by omega)) hS 228 Tryz.underlying228 info2 ?_
    (try simp only [pS])
    refine tlS 2 (fun u hu=>rL.but hu (by omega)) hS 224 Tryz.underlying224 hiL ?_
    (try simp only [pS])
    refine tc 0 hS (fun u hu=>(rO.but hu (by omega)).one.1) ?_
    (try simp only [pS])
    refine tc 3 hS (fun u hu=>(rN.but hu (by omega)).one.1) ?_
    (try simp only [pS])
    refine tg 7 hS ?_
    (try simp only [pS])
    refine cl 4 (ca _) ?_
    rintro e V4 ⟨rfl,hb4⟩
    refine ⟨_,rfl,but_of_below hb4,?_⟩
    (try simp only [pS])
    refine cl 5 (cp _) ?_
    rintro e V5 ⟨rfl,hb5⟩
    replace hb5:=below_next hb4 hb5
    refine ⟨_,rfl,but_of_below hb5,?_⟩
    (try simp only [pS])
    refine cl 6 (cy _) ?_
    rintro e V6 ⟨gy,rfl,hgy,ry,hb6⟩
    have hg6:V3.heap.size≤gy:=Nat.le_trans hb5.size hgy
    replace hb6:=below_next hb5 hb6
    refine ⟨_,rfl,but_of_below hb6,?_⟩
    (try simp only [pS])
    refine tg 8 (but_of_below hb6) ?_
    (try simp only [pS])
    refine ao 9 23 31 w.heap.size (w.heap.size+1+1) A N T (rW.below hb6) gy m 16 (fun j=>T (A+j)) (fun j hj=>by
     have:=(ry j (by omega)).1
     rw [Nat.zero_add,hby j hj] at this
     exact this) hAm ?_
    intro V7 own7 bt7
    have ot7:But (fun q=>q=w.heap.size+1+1) V3 V7:=(but_of_below hb6).trans bt7
    refine ⟨ot7,?_⟩
    (try simp only [pS])
    replace own7:=own7.congr (Y:=T) (fun j _=>by
     unfold cat
     by_cases h:j<A
     · rw [if_pos h]
     · rw [if_neg h]
       dsimp only
       rw [show A+(j - A)=j by omega])
    replace rO:=rO.but ot7 (by omega)
    replace rN:=rN.but ot7 (by omega)
    obtain ⟨y0,y1⟩:=rO.one
    refine wpAnyH_done (by kernel_rfl) ?_ _
    refine lastRun 10 (w':=V7.setCell ⟨w.heap.size+1+1+1,0,none⟩ (.slice (some ⟨w.heap.size+1+1,0,none⟩) (A+m) N)) ?_
    refine OnlyN.normal ?_
    dsimp only [Act.put]
    have r8:=rO.stored [.slice (some ⟨w.heap.size+1+1,0,none⟩) (A+m) N] rfl
    have bt8:But (fun q=>q=w.heap.size+1+1+1) V7 (V7.setCells (w.heap.size+1+1+1) 0 [.slice (some ⟨w.heap.size+1+1,0,none⟩) (A+m) N]):=(Out.setCells (o:=0) (n:=1) _ _ (Nat.le_refl _) (Nat.le_refl _)).but
    have n8:=rN.but bt8 (by omega)
    have own8:=own7.but bt8 (by omega)
    obtain ⟨V8,hV8⟩:∃ V8,V8=V7.setCells (w.heap.size+1+1+1) 0 [.slice (some ⟨w.heap.size+1+1,0,none⟩) (A+m) N]:=⟨_,rfl⟩
    rw [←hV8] at r8 bt8 n8 own8
    rw [show V7.setCell ⟨w.heap.size+1+1+1,0,none⟩ (.slice (some ⟨w.heap.size+1+1,0,none⟩) (A+m) N)=V8 from hV8.symm]
    have bt9:But (fun q=>q=w.heap.size+1+1+1+1) V8 (V8.setCells (w.heap.size+1+1+1+1) 0 [.int .u32 (z1:Int)]):=(Out.setCells (o:=0) (n:=1) _ _ (Nat.le_refl _) (Nat.le_refl _)).but
    have n9:=n8.stored [.int .u32 (z1:Int)] rfl
    obtain ⟨y2,y3⟩:=n8.one
    have hf:=hfin (V8.setCells (w.heap.size+1+1+1+1) 0 [.int .u32 (z1:Int)]) ((((bdr.trans ot7).mono (fun q h => .inl h)).trans (bt8.mono (fun q h => .inr (.inl h)))).trans (bt9.mono (fun q h => .inr (.inr h)))) (own8.but bt9 (by omega)) (r8.but bt9 (by omega)) n9
    clear hfin hV8 bt9 n9 own8 r8 n8 bt8 bt7 ot7 own7 rO rN y0 y1 ca cp cy hby rB rL rW hb4 hb5 hb6 ry
    gi_wp2
    exact hf
 have hmin:min n (16*nb n)=n:=by unfold nb;omega
 refine (giter_in (d - 1) l (w.heap.size+1+1+1+1+1+1) (w.heap.size+1+1+1+1+1) 1 (fun _=>n) (fun _=>X) (fun _=>hX) (fun _ => .slice xv n cv) (fun i k W=>CInv w l D q0' ks nn T n N (.slice xv n cv) (if i=0 then k else nb n) W) (fun i k W H=>H.box) (fun i k W H j hj=>by
  obtain rfl:j=0:=by omega
  exact H.lst) (fun i k W H j hj=>hv.keep H.bel) (fun _=>by omega) (by decide) (fun i k W W' H hb=>H.below hb) (fun i W H=>by
   rw [show (if i=0 then nb n else nb n)=nb n by split <;> rfl] at H
   rw [if_neg (by omega)]
   exact H) (fun i k V hi hk H=>by
    obtain rfl:i=0:=by omega
    rw [if_pos rfl] at H ⊢
    exact hY k V hk H) W1 hI0).mono ?_
 rintro e W2 ⟨⟨v,rfl⟩,hG⟩
 rw [if_neg (by decide)] at hG
 obtain ⟨V,hV⟩:∃ V,V=W2.putObj l (.loop { q0' with state := .exhausted }):=⟨_,rfl⟩
 have hbV:But (fun k=>k=l) W2 V:=by rw [hV];exact but_put _ _ _
 have hDV:V.heap[D]? = some (.deferred (some [])):=(hbV.block _ (Array.getElem?_eq_some_iff.1 hG.dfr).1 (by omega)).trans hG.dfr
 have hBV:Below w.heap.size w V:=hG.bel.trans (hbV.below hG.bel.size (by omega))
 have hout:=hG.out.but hbV (by omega)
 have hown:=hG.own.but hbV (by omega)
 rw [hmin] at hout hown
 refine ⟨none,V,?_,?_⟩
 · have h:=run_endLoop (P:=Tryz.prog) hG.lp (by rw [e1];simp)
   rw [←hV,e2] at h
   exact h
 have hD':D<V.heap.size:=(Array.getElem?_eq_some_iff.1 hDV).1
 obtain ⟨u0,-⟩:=hout.one
 have hb5:=but_put V D (.deferred none)
 have own5:=hown.but hb5 (by omega)
 have hB5:=hBV.trans (hb5.below hBV.size (by omega))
 clear hV hY hI0 e1 e2 e4 e5 e6 e7 hbl1 hl1 hD1 hG q0 q1 q2 q3 q4 q5 q6 hout hown hD hDc hs2
 gi_wp2
 refine ⟨by simp,.inl ⟨_,_,rfl,run_takeDeferred hDV,?_⟩⟩
 have hN:=HN.out
 subst hN
 rw [hT] at own5
 exact ⟨_,results_tmp rfl _ _ _,w.heap.size+1+1,rfl,own5,hB5⟩
theorem crossed_any (ks nn X:Nat→Nat) (n:Nat) (hn:n<200000) (hks:∀ j,ks j<256) (hnn:∀ j,nn j<256) (hX:∀ j,X j<256) (v:Value) (w:World) (hv:BytesIn w v n X) :
 Calls Tryz.prog 198 #[lkV ks nn,v] w fun e w'=>∃ g,e = .returned (.slice (some ⟨g,0,none⟩) n (n+16))∧Own w.heap.size w' (.slice (some ⟨g,0,none⟩) n (n+16)) n (trN ks nn X)∧Below w.heap.size w w' :=
 callsIn_wide.1 (crossed_in 9 ks nn X n hn hks hnn hX v w hv)
end Go.Proofs.YtibdhadbflfdpaaGreatDoor
namespace Go.Proofs.YtibdhadbflfdpaaGreatDoor
open Go.RowKit
theorem three_all {α:Type} {p:α→Prop} {a b c:α} (ha:p a) (hb:p b) (hc:p c) (i:Nat):p (three a b c i):=by
 unfold three
 split
 · exact ha
 · split
   · exact hb
   · exact hc
set_option maxRecDepth 100000 in
set_option maxHeartbeats 4000000 in
theorem gtag_any (ks nn M D:Nat→Nat) (ml dl:Nat) (hml:ml<200000) (hdl:dl<200000) (hks:∀ j,ks j<256) (hnn:∀ j,nn j<256) (hM:∀ j,M j<256) (hD:∀ j,D j<256) (m d:Value) (w:World) (hm:BytesIn w m ml M) (hd:BytesIn w d dl D) :
 Calls Tryz.prog 199 #[lkV ks nn,m,d] w fun e w'=>e = .returned (blV (toV (tgN ks nn ml M dl D)))∧Below w.heap.size w w':=by
 have cb1:=fun W h=>bitsOf_any m ml M hml W (hm.keep h)
 have cb2:=fun W h=>bitsOf_any d dl D hdl W (hd.keep h)
 have ch:=fun W=>blockBy_any ks (fun _=>0) hks (fun _=>by decide) (lkN ks nn) (lkN_key ks nn) W
 rw [←gzb_ints,show blkN (kyN ks) (fun _=>0)=h0N ks from rfl] at ch
 have cy:=fun W=>gbytes_any (lnV ml dl) W
 have cbk:=fun xo n c W=>blocks_any xo n c W
 have hXs:∀ i j,three M D (byV (lnV ml dl)) i j<256:=fun i=>three_all (p:=fun X:Nat→Nat=>∀ j,X j<256) hM hD (byV_lt _) i
 have hNs:∀ i,three ml dl 16 i<4611686018427387904:=three_all (p:=fun n=>n<4611686018427387904) (by omega) (by omega) (by decide)
 have cH:=fun pb lb U W h1 h2 h3=>hashed_any (toV (h0N ks)) pb lb 3 (three ml dl 16) (three M D (byV (lnV ml dl))) hXs U hNs (by decide) W h1 h2 h3
 have ca:=fun W=>blockAt_any ks nn 1 hks hnn W
 have cp:=fun W=>gplus_any (hsC (toV (h0N ks)) (three ml dl 16) (three M D (byV (lnV ml dl))) 3) (toV (ctB ks nn 1)) W
 rw [tag_block]
 unfold blV at *
 rw [(ln_words ml dl hml hdl).1,(ln_words ml dl hml hdl).2] at cy
 generalize hLb:byV (lnV ml dl)=Lb at *
 generalize wd (hsC (toV (h0N ks)) (three ml dl 16) (three M D Lb) 3 ^^^ toV (ctB ks nn 1)) 0=f0 at *
 generalize wd (hsC (toV (h0N ks)) (three ml dl 16) (three M D Lb) 3 ^^^ toV (ctB ks nn 1)) 64=f1 at *
 generalize wd (hsC (toV (h0N ks)) (three ml dl 16) (three M D Lb) 3) 0=s0 at *
 generalize wd (hsC (toV (h0N ks)) (three ml dl 16) (three M D Lb) 3) 64=s1 at *
 generalize wd (toV (ctB ks nn 1)) 0=c0 at *
 generalize wd (toV (ctB ks nn 1)) 64=c1 at *
 generalize wd (toV (h0N ks)) 0=k0 at *
 generalize wd (toV (h0N ks)) 64=k1 at *
 have h8m:8*ml<18446744073709551616:=by omega
 generalize 8*ml=m8 at *
 generalize 8*dl=d8 at *
 obtain ⟨xm,cm,rfl,-,-,-⟩:=hm.src
 obtain ⟨xd,cd,rfl,-,-,-⟩:=hd.src
 unfold lkV at *
 have hiL:=infoL (lkN ks nn)
 generalize lkN ks nn=L at *
 obtain ⟨V0,hV0⟩:∃ V,V=(w.alloc (.cells (ints .u8 32 L).toArray 224)).alloc (.cells #[.int .u64 0,.int .u64 0] 228):=⟨_,rfl⟩
 have b0:Below w.heap.size w V0:=by rw [hV0];exact ((Below.refl _ _).alloc (Nat.le_refl _) _).alloc (by simp) _
 have rL:RW V0 w.heap.size 0 (ints .u8 32 L):=by rw [hV0];exact (RW.fresh w _ _).still ((Below.refl _ _).alloc (Nat.le_refl _) _)
 have s0z:V0.heap.size=w.heap.size+1+1:=by rw [hV0];simp
 have rR:RW V0 (w.heap.size+1) 0 (b2 0 0):=by
  have:=RW.fresh (w.alloc (.cells (ints .u8 32 L).toArray 224)) (b2 0 0) 228
  rw [World.size_alloc] at this
  rw [hV0];exact this
 obtain ⟨V1,hV1⟩:∃ V,V=V0.alloc (.cells #[.int .u64 m8,.int .u64 d8] 228):=⟨_,rfl⟩
 have b01:Below V0.heap.size V0 V1:=by rw [hV1];exact (Below.refl _ _).alloc (Nat.le_refl _) _
 have rLen:RW V1 V0.heap.size 0 (b2 m8 d8):=by rw [hV1];exact RW.fresh V0 (b2 m8 d8) 228
 replace rL:=rL.still b01
 replace rR:=rR.still b01
 have b1:=below_next b0 b01
 have HV1:=Hid.mk' hV1
 have HV0:=Hid.mk' hV0
 have rLr:=rL.range
 clear hV0 hV1 s0z b01 hks hnn hM hD
 go_enter Tryz.func199,Tryz.ntmps199
 go_upto_region 3 with (first
  | (go_at_call 234;rw [←HV0.out];refine (cb1 V0 b0).mono ?_;clear cb1;rintro e w1 ⟨rfl,rfl⟩)
  | (go_at_call 234;refine (cb2 _ b0).mono ?_;clear cb2;rintro e w2 ⟨rfl,rfl⟩)
  | (rw [←HV1.out];refine wpList_load_mid rfl 224 _ rfl w.heap.size 0 rfl (ints .u8 32 L) _ rLr Tryz.underlying224 rfl hiL ?_)
  | (refine wpList_val (some 15) (.agg (zb 16)) rfl rfl (by kernel_rfl) ?_)
  | (go_at_call 235;refine (ch _).mono ?_;clear ch;rintro e w3 ⟨rfl,hb3⟩))
 replace rL:=rL.still hb3
 replace rR:=rR.still hb3
 replace rLen:=rLen.still hb3
 have b3:=below_next b1 hb3
 obtain ⟨V4,hV4⟩:∃ V,V=w3.alloc (.cells #[.int .u64 k0,.int .u64 k1] 228):=⟨_,rfl⟩
 have b34:Below w3.heap.size w3 V4:=by rw [hV4];exact (Below.refl _ _).alloc (Nat.le_refl _) _
 have rK:RW V4 w3.heap.size 0 (b2 k0 k1):=by rw [hV4];exact RW.fresh w3 (b2 k0 k1) 228
 rw [←hV4]
 replace rL:=rL.still b34
 replace rR:=rR.still b34
 replace rLen:=rLen.still b34
 have b4:=below_next b3 b34
 clear hV4 HV0 HV1 hb3 b3 b34 b1 b0 rLr
 have hdr:Below V4.heap.size V4 V4.drew:=(Below.refl _ _).drew
 replace rL:=rL.still hdr
 replace rR:=rR.still hdr
 replace rLen:=rLen.still hdr
 replace rK:=rK.still hdr
 replace b4:=below_next b4 hdr
 refine wp_last 11 (S:=fun u=>Below V4.drew.heap.size V4.drew u) (by kernel_rfl) (by kernel_rfl) (by kernel_rfl) (by kernel_rfl) (Below.refl _ _) (fun hS => ?_)
 generalize V4.drew=V5 at *
 refine tlS 0 (fun u hu=>rK.still hu) hS 228 Tryz.underlying228 info2 ?_
 (try simp only [pS])
 refine tg 1 hS ?_
 (try simp only [pS])
 refine tg 2 hS ?_
 (try simp only [pS])
 refine tlS 3 (fun u hu=>rLen.still hu) hS 228 Tryz.underlying228 info2 ?_
 (try simp only [pS])
 refine tlS 8 (fun u hu=>rL.still hu) hS 224 Tryz.underlying224 hiL ?_
 (try simp only [pS])
 refine cl 4 (cy _) ?_
 rintro e V6 ⟨gy,rfl,hgy,ry,hb6⟩
 refine ⟨_,rfl,hb6,?_⟩
 (try simp only [pS])
 have nb6:Below V6.heap.size V6 (V6.alloc (.cells #[.slice xm ml cm,.slice xd dl cd,.slice (some ⟨gy,0,none⟩) 16 16] 22)):=(Below.refl _ _).alloc (Nat.le_refl _) _
 have r7:=RW.fresh V6 [.slice xm ml cm,.slice xd dl cd,.slice (some ⟨gy,0,none⟩) 16 16] 22
 refine wo 5 (v := .slice (some ⟨V6.heap.size,0,none⟩) 3 3) (w':=V6.alloc (.cells #[.slice xm ml cm,.slice xd dl cd,.slice (some ⟨gy,0,none⟩) 16 16] 22)) (by kernel_rfl) (below_next hb6 nb6) ?_
 (try simp only [pS])
 replace ry:=ry.still nb6
 replace hb6:=below_next hb6 nb6
 generalize hV7:V6.alloc (.cells #[.slice xm ml cm,.slice xd dl cd,.slice (some ⟨gy,0,none⟩) 16 16] 22)=V7 at *
 clear hV7 nb6
 refine cl 6 (cbk (some ⟨V6.heap.size,0,none⟩) 3 3 V7) ?_
 rintro e V8 ⟨rfl,hV8⟩
 have nb8:Below V7.heap.size V7 V8:=by rw [hV8];exact (Below.refl _ _).alloc (Nat.le_refl _) _
 have r8:V8.cell? ⟨V7.heap.size,0,none⟩=some (.slice (some ⟨V6.heap.size,0,none⟩) 3 3):=by
  rw [hV8];exact (RW.fresh V7 [_] _).range 0 _ rfl
 replace r7:=r7.still nb8
 replace ry:=ry.still nb8
 replace hb6:=below_next hb6 nb8
 clear hV8 nb8
 refine ⟨_,rfl,hb6,?_⟩
 (try simp only [pS])
 have b8:=below_next b4 hb6
 have cH1:=cH V7.heap.size V6.heap.size (three (.slice xm ml cm) (.slice xd dl cd) (.slice (some ⟨gy,0,none⟩) 16 16)) V8 r8 (fun j hj=>by
  have hr:=r7.range j
  rw [Nat.zero_add] at hr
  rcases (show j=0∨j=1∨j=2 by omega) with rfl | rfl | rfl
  · exact hr _ rfl
  · exact hr _ rfl
  · exact hr _ rfl) (fun j hj=>by
  rcases (show j=0∨j=1∨j=2 by omega) with rfl | rfl | rfl
  · exact hm.keep b8
  · exact hd.keep b8
  · exact .inr ⟨gy,0,16,rfl,block_lt_of_cell (ry 0 (by decide)).1,Nat.le_refl _,fun j hj=>(ry j hj).1⟩)
 clear cH
 refine cl 7 cH1 ?_
 rintro e V9 ⟨rfl,hb9⟩
 replace hb6:=below_next hb6 hb9
 refine ⟨_,rfl,hb6,?_⟩
 (try simp only [pS])
 refine cl 9 (ca _) ?_
 rintro e V10 ⟨rfl,hb10⟩
 replace hb6:=below_next hb6 hb10
 refine ⟨_,rfl,hb6,?_⟩
 (try simp only [pS])
 refine cl 10 (cp _) ?_
 rintro e V11 ⟨rfl,hb11⟩
 replace hb6:=below_next hb6 hb11
 refine ⟨_,rfl,hb6,?_⟩
 (try simp only [pS])
 replace rR:=rR.still hb6
 have b11:=below_next b4 hb6
 refine wpAnyH_done (by kernel_rfl) ?_ _
 refine lastRow 11 228 6 27 (b2 f0 f1) rR rfl (info2a f0 f1) (one2 f0 f1) (fun r12 => ?_)
 refine NoPanic.normal ?_
 dsimp only [Act.put]
 clear cH1 ca cp cy cbk
 go_wp2
 refine bodyPost_ret (results_cell_mid Tryz.results199 _ _ (w.heap.size+1) 0 (b2 f0 f1) _ rfl r12.range Tryz.underlying228 rfl info2) rfl ⟨rfl,?_⟩
 exact below_setCells (Nat.le_succ _) _ _ _ b11
end Go.Proofs.YtibdhadbflfdpaaGreatDoor
namespace Go.Proofs.YtibdhadbflfdpaaGreatDoor
open Go.RowKit
theorem padN_16 (X:Nat→Nat):toV (gpadN 16 X)=toV X:=toV_S fun j hj=>by unfold gpadN;rw [if_pos hj]
end Go.Proofs.YtibdhadbflfdpaaGreatDoor
namespace Go.Proofs.YtibdhadbflfdpaaGreatDoor
open Go.RowKit
theorem own_down {base base':Nat} {w:World} {v:Value} {n:Nat} {X:Nat→Nat} (h:Own base w v n X) (hb:base'≤base):Own base' w v n X :=
 ⟨h.1,h.2.imp id fun ⟨g,cap,cur,e,h1,h2⟩=>⟨g,cap,cur,e,Nat.le_trans hb h1,h2⟩⟩
theorem lock_var (w:World) (L:Nat→Nat) (V:World) (hV:V=(w.alloc (.cells (zb 32) 224)).setCells w.heap.size 0 (ints .u8 32 L)):RW V w.heap.size 0 (ints .u8 32 L)∧Below w.heap.size w V:=by
 subst hV
 have h:=RowAt.zero w 32 224
 refine ⟨(h.toRW (by decide)).stored _ (by rw [ints_len,ints_len]),below_setCells (Nat.le_refl _) _ _ _ ((Below.refl _ _).alloc (Nat.le_refl _) _)⟩
theorem lock_there (w:World) (L:Nat→Nat):(w.alloc (.cells (zb 32) 224)).there w.heap.size 0 (ints .u8 32 L).toArray.size:=by
 rw [ints_size];exact (RowAt.zero w 32 224).there
set_option maxRecDepth 20000 in
set_option maxHeartbeats 2000000 in
theorem seal_bad (v u m t:Value) (a b ml n:Nat) (ks nn M X:Nat→Nat) (w:World) (hv:BytesIn w v a ks) (hu:BytesIn w u b nn) (hm:BytesIn w m ml M) (ht:BytesIn w t n X) (h:¬(a=16∧b=12)) :
 Calls Tryz.prog 141 #[v,u,m,t] w fun e w'=>e = .returned (.tuple #[.slice none 0 0,.int .i64 1])∧Below w.heap.size w w':=by
 have c1:=lockOf_bad v u a b ks nn w hv hu h
 have hz:=zeroL
 have hth:=fun W=>lock_there W (fun _=>0)
 have hi2:=infoLA (fun _=>0)
 have ho:=oneU 32 (fun _=>0)
 obtain ⟨xv,cv,rfl,-,-,-⟩:=hv.src
 obtain ⟨xu,cu,rfl,-,-,-⟩:=hu.src
 obtain ⟨xm,cm,rfl,-,-,-⟩:=hm.src
 obtain ⟨xt,ct,rfl,-,-,-⟩:=ht.src
 clear hv hu hm ht h
 go_enter Tryz.func141,Tryz.ntmps141
 go_wp2_with (first
  | (go_at_call 197;refine c1.mono ?_;clear c1;rintro e w1 ⟨rfl,b1⟩;have hth1:=hth w1;clear hth)
  | (with_reducible (refine id (?_:wpList _ _ _ _ _ _));refine wpList_store_mid rfl 224 _ _ rfl w1.heap.size 0 (ints .u8 32 (fun _=>0)).toArray rfl rfl hth1 hi2 ho ?_;clear hth1))
 go_ret2
 exact ⟨rfl,below_next b1 (lock_var w1 _ _ rfl).2⟩
set_option maxRecDepth 20000 in
set_option maxHeartbeats 2000000 in
theorem seal_size (v u m t:Value) (ml n:Nat) (ks nn M X:Nat→Nat) (w:World) (hv:BytesIn w v 16 ks) (hu:BytesIn w u 12 nn) (hm:BytesIn w m ml M) (ht:BytesIn w t n X) (h:¬(ml≤65536∧n≤65536)) :
 Calls Tryz.prog 141 #[v,u,m,t] w fun e w'=>e = .returned (.tuple #[.slice none 0 0,.int .i64 6])∧Below w.heap.size w w':=by
 have c1:=lockOf_good v u ks nn w hv hu
 unfold lkV at c1
 have hz:=zeroL
 have hth:=fun W=>lock_there W (lkN ks nn)
 have hi2:=infoLA (lkN ks nn)
 have ho:=oneU 32 (lkN ks nn)
 generalize lkN ks nn=L at *
 obtain ⟨xv,cv,rfl,-,-,-⟩:=hv.src
 obtain ⟨xu,cu,rfl,-,-,-⟩:=hu.src
 obtain ⟨xm,cm,rfl,-,-,-⟩:=hm.src
 obtain ⟨xt,ct,rfl,-,-,-⟩:=ht.src
 clear hv hu hm ht
 have hcase:((65536:Int)<(ml:Int))∨(¬(65536:Int)<(ml:Int)∧(65536:Int)<(n:Int)):=by omega
 clear h
 rcases hcase with h1 | ⟨h1,h2⟩
 all_goals
  go_enter Tryz.func141,Tryz.ntmps141
  go_wp2_with (first
   | (go_at_call 197;refine c1.mono ?_;clear c1;rintro e w1 ⟨rfl,b1⟩;have hth1:=hth w1;clear hth)
   | (with_reducible (refine id (?_:wpList _ _ _ _ _ _));refine wpList_store_mid rfl 224 _ _ rfl w1.heap.size 0 (ints .u8 32 L).toArray rfl rfl hth1 hi2 ho ?_;clear hth1))
  go_ret2
  exact ⟨rfl,below_next b1 (lock_var w1 _ _ rfl).2⟩
theorem tgN_B {ks nn M D:Nat→Nat} (hks:∀ j,ks j<256) (hnn:∀ j,nn j<256) (ml dl:Nat):B16 (tgN ks nn ml M dl D):=fun j hj=>xor_byte (ctB_B hks hnn 1 j hj) (hsN_lt _ _ _ j)
set_option maxRecDepth 20000 in
set_option maxHeartbeats 4000000 in
theorem seal_good (v u m t:Value) (ml n:Nat) (ks nn M X:Nat→Nat) (hml:ml≤65536) (hn:n≤65536) (hks:∀ j,ks j<256) (hnn:∀ j,nn j<256) (hM:∀ j,M j<256) (hX:∀ j,X j<256) (w:World) (hv:BytesIn w v 16 ks) (hu:BytesIn w u 12 nn) (hm:BytesIn w m ml M) (ht:BytesIn w t n X) :
 Calls Tryz.prog 141 #[v,u,m,t] w fun e w'=>∃ s,e = .returned (.tuple #[s,.int .i64 0])∧Own w.heap.size w' s (n+16) (slN ks nn ml M n X)∧Below w.heap.size w w':=by
 have c1:=lockOf_good v u ks nn w hv hu
 have hT:=trN_lt (X:=X) hks hnn hX
 have c2:=fun W h=>crossed_any ks nn X n (by omega) hks hnn hX t W (ht.keep h)
 have c3:=fun d W h hd=>gtag_any ks nn M (trN ks nn X) ml n (by omega) (by omega) hks hnn hM hT m d W (hm.keep h) hd
 have c4:=fun W=>gbytes_any (toV (tgN ks nn ml M n (trN ks nn X))) W
 have hfit:=byV_toV (tgN_B (M:=M) (D:=trN ks nn X) hks hnn ml n)
 have hsl:slN ks nn ml M n X=cat n (trN ks nn X) (tgN ks nn ml M n (trN ks nn X)):=rfl
 rw [hsl]
 unfold blV at *
 generalize wd (toV (tgN ks nn ml M n (trN ks nn X))) 0=g0 at *
 generalize wd (toV (tgN ks nn ml M n (trN ks nn X))) 64=g1 at *
 generalize byV (toV (tgN ks nn ml M n (trN ks nn X)))=GB at *
 generalize tgN ks nn ml M n (trN ks nn X)=G at *
 generalize trN ks nn X=T at *
 unfold lkV at *
 have hz:=zeroL
 have hth:=fun W=>lock_there W (lkN ks nn)
 have hi1:=infoL (lkN ks nn)
 have hi2:=infoLA (lkN ks nn)
 have ho:=oneU 32 (lkN ks nn)
 generalize lkN ks nn=L at *
 obtain ⟨xv,cv,rfl,-,-,-⟩:=hv.src
 obtain ⟨xu,cu,rfl,-,-,-⟩:=hu.src
 obtain ⟨xm,cm,rfl,-,-,-⟩:=hm.src
 obtain ⟨xt,ct,rfl,-,-,-⟩:=ht.src
 have hml':¬(65536:Int)<(ml:Int):=by omega
 have hn':¬(65536:Int)<(n:Int):=by omega
 have hfit2:n+16≤140737488355328:=by omega
 clear hv hu hm ht hks hnn hM hX hT hsl
 go_enter Tryz.func141,Tryz.ntmps141
 go_wp2_with (first
  | (go_at_call 197;refine c1.mono ?_;clear c1;rintro e w1 ⟨rfl,b1⟩;(have hth1:=hth w1);(obtain ⟨V,hV⟩:∃ V,V=(w1.alloc (.cells (zb 32) 224)).setCells w1.heap.size 0 (ints .u8 32 L):=⟨_,rfl⟩);(obtain ⟨rL,bV⟩:=lock_var w1 L V hV);(have HV:=Hid.mk' hV);(replace b1:=below_next b1 bV);(have rLr:=rL.range);clear hth hV bV)
  | (with_reducible (refine id (?_:wpList _ _ _ _ _ _));refine wpList_store_mid rfl 224 _ _ rfl w1.heap.size 0 (ints .u8 32 L).toArray rfl rfl hth1 hi2 ho ?_;rw [List.toList_toArray,←HV.out];clear hth1 HV;(have c2':=c2 V b1);clear c2)
  | (refine wpList_load_mid rfl 224 _ rfl w1.heap.size 0 rfl (ints .u8 32 L) _ rLr Tryz.underlying224 rfl hi1 ?_)
  | (go_at_call 198;refine c2'.mono ?_;clear c2';rintro e w2 ⟨gh,rfl,own2,b2⟩;(replace rLr:=(rL.still b2).range);(replace rL:=rL.still b2);(replace own2:Own w.heap.size w2 _ n T:=own_down own2 b1.size);(replace b1:=below_next b1 b2);(have c3':=c3 _ w2 b1 own2.bytesOf);clear c3 b2)
  | (go_at_call 199;refine c3'.mono ?_;clear c3';rintro e w3 ⟨rfl,b3⟩;(replace own2:=own2.below b3);(replace b1:=below_next b1 b3);clear b3)
  | (go_at_call 200;refine (c4 _).mono ?_;clear c4;rintro e w4 ⟨gt,rfl,hgt,r4,b4⟩;(replace own2:=own2.below b4);(replace b1:=below_next b1 b4);(have src4:Src w4 (some ⟨gt,0,none⟩) 16 GB := .inr ⟨gt,0,rfl,fun j hj=>(r4 j hj).1⟩);(have hz4:=b1.size);clear b4)
  | (at_builtin;refine wpList_append_bytes rfl (.tmp 33) (.tmp 38) rfl w.heap.size _ n T rfl own2 _ 16 16 GB rfl src4 (fun h=>by cases h) hfit2 hz4 ?_;intro v5 w5 own5 grow5;(have b5:=Own.grown b1 grow5 own2 (Nat.le_refl _) hz4)))
 go_ret2
 exact ⟨v5,rfl,own5.congr (fun j hj=>by
  unfold cat
  by_cases h:j<n
  · rw [if_pos h,if_pos h]
  · rw [if_neg h,if_neg h];exact hfit _ (by omega)),b5⟩
end Go.Proofs.YtibdhadbflfdpaaGreatDoor
