/- What the proof stands on: HExpand, QApp, QMath, QRK. -/
import Derived.Test.YtcgkajlehdgpoaaGreatDoorHRefPadM
import Derived.Test.YtcgkajlehdgpoaaGreatDoorLentM
import Derived.Lib.SlBytesConst
namespace Go.Proofs.YtcgkajlehdgpoaaGreatDoor
open Go.RowKit Go.Shelf
attribute [local go_sem] Oper.semAt_some
theorem one_box (w:World) (v:Value) (t:TypeId):(w.alloc (.cells #[v] t)).cell? ⟨w.heap.size,0,none⟩=some v∧(w.alloc (.cells #[v] t)).frozen? ⟨w.heap.size,0,none⟩=false:=by simp
theorem expand_start (w:World) (N:Nat) (v1 v2:Value) (w':World)
 (hw:w'=(((((w.alloc (.cells #[.int .i64 N] 3)).alloc (.cells (zb N) 5)).alloc (.cells #[.slice (some ⟨w.heap.size+1,0,none⟩) N N] 22)).alloc (.cells #[.int .i64 0] 3)).alloc (.cells #[v1] 22)).alloc (.cells #[v2] 22)) :
 w'.heap.size=w.heap.size+6∧Below w.heap.size w w'∧w'.cell? ⟨w.heap.size,0,none⟩=some (.int .i64 N)∧RowAt .u8 w' (w.heap.size+1) 0 N (fun _=>0)∧w'.cell? ⟨w.heap.size+1+1,0,none⟩=some (.slice (some ⟨w.heap.size+1,0,none⟩) N N) ∧
  w'.cell? ⟨w.heap.size+1+1+1,0,none⟩=some (.int .i64 0)∧w'.frozen? ⟨w.heap.size+1+1+1,0,none⟩=false∧w'.cell? ⟨w.heap.size+1+1+1+1,0,none⟩=some v1∧w'.cell? ⟨w.heap.size+1+1+1+1+1,0,none⟩=some v2:=by
 obtain ⟨a1,e1⟩:∃ a,a=w.alloc (.cells #[.int .i64 N] 3):=⟨_,rfl⟩
 obtain ⟨a2,e2⟩:∃ a,a=a1.alloc (.cells (zb N) 5):=⟨_,rfl⟩
 obtain ⟨a3,e3⟩:∃ a,a=a2.alloc (.cells #[.slice (some ⟨w.heap.size+1,0,none⟩) N N] 22):=⟨_,rfl⟩
 obtain ⟨a4,e4⟩:∃ a,a=a3.alloc (.cells #[.int .i64 0] 3):=⟨_,rfl⟩
 obtain ⟨a5,e5⟩:∃ a,a=a4.alloc (.cells #[v1] 22):=⟨_,rfl⟩
 have s1:a1.heap.size=w.heap.size+1:=by rw [e1];simp
 have s2:a2.heap.size=w.heap.size+1+1:=by rw [e2,World.size_alloc,s1]
 have s3:a3.heap.size=w.heap.size+1+1+1:=by rw [e3,World.size_alloc,s2]
 have s4:a4.heap.size=w.heap.size+1+1+1+1:=by rw [e4,World.size_alloc,s3]
 have s5:a5.heap.size=w.heap.size+1+1+1+1+1:=by rw [e5,World.size_alloc,s4]
 have e6:w'=a5.alloc (.cells #[v2] 22):=by rw [hw,e5,e4,e3,e2,e1]
 have b0:Below w.heap.size w a1:=by rw [e1];exact (Below.refl _ _).alloc (Nat.le_refl _) _
 have b1:Below a1.heap.size a1 a2:=by rw [e2];exact (Below.refl _ _).alloc (Nat.le_refl _) _
 have b2:Below a2.heap.size a2 a3:=by rw [e3];exact (Below.refl _ _).alloc (Nat.le_refl _) _
 have b3:Below a3.heap.size a3 a4:=by rw [e4];exact (Below.refl _ _).alloc (Nat.le_refl _) _
 have b4:Below a4.heap.size a4 a5:=by rw [e5];exact (Below.refl _ _).alloc (Nat.le_refl _) _
 have b5:Below a5.heap.size a5 w':=by rw [e6];exact (Below.refl _ _).alloc (Nat.le_refl _) _
 have t4:=b4.trans (b5.mono (by omega))
 have t3:=b3.trans (t4.mono (by omega))
 have t2:=b2.trans (t3.mono (by omega))
 have t1:=b1.trans (t2.mono (by omega))
 have hr:RowAt .u8 a2 a1.heap.size 0 N (fun _=>0):=by rw [e2];exact RowAt.fresh (fun j hj=>zb_at N j hj)
 have c0:=one_box w (.int .i64 N) 3
 have c2:=one_box a2 (.slice (some ⟨w.heap.size+1,0,none⟩) N N) 22
 have c3:=one_box a3 (.int .i64 0) 3
 have c4:=one_box a4 v1 22
 have c5:=one_box a5 v2 22
 rw [←e1] at c0
 rw [←e3,s2] at c2
 rw [←e4,s3] at c3
 rw [←e5,s4] at c4
 rw [←e6,s5] at c5
 refine ⟨by rw [e6,World.size_alloc,s5],b0.trans (t1.mono (by omega)),(t1.cell (p:=⟨w.heap.size,0,none⟩) (by show w.heap.size<_;omega)).trans c0.1,?_,(t3.cell (p:=⟨w.heap.size+1+1,0,none⟩) (by show w.heap.size+1+1<_;omega)).trans c2.1,(t4.cell (p:=⟨w.heap.size+1+1+1,0,none⟩) (by show w.heap.size+1+1+1<_;omega)).trans c3.1,(t4.frozen (p:=⟨w.heap.size+1+1+1,0,none⟩) (by show w.heap.size+1+1+1<_;omega)).trans c3.2,(b5.cell (p:=⟨w.heap.size+1+1+1+1,0,none⟩) (by show w.heap.size+1+1+1+1<_;omega)).trans c4.1,c5.1⟩
 have:=hr.below t2 (by omega)
 rw [s1] at this
 exact this
def outF (kv:Nat→Nat) (m:Nat) (info:Nat→Nat) (a:Nat):Nat→Nat:=fun q=>if q<a then tE kv m info (q / 32+1) (q%32) else 0
structure ExInv (w:World) (l D N:Nat) (rec:Loop) (kv:Nat→Nat) (m:Nat) (info:Nat→Nat) (j:Nat) (W:World):Prop where
 lp:W.heap[l]? = some (.loop rec)
 dfr:W.heap[D]? = some (.deferred (some []))
 nb:W.cell? ⟨w.heap.size,0,none⟩=some (.int .i64 N)
 xb:W.cell? ⟨w.heap.size+1+1,0,none⟩=some (.slice (some ⟨w.heap.size+1,0,none⟩) N N)
 ab:W.cell? ⟨w.heap.size+1+1+1,0,none⟩=some (.int .i64 (32*j:Nat))
 abf:W.frozen? ⟨w.heap.size+1+1+1,0,none⟩=false
 row:RowAt .u8 W (w.heap.size+1) 0 N (outF kv m info (32*j))
 few:j=0∨32*j<N
theorem ExInv.below {w:World} {l D N:Nat} {rec:Loop} {kv:Nat→Nat} {m:Nat} {info:Nat→Nat} {j:Nat} {W W':World} (h:ExInv w l D N rec kv m info j W) (hb:Below W.heap.size W W'):ExInv w l D N rec kv m info j W' :=
 ⟨(hb.block l (Array.getElem?_eq_some_iff.1 h.lp).1).trans h.lp,(hb.block D (Array.getElem?_eq_some_iff.1 h.dfr).1).trans h.dfr,(hb.cell (block_lt_of_cell h.nb)).trans h.nb,(hb.cell (block_lt_of_cell h.xb)).trans h.xb,(hb.cell (block_lt_of_cell h.ab)).trans h.ab,(hb.frozen (block_lt_of_cell h.ab)).trans h.abf,fun q hq=>⟨(hb.cell (block_lt_of_cell (h.row q hq).1)).trans (h.row q hq).1,(hb.frozen (block_lt_of_cell (h.row q hq).1)).trans (h.row q hq).2⟩,h.few⟩
set_option maxRecDepth 100000 in
set_option maxHeartbeats 4000000 in
theorem expand_in (n:Nat) (x1 x2:Option Addr) (n1 n2 c1 c2:Nat) (ks info:Nat→Nat) (hks:∀ j,ks j<256) (hinfo:∀ j,info j<256) (hn1:n1<2305843009213693000) (hn2:n2<2305843009213692000) (w:World) (hT:HTab w cubeK squareK) (hk:BytesIn w (.slice x1 n1 c1) n1 ks) (hi:BytesIn w (.slice x2 n2 c2) n2 info) (N:Nat) (hN:N≤8160) :
 CallsIn Fence.wide n Tryz.prog 50 #[.slice x1 n1 c1,.slice x2 n2 c2,.int .i64 N] w fun e w'=>∃ g,e = .returned (.tuple #[.slice (some ⟨g,0,none⟩) N N,.int .i64 0])∧w.heap.size≤g∧RowAt .u8 w' g 0 N (outF (keyB n1 ks) n2 info N)∧Below w.heap.size w w':=by
 have hmk:=fun W=>make_bytes W N N rfl (by omega)
 have hNi:¬((N:Int)<0):=by omega
 have hNj:¬(8160<(N:Int)):=by omega
 have htags:=fun W=>tags_any x1 x2 n1 n2 c1 c2 W
 refine callsIn_of_wp_marks Tryz.func50 rfl trivial ?_ rfl
 simp only [Tryz.ntmps50,List.size_toArray,List.length_cons,List.length_nil,Nat.reduceAdd,Nat.reduceSub,Array.replicate_succ,Array.replicate_zero,List.push_toArray,List.append_toArray,List.nil_append,List.cons_append]
 gi_wp2_with (first
  | (refine ⟨trivial,(fun h=>by cases h),?_⟩;gi_at_call 72;refine (callsIn_wide.2 (htags _)).mono ?_;rintro e w' ⟨rfl,hw'⟩))
 obtain ⟨s6,hbw,q0,qr,q2,q3,q3f,q4,q5⟩:=expand_start w N _ _ w' hw'
 rw [←hw']
 clear hw' hmk htags
 obtain ⟨kv,hkv⟩:∃ kv,kv=keyB n1 ks:=⟨_,rfl⟩
 refine wpIn_range_with rfl (fun _=>trivial) (fun h=>by cases h) rfl (enters_of Tryz.func97 (by kernel_rfl) rfl) (fun r0 e1 e2 e4 e5 e6 e7 => ?_)
 obtain ⟨W1,hW1⟩:∃ W1,W1=(w'.alloc (.deferred (some []))).alloc (.loop r0):=⟨_,rfl⟩
 obtain ⟨l,hl⟩:∃ l,l=w'.heap.size+1:=⟨_,rfl⟩
 have hb1:Below w'.heap.size w' W1:=by rw [hW1];exact ((Below.refl _ _).alloc (Nat.le_refl _) _).alloc (by simp) _
 have hl1:W1.heap[l]? = some (.loop r0):=by
  rw [hW1,hl];have:=World.alloc_heap_new (w'.alloc (.deferred (some []))) (.loop r0);rwa [World.size_alloc] at this
 have hD1:W1.heap[w'.heap.size]? = some (.deferred (some [])):=by
  rw [hW1];exact (Below.heap_alloc _ _ _ (by simp)).trans (World.alloc_heap_new w' _)
 rw [←hW1,←hl]
 have hs1:W1.heap.size=w'.heap.size+2:=by rw [hW1];simp
 obtain ⟨D,hD⟩:∃ D,D=w'.heap.size:=⟨_,rfl⟩
 have hD6:w.heap.size+5<D:=by omega
 have hDl:D<l:=by omega
 have hlW:l<W1.heap.size:=by omega
 have hqb:∀ {b:Nat} {v:Value},w'.cell? ⟨b,0,none⟩=some v→b<w'.heap.size:=fun h=>block_lt_of_cell h
 have hq6:w.heap.size+1<w'.heap.size:=by omega
 rw [←hD] at hD1 ⊢
 clear hW1 hl hs1 hD s6
 have hbw1:Below w.heap.size w W1:=hbw.trans (hb1.mono (by omega))
 have hI0:ExInv w l D N r0 kv n2 info 0 W1:=⟨hl1,hD1,(hb1.cell (block_lt_of_cell q0)).trans q0,(hb1.cell (block_lt_of_cell q2)).trans q2,(hb1.cell (block_lt_of_cell q3)).trans q3,(hb1.frozen (block_lt_of_cell q3)).trans q3f,fun q hq=>by
  have:=(qr.below hb1 (by omega)) q hq
  simpa [outF] using this,.inl rfl⟩
 obtain ⟨Fin,hFin⟩:∃ Fin:World→Prop,Fin=fun W=>W.heap[l]? = some (.loop { r0 with state := .done,pending:=some (.exit 0) })∧W.heap[D]? = some (.deferred (some []))∧W.cell? ⟨w.heap.size+1+1,0,none⟩=some (.slice (some ⟨w.heap.size+1,0,none⟩) N N)∧RowAt .u8 W (w.heap.size+1) 0 N (outF kv n2 info N)∧Below w.heap.size w W:=⟨_,rfl⟩
 have hY:∀ j g W1,j<255→ExInv w l D N r0 kv n2 info j W1→RowAt .u8 W1 g 0 32 (tE (keyB n1 ks) n2 info (j+1))→¬(g=l∨g=w.heap.size+1∨g=w.heap.size+1+1+1)→Below w.heap.size w W1→YieldAt Fence.wide (n - 1 - 1) Tryz.prog l #[.slice (some ⟨g,0,none⟩) 32 32] W1 fun e W' =>
  (e = .returned (.bool true)∧ExInv w l D N r0 kv n2 info (j+1) W'∧But (fun k=>k=l∨k=w.heap.size+1∨k=w.heap.size+1+1+1) W1 W')∨(e = .returned (.bool false)∧Fin W'):=by
  intro j g V hj hI hrow hgb hbV'
  refine yield_round hI.lp (by rw [e5];rfl) ?_
  rw [e4,e5,e6,e7]
  obtain ⟨V2,hV2⟩:∃ V2,V2=V.putObj l (.loop { r0 with state := .busy }):=⟨_,rfl⟩
  have hbV:But (fun k=>k=l) V V2:=by rw [hV2];exact but_put _ _ _
  have hlV:V2.heap[l]? = some (.loop { r0 with state := .busy }):=by rw [hV2];exact World.putObj_heap_same (Array.getElem?_eq_some_iff.1 hI.lp).1
  have hDV:V2.heap[D]? = some (.deferred (some [])):=(hbV.block _ (Array.getElem?_eq_some_iff.1 hI.dfr).1 (by omega)).trans hI.dfr
  have r0':=hbV.cell hI.nb (by omega)
  have r2':=hbV.cell hI.xb (by omega)
  have r3':=hbV.cell hI.ab (by omega)
  have r3f:V2.frozen? ⟨w.heap.size+1+1+1,0,none⟩=false:=(World.frozen?_of_block (w:=V) (hbV.block _ (block_lt_of_cell hI.ab) (by show ¬w.heap.size+1+1+1=l;omega))).trans hI.abf
  have hrV:=hbV.row hI.row (by omega)
  have hgV:=hbV.row hrow (by omega)
  have hbeg:(Instr.beginRound l).run Tryz.prog V = .ok () V2:=by rw [hV2];exact run_beginRound hI.lp e1
  have hfew:=hI.few
  obtain ⟨A,hA⟩:∃ A,A=32*j:=⟨_,rfl⟩
  rw [←hA] at r3' hrV hfew
  have hAN:A≤N:=by omega
  have hsl:∀ W:World,(Instr.sliceAt 22 (.slice (some ⟨w.heap.size+1,0,none⟩) N N) (some (.int .i64 A)) none none).run Tryz.prog W = .ok (.slice (some ⟨w.heap.size+1,A,none⟩) (N - A) (N - A)) W:=fun W=>by
   have h:=sliceFrom W (w.heap.size+1) 0 N N A hAN
   rw [Nat.zero_add] at h
   have e:(if N=A then 0 else A)=A:=by split <;> omega
   rw [e] at h
   exact h
  have hgd:=hgV
  have hcp:∀ M,M=Nat.min 32 (N - A)→(Builtin.copy_ #[22,22] 3 #[.slice (some ⟨w.heap.size+1,A,none⟩) (N - A) (N - A),.slice (some ⟨g,0,none⟩) 32 32]).run Tryz.prog V2.drew = .ok (goInt M) (V2.drew.setCells (w.heap.size+1) A (ints .u8 M (tE (keyB n1 ks) n2 info (j+1)))):=fun M hM =>
   run_copy_bytes V2.drew 22 22 3 5 (w.heap.size+1) A (N - A) (N - A) (some ⟨g,0,none⟩) 32 32 M _ Tryz.underlying22 (by kernel_rfl) (.inr ⟨g,0,rfl,fun q hq=>(hgV q hq).1⟩) hM (fun q hq=>by
    have h:=hrV (A+q) (by omega)
    rw [Nat.zero_add] at h
    exact ⟨by show (V2.cell? _).isSome=true;rw [h.1];rfl,h.2⟩)
  clear hV2 hI
  obtain ⟨M,hM⟩:∃ M,M=Nat.min 32 (N - A):=⟨_,rfl⟩
  have hcM:=hcp M hM
  have hMl:M≤32∧M≤N - A:=by rw [hM];exact ⟨Nat.min_le_left _ _,Nat.min_le_right _ _⟩
  obtain ⟨V3,hV3⟩:∃ V3,V3=V2.drew.setCells (w.heap.size+1) A (ints .u8 M (tE (keyB n1 ks) n2 info (j+1))):=⟨_,rfl⟩
  rw [←hV3] at hcM
  have hab3:V3.cell? ⟨w.heap.size+1+1+1,0,none⟩=some (.int .i64 A):=by
   rw [hV3]
   exact (World.cell?_of_block (heap_setCells_other _ _ _ _ _ (by show w.heap.size+1+1+1≠w.heap.size+1;omega))).trans r3'
  have hab3f:V3.frozen? ⟨w.heap.size+1+1+1,0,none⟩=false:=by rw [hV3,World.frozen?_setCells];exact r3f
  have HV3:Hid (V3=V2.drew.setCells (w.heap.size+1) A (ints .u8 M (tE (keyB n1 ks) n2 info (j+1)))):=hV3
  have hmix:Tryz.prog.follows .mixedOrders=true:=by kernel_rfl
  have HA:Hid (A=32*j):=hA
  have HM:Hid (M=Nat.min 32 (N - A)):=hM
  clear hV3 hcp hA hM
  obtain ⟨S,hS⟩:∃ S,S=A+M:=⟨_,rfl⟩
  obtain ⟨V4,hV4⟩:∃ V4,V4=V3.setCell ⟨w.heap.size+1+1+1,0,none⟩ (.int .i64 (S:Int)):=⟨_,rfl⟩
  have hbut3:But (fun k=>k=w.heap.size+1) V2 V3:=by
   rw [HV3.out]
   have hsc:=setCells_same (w.heap.size+1) (ints .u8 M (tE (keyB n1 ks) n2 info (j+1))) A V2.drew
   exact ⟨hsc.1,hsc.2.1,hsc.2.2.1,by rw [hsc.2.2.2];exact Nat.le_refl _,fun k _ hk=>heap_setCells_other _ _ _ _ _ hk⟩
  have hbut4:But (fun k=>k=w.heap.size+1∨k=w.heap.size+1+1+1) V2 V4:=by
   refine (hbut3.mono (fun k hk => .inl hk)).trans ?_
   rw [hV4]
   have hsc:=setCells_same (w.heap.size+1+1+1) [.int .i64 (S:Int)] 0 V3
   exact ⟨hsc.1,hsc.2.1,hsc.2.2.1,by simp,fun k _ hk=>Below.heap_setCell V3 ⟨w.heap.size+1+1+1,0,none⟩ _ k (fun e=>hk (.inr e))⟩
  have hrow4:RowAt .u8 V4 (w.heap.size+1) 0 N (outF kv n2 info S):=by
   have h1:RowAt .u8 V3 (w.heap.size+1) 0 N (over (outF kv n2 info A) A M (tE (keyB n1 ks) n2 info (j+1))):=by
    rw [HV3.out]
    have:=RowAt.splice (w:=V2.drew) hrV A M (tE (keyB n1 ks) n2 info (j+1)) (by omega)
    rw [Nat.zero_add] at this
    exact this
   have h2:RowAt .u8 V4 (w.heap.size+1) 0 N (over (outF kv n2 info A) A M (tE (keyB n1 ks) n2 info (j+1))):=fun q hq=>by
    have hb:=Below.heap_setCell V3 ⟨w.heap.size+1+1+1,0,none⟩ (.int .i64 (S:Int)) (w.heap.size+1) (by show w.heap.size+1≠w.heap.size+1+1+1;omega)
    rw [←hV4] at hb
    exact ⟨(World.cell?_of_block (w:=V3) hb).trans (h1 q hq).1,(World.frozen?_of_block (w:=V3) hb).trans (h1 q hq).2⟩
   refine h2.congr (fun q hq => ?_)
   have ha:=HA.out
   unfold over outF
   by_cases h:A≤q∧q<A+M
   · rw [if_pos h,if_pos (by omega),show q / 32+1=j+1 by omega,show q%32=q - A by omega,hkv]
   · rw [if_neg h]
     by_cases h2:q<A
     · rw [if_pos h2,if_pos (by omega)]
     · rw [if_neg h2,if_neg (by omega)]
  have hab4:V4.cell? ⟨w.heap.size+1+1+1,0,none⟩=some (.int .i64 (S:Int)):=by rw [hV4];exact World.cell?_setCell_same _ _ _ hab3
  have hab4f:V4.frozen? ⟨w.heap.size+1+1+1,0,none⟩=false:=by rw [hV4,World.frozen?_setCell];exact hab3f
  have hl4:V4.heap[l]? = some (.loop { r0 with state := .busy }):=(hbut4.block l (Array.getElem?_eq_some_iff.1 hlV).1 (by omega)).trans hlV
  have hD4:V4.heap[D]? = some (.deferred (some [])):=(hbut4.block D (Array.getElem?_eq_some_iff.1 hDV).1 (by omega)).trans hDV
  have hn4:=hbut4.cell r0' (by omega)
  have hx4:=hbut4.cell r2' (by omega)
  have hbutV:But (fun k=>k=l∨k=w.heap.size+1∨k=w.heap.size+1+1+1) V V4:=(hbV.mono (fun k hk => .inl hk)).trans (hbut4.mono (fun k hk => .inr hk))
  have HV4:Hid (V4=V3.setCell ⟨w.heap.size+1+1+1,0,none⟩ (.int .i64 (S:Int))):=hV4
  have hSw:IntKind.i64.wrap ((A:Int)+M)=(S:Int):=by simp only [IntKind.wrap_i64];omega
  have HS:Hid (S=A+M):=hS
  have hnext:S≠N→∃ v W',(Instr.endRound l none).run Tryz.prog V4 = .ok v W'∧(((Ending.returned v = .returned (.bool true)∧ExInv w l D N r0 kv n2 info (j+1) W'∧But (fun k=>k=l∨k=w.heap.size+1∨k=w.heap.size+1+1+1) V W'))∨(Ending.returned v = .returned (.bool false)∧Fin W')):=fun hSN=>by
   have hm:=HM.out
   have ha:=HA.out
   have hs:=HS.out
   have hM32:M=32:=by
    rw [hm]
    refine Nat.min_eq_left ?_
    rcases Nat.le_total 32 (N - A) with h | h
    · exact h
    · have:M=N - A:=by rw [hm];exact Nat.min_eq_right h
      omega
   have hrec:({ { r0 with state := .busy } with state := .ready,pending:=none }:Loop)=r0:=loop_back r0 e1 e2
   have hb5:=but_put V4 l (.loop r0)
   refine ⟨_,_,run_endRound none hl4,.inl ⟨rfl,?_,?_⟩⟩
   · simp only [Option.isNone_none,if_true,hrec]
     refine ⟨World.putObj_heap_same (Array.getElem?_eq_some_iff.1 hl4).1,(hb5.block D (Array.getElem?_eq_some_iff.1 hD4).1 (by omega)).trans hD4,hb5.cell hn4 (by omega),hb5.cell hx4 (by omega),?_,?_,?_,.inr (by omega)⟩
     · rw [show 32*(j+1)=S by omega];exact hb5.cell hab4 (by omega)
     · exact (World.frozen?_of_block (w:=V4) (hb5.block _ (block_lt_of_cell hab4) (by show ¬w.heap.size+1+1+1=l;omega))).trans hab4f
     · rw [show 32*(j+1)=S by omega];exact hb5.row hrow4 (by omega)
   · simp only [Option.isNone_none,if_true,hrec]
     exact hbutV.trans (hb5.mono (fun k hk => .inl hk))
  have hstop:S=N→∃ v W',(Instr.endRound l (some (.exit 0))).run Tryz.prog V4 = .ok v W'∧(((Ending.returned v = .returned (.bool true)∧ExInv w l D N r0 kv n2 info (j+1) W'∧But (fun k=>k=l∨k=w.heap.size+1∨k=w.heap.size+1+1+1) V W'))∨(Ending.returned v = .returned (.bool false)∧Fin W')):=fun hSN=>by
   refine ⟨_,_,run_endRound (some (.exit 0)) hl4,.inr ⟨rfl,?_⟩⟩
   rw [hFin]
   have hb5:=but_put V4 l (.loop { { r0 with state := .busy } with state := .done,pending:=some (.exit 0) })
   rw [←hSN] at hx4 hrow4 ⊢
   exact ⟨World.putObj_heap_same (Array.getElem?_eq_some_iff.1 hl4).1,(hb5.block D (Array.getElem?_eq_some_iff.1 hD4).1 (by omega)).trans hD4,hb5.cell hx4 (by omega),hb5.row hrow4 (by omega),((hbV'.trans (hbutV.below hbV'.size (by omega))).trans (hb5.below (Nat.le_trans hbV'.size hbutV.size) (by omega)))⟩
  have hSi:((S:Int) == (N:Int))=decide (S=N):=by
   by_cases h:S=N
   · simp [h]
   · have h2:¬((S:Int)=(N:Int)):=by omega
     simp [h,h2]
  clear hS hV4 hbut3 hbut4 hrow4 hbutV hFin hkv e4 e5 e6 e7 e1 e2
  rcases Nat.eq_or_lt_of_le hAN with hNA | hNA
  · have hA0:A=0:=by have:=HA.out;omega
    have hM0:M=0:=by omega
    have hS0:S=0:=by have:=HS.out;omega
    subst hA0
    subst hNA
    subst hM0
    subst hS0
    have hr:=hstop rfl
    simp only [Nat.sub_self,Int.ofNat_zero] at hcM hsl
    have HV4':Hid (V4=V3.setCell ⟨w.heap.size+1+1+1,0,none⟩ (.int .i64 0)):=HV4.out
    have hw0:IntKind.i64.wrap 0=0:=by rfl
    clear hstop hnext hSi hSw hfew hMl
    gi_wp2
    try (refine ⟨V2,hbeg,?_⟩;gi_wp2)
    refine wpIn_mono (Q:=fun e a' W'=>e = .normal∧a'={ tmps:=#[.slice x1 n1 c1,.slice x2 n2 c2,.int .i64 0,undef,undef,.pointer (some ⟨w.heap.size,0,none⟩),.slice none 0 0,.int .i64 0,.pointer (some ⟨w.heap.size+1+1,0,none⟩),.pointer (some ⟨w.heap.size+1+1+1,0,none⟩),.slice (some ⟨g,0,none⟩) 32 32,.int .i64 0,.bool false,.bool false,.int .i64 0,.bool false,.bool false,.int .i64 0,.slice (some ⟨w.heap.size+1,0,none⟩) 0 0,.slice x1 n1 c1,.slice x2 n2 c2,.func (.func 97) #[] #[.pointer (some ⟨w.heap.size+1+1+1+1,0,none⟩),.pointer (some ⟨w.heap.size+1+1+1+1+1,0,none⟩)],.slice (some ⟨g,0,none⟩) 32 32,.int .i64 0,.slice (some ⟨w.heap.size+1,0,none⟩) 0 0,.int .i64 0,.slice (some ⟨w.heap.size+1,0,none⟩) 0 0,.slice (some ⟨g,0,none⟩) 32 32,.int .i64 0,.int .i64 0,undef,undef,undef,undef],defers:=[] }∧W'=V4) ?r ?m
    case r =>
     gi_region_with_o (fail)
     all_goals (rw [←HV4'.out];exact ⟨rfl,rfl,rfl⟩)
    case m =>
     rintro e a' W' ⟨rfl,rfl,hW⟩
     rw [hW]
     clear hW
     gi_wp2
     exact hr
  · have hne:¬(N=A):=by omega
    have hAi:(A:Int)≤(N:Int):=by omega
    gi_wp2
    try (refine ⟨V2,hbeg,?_⟩;gi_wp2)
    refine wpIn_mono (Q:=fun e a' W'=>e = .normal∧a'={ tmps:=#[.slice x1 n1 c1,.slice x2 n2 c2,.int .i64 N,undef,undef,.pointer (some ⟨w.heap.size,0,none⟩),.slice none 0 0,.int .i64 0,.pointer (some ⟨w.heap.size+1+1,0,none⟩),.pointer (some ⟨w.heap.size+1+1+1,0,none⟩),.slice (some ⟨g,0,none⟩) 32 32,.int .i64 N,.bool false,.bool false,.int .i64 N,.bool false,.bool false,.int .i64 N,.slice (some ⟨w.heap.size+1,0,none⟩) N N,.slice x1 n1 c1,.slice x2 n2 c2,.func (.func 97) #[] #[.pointer (some ⟨w.heap.size+1+1+1+1,0,none⟩),.pointer (some ⟨w.heap.size+1+1+1+1+1,0,none⟩)],.slice (some ⟨g,0,none⟩) 32 32,.int .i64 A,.slice (some ⟨w.heap.size+1,0,none⟩) N N,.int .i64 A,.slice (some ⟨w.heap.size+1,A,none⟩) (N - A) (N - A),.slice (some ⟨g,0,none⟩) 32 32,.int .i64 M,.int .i64 S,undef,undef,undef,undef],defers:=[] }∧W'=V4) ?r ?m
    case r =>
     gi_region_with_o (fail)
     all_goals (rw [←HV4.out];exact ⟨rfl,rfl,rfl⟩)
    case m =>
     rintro e a' W' ⟨rfl,rfl,hW⟩
     rw [hW]
     clear hW
     by_cases hSN:S=N
     · have hr:=hstop hSN
       clear hstop hnext
       rw [decide_eq_true hSN] at hSi
       gi_wp2
       exact hr
     · have hr:=hnext hSN
       clear hstop hnext
       rw [decide_eq_false hSN] at hSi
       gi_wp2
       exact hr
 refine (hiter_in (n - 1) w hT x1 x2 n1 n2 c1 c2 ks info hks hinfo hn1 hn2 hk hi l (w.heap.size+1+1+1+1) (w.heap.size+1+1+1+1+1) (fun k=>k=l∨k=w.heap.size+1∨k=w.heap.size+1+1+1) (fun k hk=>by omega) (by omega) (ExInv w l D N r0 kv n2 info) Fin (fun j W W' h hb=>h.below hb) (fun W h=>by have:=h.few;omega) W1 hbw1 (fun k hk=>by omega) ((hb1.cell (block_lt_of_cell q4)).trans q4) ((hb1.cell (block_lt_of_cell q5)).trans q5) hY hI0).mono ?_
 rintro e W2 ⟨⟨v,rfl⟩,hF⟩
 rw [hFin] at hF
 obtain ⟨hl2,hD2,hx2,hr2,hb2⟩:=hF
 refine ⟨some (.exit 0),_,run_endLoop hl2 (by simp),?_⟩
 obtain ⟨V,hV⟩:∃ V,V=W2.putObj l (.loop { { r0 with state := .done,pending:=some (.exit 0) } with state := .exhausted }):=⟨_,rfl⟩
 have hbV:But (fun k=>k=l) W2 V:=by rw [hV];exact but_put _ _ _
 have hDV:V.heap[D]? = some (.deferred (some [])):=(hbV.block _ (Array.getElem?_eq_some_iff.1 hD2).1 (by omega)).trans hD2
 have hxV:=hbV.cell hx2 (by omega)
 have hrV:=hbV.row hr2 (by omega)
 have hBV:Below w.heap.size w V:=hb2.trans (hbV.below hb2.size (by omega))
 rw [←hV]
 obtain ⟨V2,hV2⟩:∃ V2,V2=V.putObj D (.deferred none):=⟨_,rfl⟩
 have hbV2:But (fun k=>k=D) V V2:=by rw [hV2];exact but_put _ _ _
 have hfin:RowAt .u8 V2 (w.heap.size+1) 0 N (outF kv n2 info N)∧Below w.heap.size w V2:=⟨hbV2.row hrV (by omega),hBV.trans (hbV2.below hBV.size (by omega))⟩
 clear hV hY hI0 hFin hl2 hD2 hx2 hr2 hb2 hb1 hl1 hD1
 gi_wp2
 refine ⟨by simp,.inl ⟨_,_,rfl,run_takeDeferred hDV,?_⟩⟩
 rw [←hV2,←hkv]
 exact ⟨_,results_tmp2 rfl _ _ _,w.heap.size+1,rfl,by omega,hfin.1,hfin.2⟩
theorem expand_any (x1 x2:Option Addr) (n1 n2 c1 c2:Nat) (ks info:Nat→Nat) (hks:∀ j,ks j<256) (hinfo:∀ j,info j<256) (hn1:n1<2305843009213693000) (hn2:n2<2305843009213692000) (w:World) (hT:HTab w cubeK squareK) (hk:BytesIn w (.slice x1 n1 c1) n1 ks) (hi:BytesIn w (.slice x2 n2 c2) n2 info) (N:Nat) (hN:N≤8160) :
 Calls Tryz.prog 50 #[.slice x1 n1 c1,.slice x2 n2 c2,.int .i64 N] w fun e w'=>∃ g,e = .returned (.tuple #[.slice (some ⟨g,0,none⟩) N N,.int .i64 0])∧w.heap.size≤g∧RowAt .u8 w' g 0 N (outF (keyB n1 ks) n2 info N)∧Below w.heap.size w w' :=
 callsIn_wide.1 (expand_in 9 x1 x2 n1 n2 c1 c2 ks info hks hinfo hn1 hn2 w hT hk hi N hN)
end Go.Proofs.YtcgkajlehdgpoaaGreatDoor
namespace Go.Proofs.YtcgkajlehdgpoaaGreatDoor
open Go.RowKit
def litB (l:List Nat):Nat→Nat:=fun j=>l.getD j 0
def lV1:List Nat:=[72,80,75,69,45,118,49]
def lKem:List Nat:=[75,69,77,0,32]
def lAll:List Nat:=[72,80,75,69,0,32,0,1,0,1]
theorem run_append_full (w:World) (base:Nat) (b a:Addr) (n cap m c:Nat) (X Y:Nat→Nat) (hX:∀ j,j<n→w.cell? (b.add j)=some (.int .u8 (X j))) (hY:∀ j,j<m→w.cell? (a.add j)=some (.int .u8 (Y j))) (hc:cap<n+m) (hl:n+m≤1000000) (hbase:base≤w.heap.size) :
 ∃ v' w',(Builtin.append_ #[22,22] 22 #[.slice (some b) n cap,.slice (some a) m c]).run Tryz.prog w = .ok v' w'∧Own base w' v' (n+m) (cat n X Y)∧Below base w w':=by
 obtain ⟨i0,hi,hz0,hz1,hz2⟩:=info_parts Tryz.info5
 have at_:∀ (k:Nat) (Z:Nat→Nat) (d:Addr),(∀ j,j<k→w.cell? (d.add j)=some (.int .u8 (Z j)))→∀ j v,(ints .u8 k Z)[j]? = some v→w.cell? (d.add j)=some v:=fun k Z d h j v hv=>by
  have hj:j<k:=by have:=(List.getElem?_eq_some_iff.1 hv).1;rwa [ints_len] at this
  rw [ints_at .u8 k Z j hj] at hv
  rw [←hv];exact h j hj
 have h:=run_append_grow (P:=Tryz.prog) (w:=w) 22 22 5 i0 (.int .u8 0) Tryz.underlying22 hi hz0 b n cap (ints .u8 n X) (by rw [ints_len,hz1,Nat.mul_one]) (at_ n X b hX) a m c (ints .u8 m Y) (by rw [ints_len,hz1,Nat.mul_one]) (at_ m Y a hY) hc (by omega) (growslice_fits hc (by rw [hz2];omega))
 have hge:=grownCap_ge w (n+m) cap 5
 have hle:=grownCap_le_maxLen w (n+m) cap 5 (by unfold maxLen;omega)
 obtain ⟨G,hG⟩:∃ G,G=grownCap w (n+m) cap 5:=⟨_,rfl⟩
 rw [←hG] at h hge hle
 refine ⟨_,_,h,⟨by rw [ints_len,Nat.mul_one],.inr ⟨w.heap.size,G,_,rfl,hbase,heap_alloc_new w.drew _,hge,hle,?_,?_⟩⟩,?_⟩
 · have hz:(Value.int .u8 0).cells.size=1:=rfl
   simp only [Array.size_append,List.size_toArray,ints_len,size_zeroCells,hz]
   omega
 · rw [Nat.mul_one,Array.toList_append,Array.toList_append,List.toList_toArray,List.toList_toArray,ints_add,List.take_append_of_le_length (by rw [ints_len];omega),List.take_of_length_le (by rw [ints_len];omega)]
 · exact ((Below.refl base w).drew).alloc hbase _
theorem add0 (g j:Nat):(⟨g,0,none⟩:Addr).add j=⟨g,j,none⟩:=by
 unfold Addr.add
 split
 · subst_vars;rfl
 · simp
theorem wpList_append_full {w:World} {ops:Array Oper} {rest:List Oper} {o:Oper} {a:Act} {Q:Exit→Act→World→Prop} (hgd:o.guard=none) (s x:Operand)
 (ho:o.op = .call { callee := .builtin .append,args:=#[s,x],argTypes:=#[22,22] }) (hty:o.type=22) (base p q n cap m c:Nat) (X Y:Nat→Nat) (hs:a.eval s = .slice (some ⟨p,0,none⟩) n cap) (hx:a.eval x = .slice (some ⟨q,0,none⟩) m c)
 (hX:∀ j,j<n→w.cell? ⟨p,j,none⟩=some (.int .u8 (X j))) (hY:∀ j,j<m→w.cell? ⟨q,j,none⟩=some (.int .u8 (Y j))) (hc:cap<n+m) (hl:n+m≤1000000) (hbase:base≤w.heap.size)
 (h:∀ v' w',Own base w' v' (n+m) (cat n X Y)→Below base w w'→wpList Tryz.prog ops Q rest (a.put o.dst v') w'):wpList Tryz.prog ops Q (o :: rest) a w:=by
 obtain ⟨v',w',hrun,h1,h2⟩:=run_append_full w base ⟨p,0,none⟩ ⟨q,0,none⟩ n cap m c X Y (fun j hj=>by rw [add0];exact hX j hj) (fun j hj=>by rw [add0];exact hY j hj) hc hl hbase
 have hw:Region.wanted o (yielded ops a.tmps)=true:=by simp [Region.wanted,hgd]
 unfold wpList
 rw [if_pos hw]
 unfold Oper.wp
 simp [execOp,ho,hty,resolve,invoke,builtin,hs,hx,hrun,Result.andThen]
 exact .inl (h v' w' h1 h2)
def litV (l:List Nat):Array Value:=(l.map fun (x:Nat)=>Value.int .u8 (x:Int)).toArray
theorem lit_cell (W:World) (l:List Nat) (t:TypeId) (f:Nat × Nat) (j:Nat) (hj:j<l.length):(W.alloc (.cells (litV l) t f)).cell? ⟨W.heap.size,j,none⟩=some (.int .u8 (litB l j)):=by
 unfold World.cell?
 rw [heap_alloc_new]
 simp [litV,litB,hj]
theorem litB_B:∀ (w:World) (l:List Nat) (f:Nat × Nat),BytesIn (w.alloc (.cells (litV l) 5 f)) (.slice (some ⟨w.heap.size,0,none⟩) l.length l.length) l.length (litB l):=fun w l f =>
 .inr ⟨w.heap.size,0,l.length,rfl,by simp,Nat.le_refl _,fun j hj=>by rw [Nat.zero_add];exact lit_cell w l _ f j hj⟩
theorem convC (W:World) (l:List Nat):(convert 22 22 (.slice (some ⟨W.heap.size,0,none⟩) l.length l.length)).run Tryz.prog (W.alloc (.cells (litV l) 5)) = .ok (.slice (some ⟨W.heap.size,0,none⟩) l.length l.length) (W.alloc (.cells (litV l) 5 (l.length,l.length+1))):=by
 have h:=Lib.run_convert_bytes_const (P:=Tryz.prog) W 22 5 (litV l) l.length l.length Tryz.underlying22 Tryz.underlying5
 rw [h]
 simp [litV]
end Go.Proofs.YtcgkajlehdgpoaaGreatDoor
namespace Go.Proofs.YtcgkajlehdgpoaaGreatDoor
open Go.RowKit
def catL:List (Nat × (Nat→Nat))→Nat→Nat
 | []=>fun _=>0
 | p :: r=>cat p.1 p.2 (catL r)
def lenL:List (Nat × (Nat→Nat))→Nat
 | []=>0
 | p :: r=>p.1+lenL r
theorem catL_lt:∀ (ps:List (Nat × (Nat→Nat))),(∀ p,p∈ps→∀ j,p.2 j<256)→∀ j,catL ps j<256
 | [],_,j=>by show 0<256;decide
 | p :: r,h,j=>cat_lt (h p (List.mem_cons_self ..)) (catL_lt r fun q hq=>h q (List.mem_cons_of_mem _ hq)) j
theorem catL_at:∀ (ps:List (Nat × (Nat→Nat))) (i:Nat) (p:Nat × (Nat→Nat)),ps[i]? = some p→∀ j,j<p.1→catL ps (lenL (ps.take i)+j)=p.2 j
 | [],i,p,h=>by simp at h
 | q :: r,0,p,h=>by
  simp only [List.getElem?_cons_zero,Option.some.injEq] at h
  subst h
  intro j hj
  show cat q.1 q.2 (catL r) (0+j)=q.2 j
  rw [Nat.zero_add]
  exact cat_left hj
 | q :: r,i+1,p,h=>by
  intro j hj
  show cat q.1 q.2 (catL r) ((q.1+lenL (r.take i))+j)=p.2 j
  rw [Nat.add_assoc,cat_right]
  exact catL_at r i p (by simpa using h) j hj
theorem lenL_succ:∀ (ps:List (Nat × (Nat→Nat))) (i:Nat) (p:Nat × (Nat→Nat)),ps[i]? = some p→lenL (ps.take (i+1))=lenL (ps.take i)+p.1
 | [],i,p,h=>by simp at h
 | q :: r,0,p,h=>by
  simp only [List.getElem?_cons_zero,Option.some.injEq] at h
  subst h
  show q.1+0=0+q.1
  omega
 | q :: r,i+1,p,h=>by
  show q.1+lenL (r.take (i+1))=q.1+lenL (r.take i)+p.1
  rw [lenL_succ r i p (by simpa using h),Nat.add_assoc]
theorem lenL_take_le:∀ (ps:List (Nat × (Nat→Nat))) (i:Nat),lenL (ps.take i)≤lenL ps
 | [],i=>by simp
 | q :: r,0=>Nat.zero_le _
 | q :: r,i+1=>Nat.add_le_add_left (lenL_take_le r i) _
theorem BytesIn.cong {w:World} {v:Value} {n:Nat} {a b:Nat→Nat} (h:BytesIn w v n a) (e:∀ j,j<n→a j=b j):BytesIn w v n b:=by
 rcases h with h | ⟨bb,ob,cap,rfl,h1,h2,h3⟩
 · exact .inl h
 · exact .inr ⟨bb,ob,cap,rfl,h1,h2,fun j hj=>by rw [h3 j hj,e j hj]⟩
theorem parts_list (w:World) (ps:List (Value × Nat × (Nat→Nat))) (ty:TypeId) (h:∀ p,p∈ps→BytesIn w p.1 p.2.1 p.2.2) :
 Parts (w.alloc (.cells (ps.map (·.1)).toArray ty)) w.heap.size ps.length (lenL (ps.map (·.2))) (catL (ps.map (·.2))):=by
 refine ⟨fun i=>((ps.map (·.1))[i]?).getD (.bool false),fun i=>lenL ((ps.map (·.2)).take i),rfl,by show lenL (List.take ps.length _)=_;rw [List.take_of_length_le (by simp)],fun i hi => ?_⟩
 have hp:ps[i]? = some ps[i]:=List.getElem?_eq_getElem hi
 have hp2:(ps.map (·.2))[i]? = some ps[i].2:=by simp [hp]
 have hs:=lenL_succ _ i _ hp2
 have hb:=(h ps[i] (List.getElem_mem hi)).keep ((Below.refl _ w).alloc (Nat.le_refl _) (.cells (ps.map (·.1)).toArray ty))
 have hv:((ps.map (·.1))[i]?).getD (.bool false)=ps[i].1:=by simp [hp]
 refine ⟨by simp [hp],?_,lenL_take_le _ _,?_⟩
 · show lenL ((ps.map (·.2)).take i)≤lenL ((ps.map (·.2)).take (i+1))
   rw [hs];exact Nat.le_add_right _ _
 · show BytesIn _ (((ps.map (·.1))[i]?).getD (.bool false)) (lenL ((ps.map (·.2)).take (i+1)) - lenL ((ps.map (·.2)).take i)) _
   rw [hs,Nat.add_sub_cancel_left,hv]
   exact hb.cong fun j hj=>(catL_at _ i _ hp2 j hj).symm
def lxT (suite label:List Nat) (m:Nat) (ikm:Nat→Nat):List (Nat × (Nat→Nat)):=[(7,litB lV1),(suite.length,litB suite),(label.length,litB label),(m,ikm)]
def leT (suite label:List Nat) (m:Nat) (info:Nat→Nat) (N:Nat):List (Nat × (Nat→Nat)):=(2,litB [N / 256%256,N%256]) :: lxT suite label m info
def lxN (suite:List Nat) (sn:Nat) (salt:Nat→Nat) (label:List Nat) (m:Nat) (ikm:Nat→Nat):Nat→Nat:=tagH (keyB sn salt) (lenL (lxT suite label m ikm)) (catL (lxT suite label m ikm))
def leN (suite:List Nat) (pn:Nat) (prk:Nat→Nat) (label:List Nat) (m:Nat) (info:Nat→Nat) (N:Nat):Nat→Nat:=outF (keyB pn prk) (lenL (leT suite label m info N)) (catL (leT suite label m info N)) N
def lDkp:List Nat:=[100,107,112,95,112,114,107]
def lSk:List Nat:=[115,107]
def lEae:List Nat:=[101,97,101,95,112,114,107]
def lSs:List Nat:=[115,104,97,114,101,100,95,115,101,99,114,101,116]
def lPsk:List Nat:=[112,115,107,95,105,100,95,104,97,115,104]
def lInf:List Nat:=[105,110,102,111,95,104,97,115,104]
def lSecr:List Nat:=[115,101,99,114,101,116]
def lKey:List Nat:=[107,101,121]
def lBn:List Nat:=[98,97,115,101,95,110,111,110,99,101]
def lExp:List Nat:=[101,120,112]
def lZ:Nat→Nat:=fun _=>0
def dsN (m:Nat) (ikm:Nat→Nat):Nat→Nat:=leN lKem 32 (lxN lKem 0 lZ lDkp m ikm) lSk 0 lZ 32
def shN2 (dh enc pub:Nat→Nat):Nat→Nat:=leN lKem 32 (lxN lKem 0 lZ lEae 32 dh) lSs 64 (catL [(32,enc),(32,pub)]) 32
def cxN (m:Nat) (info:Nat→Nat):Nat→Nat:=catL [(1,lZ),(32,lxN lAll 0 lZ lPsk 0 lZ),(32,lxN lAll 0 lZ lInf m info)]
def csN (sh:Nat→Nat):Nat→Nat:=lxN lAll 32 sh lSecr 0 lZ
def ckN (label:List Nat) (N:Nat) (sh:Nat→Nat) (m:Nat) (info:Nat→Nat):Nat→Nat:=leN lAll 32 (csN sh) label 65 (cxN m info) N
def ncN (nn:Nat→Nat) (k:Nat):Nat→Nat:=fun j=>if j<4 then nn j else nn j ^^^ (k / 2 ^ (8*(11 - j))%256)
end Go.Proofs.YtcgkajlehdgpoaaGreatDoor
namespace Go.Proofs.YtcgkajlehdgpoaaGreatDoor
open Go.RowKit
set_option maxRecDepth 20000 in
theorem rkem_any (w:World):Calls Tryz.prog 32 #[] w fun e w'=>∃ s,e = .returned s∧Own w.heap.size w' s 5 (litB lKem)∧Below w.heap.size w w':=by
 have hc:(convert 22 22 (.slice (some ⟨w.heap.size,0,none⟩) 3 3)).run Tryz.prog (w.alloc (.cells #[.int .u8 75,.int .u8 69,.int .u8 77] 5)) = .ok (.slice (some ⟨w.heap.size,0,none⟩) 3 3) (w.alloc (.cells #[.int .u8 75,.int .u8 69,.int .u8 77] 5 (3,4))):=convC w [75,69,77]
 have h1:∀ j,j<3→((w.alloc (.cells #[.int .u8 75,.int .u8 69,.int .u8 77] 5 (3,4))).alloc (.cells #[.int .u8 0,.int .u8 32] 5)).cell? ⟨w.heap.size,j,none⟩=some (.int .u8 (litB [75,69,77] j)):=fun j hj=>Lib.cell?_alloc_marked _ (lit_cell w [75,69,77] 5 (3,4) j hj)
 have h2:∀ j,j<2→((w.alloc (.cells #[.int .u8 75,.int .u8 69,.int .u8 77] 5 (3,4))).alloc (.cells #[.int .u8 0,.int .u8 32] 5)).cell? ⟨w.heap.size+1,j,none⟩=some (.int .u8 (litB [0,32] j)):=fun j hj=>by
  have:=lit_cell (w.alloc (.cells #[.int .u8 75,.int .u8 69,.int .u8 77] 5 (3,4))) [0,32] 5 (0,0) j hj
  rw [World.size_alloc] at this
  exact this
 have hb:Below w.heap.size w ((w.alloc (.cells #[.int .u8 75,.int .u8 69,.int .u8 77] 5 (3,4))).alloc (.cells #[.int .u8 0,.int .u8 32] 5)):=((Below.refl _ _).alloc (Nat.le_refl _) _).alloc (by simp) _
 have he:∀ j,j<5→cat 3 (litB [75,69,77]) (litB [0,32]) j=litB lKem j:=by decide
 go_enter Tryz.func32,Tryz.ntmps32
 go_wp2_with (first
  | rw [hc]
  | (at_builtin;refine wpList_append_full rfl (.tmp 2) (.tmp 3) rfl rfl w.heap.size w.heap.size (w.heap.size+1) 3 3 2 2 (litB [75,69,77]) (litB [0,32]) rfl rfl h1 h2 (by decide) (by decide) hb.size ?_;intro v4 w4 own4 hb4))
 go_ret
 exact ⟨v4,rfl,own4.congr he,hb.trans hb4⟩
set_option maxRecDepth 20000 in
theorem rall_any (w:World):Calls Tryz.prog 41 #[] w fun e w'=>∃ s,e = .returned s∧Own w.heap.size w' s 10 (litB lAll)∧Below w.heap.size w w':=by
 have hc:(convert 22 22 (.slice (some ⟨w.heap.size,0,none⟩) 4 4)).run Tryz.prog (w.alloc (.cells #[.int .u8 72,.int .u8 80,.int .u8 75,.int .u8 69] 5)) = .ok (.slice (some ⟨w.heap.size,0,none⟩) 4 4) (w.alloc (.cells #[.int .u8 72,.int .u8 80,.int .u8 75,.int .u8 69] 5 (4,5))):=convC w [72,80,75,69]
 have h1:∀ j,j<4→((w.alloc (.cells #[.int .u8 72,.int .u8 80,.int .u8 75,.int .u8 69] 5 (4,5))).alloc (.cells #[.int .u8 0,.int .u8 32,.int .u8 0,.int .u8 1,.int .u8 0,.int .u8 1] 5)).cell? ⟨w.heap.size,j,none⟩=some (.int .u8 (litB [72,80,75,69] j)):=fun j hj=>Lib.cell?_alloc_marked _ (lit_cell w [72,80,75,69] 5 (4,5) j hj)
 have h2:∀ j,j<6→((w.alloc (.cells #[.int .u8 72,.int .u8 80,.int .u8 75,.int .u8 69] 5 (4,5))).alloc (.cells #[.int .u8 0,.int .u8 32,.int .u8 0,.int .u8 1,.int .u8 0,.int .u8 1] 5)).cell? ⟨w.heap.size+1,j,none⟩=some (.int .u8 (litB [0,32,0,1,0,1] j)):=fun j hj=>by
  have:=lit_cell (w.alloc (.cells #[.int .u8 72,.int .u8 80,.int .u8 75,.int .u8 69] 5 (4,5))) [0,32,0,1,0,1] 5 (0,0) j hj
  rw [World.size_alloc] at this
  exact this
 have hb:Below w.heap.size w ((w.alloc (.cells #[.int .u8 72,.int .u8 80,.int .u8 75,.int .u8 69] 5 (4,5))).alloc (.cells #[.int .u8 0,.int .u8 32,.int .u8 0,.int .u8 1,.int .u8 0,.int .u8 1] 5)):=((Below.refl _ _).alloc (Nat.le_refl _) _).alloc (by simp) _
 have he:∀ j,j<10→cat 4 (litB [72,80,75,69]) (litB [0,32,0,1,0,1]) j=litB lAll j:=by decide
 go_enter Tryz.func41,Tryz.ntmps41
 go_wp2_with (first
  | rw [hc]
  | (at_builtin;refine wpList_append_full rfl (.tmp 2) (.tmp 3) rfl rfl w.heap.size w.heap.size (w.heap.size+1) 4 4 6 6 (litB [72,80,75,69]) (litB [0,32,0,1,0,1]) rfl rfl h1 h2 (by decide) (by decide) hb.size ?_;intro v4 w4 own4 hb4))
 go_ret
 exact ⟨v4,rfl,own4.congr he,hb.trans hb4⟩
end Go.Proofs.YtcgkajlehdgpoaaGreatDoor
