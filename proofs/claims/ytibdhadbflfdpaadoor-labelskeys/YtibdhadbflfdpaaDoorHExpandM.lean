/- What the proof stands on: HExpand, QApp, QMath, HRefBlock, HRefTab, HRefSum, HRefHmac, HRefExpand, QRX. -/
import Derived.Test.YtibdhadbflfdpaaDoorBaseM
import Derived.Test.YtibdhadbflfdpaaDoorHPlainM
import Derived.Test.YtibdhadbflfdpaaDoorHStartM
import Derived.Deep.Cut
import Derived.Deep.RegionWith
import Derived.Lib.ConvBytes
import Derived.Lib.SlBytesConst
namespace Go.Proofs.YtibdhadbflfdpaaDoor
open Go.RowKit Go.Shelf
attribute [local go_sem] Oper.semAt_some
theorem one_box (w:World) (v:Value) (t:TypeId):(w.alloc (.cells #[v] t)).cell? ⟨w.heap.size,0,none⟩=some v∧(w.alloc (.cells #[v] t)).frozen? ⟨w.heap.size,0,none⟩=false:=by simp
theorem expand_start (w:World) (N:Nat) (v1 v2:Value) (w':World)
 (hw:w'=(((((w.alloc (.cells #[.int .i64 N] 3)).alloc (.cells (zb N) 5)).alloc (.cells #[.slice (some ⟨w.heap.size+1,0,none⟩) N N] 22)).alloc (.cells #[.int .i64 0] 3)).alloc (.cells #[v1] 22)).alloc (.cells #[v2] 22)) :
 w'.heap.size=w.heap.size+6∧Below w.heap.size w w'∧w'.cell? ⟨w.heap.size,0,none⟩=some (.int .i64 N)∧RowAt .u8 w' (w.heap.size+1) 0 N (fun _=>0)∧w'.cell? ⟨w.heap.size+1+1,0,none⟩=some (.slice (some ⟨w.heap.size+1,0,none⟩) N N) ∧
  w'.cell? ⟨w.heap.size+1+1+1,0,none⟩=some (.int .i64 0)∧w'.frozen? ⟨w.heap.size+1+1+1,0,none⟩=false∧w'.cell? ⟨w.heap.size+1+1+1+1,0,none⟩=some v1∧w'.cell? ⟨w.heap.size+1+1+1+1+1,0,none⟩=some v2:=by
 obtain ⟨a1,e1⟩:∃ a,a=w.alloc (.cells #[.int .i64 N] 3):=⟨_,rfl⟩
 obtain ⟨a2,e2⟩:∃ a,a=a1.alloc (.cells (zb N) 5):=⟨_,rfl⟩
 obtain ⟨a3,e3⟩:∃ a,a=a2.alloc (.cells #[.slice (some ⟨w.heap.size+1,0,none⟩) N N] 22):=⟨_,rfl⟩
 obtain ⟨a4,e4⟩:∃ a,a=a3.alloc (.cells #[.int .i64 0] 3):=⟨_,rfl⟩
 obtain ⟨a5,e5⟩:∃ a,a=a4.alloc (.cells #[v1] 22):=⟨_,rfl⟩
 have s1:a1.heap.size=w.heap.size+1:=by rw [e1];simp
 have s2:a2.heap.size=w.heap.size+1+1:=by rw [e2,World.size_alloc,s1]
 have s3:a3.heap.size=w.heap.size+1+1+1:=by rw [e3,World.size_alloc,s2]
 have s4:a4.heap.size=w.heap.size+1+1+1+1:=by rw [e4,World.size_alloc,s3]
 have s5:a5.heap.size=w.heap.size+1+1+1+1+1:=by rw [e5,World.size_alloc,s4]
 have e6:w'=a5.alloc (.cells #[v2] 22):=by rw [hw,e5,e4,e3,e2,e1]
 have b0:Below w.heap.size w a1:=by rw [e1];exact (Below.refl _ _).alloc (Nat.le_refl _) _
 have b1:Below a1.heap.size a1 a2:=by rw [e2];exact (Below.refl _ _).alloc (Nat.le_refl _) _
 have b2:Below a2.heap.size a2 a3:=by rw [e3];exact (Below.refl _ _).alloc (Nat.le_refl _) _
 have b3:Below a3.heap.size a3 a4:=by rw [e4];exact (Below.refl _ _).alloc (Nat.le_refl _) _
 have b4:Below a4.heap.size a4 a5:=by rw [e5];exact (Below.refl _ _).alloc (Nat.le_refl _) _
 have b5:Below a5.heap.size a5 w':=by rw [e6];exact (Below.refl _ _).alloc (Nat.le_refl _) _
 have t4:=b4.trans (b5.mono (by omega))
 have t3:=b3.trans (t4.mono (by omega))
 have t2:=b2.trans (t3.mono (by omega))
 have t1:=b1.trans (t2.mono (by omega))
 have hr:RowAt .u8 a2 a1.heap.size 0 N (fun _=>0):=by rw [e2];exact RowAt.fresh (fun j hj=>zb_at N j hj)
 have c0:=one_box w (.int .i64 N) 3
 have c2:=one_box a2 (.slice (some ⟨w.heap.size+1,0,none⟩) N N) 22
 have c3:=one_box a3 (.int .i64 0) 3
 have c4:=one_box a4 v1 22
 have c5:=one_box a5 v2 22
 rw [←e1] at c0
 rw [←e3,s2] at c2
 rw [←e4,s3] at c3
 rw [←e5,s4] at c4
 rw [←e6,s5] at c5
 refine ⟨by rw [e6,World.size_alloc,s5],b0.trans (t1.mono (by omega)),(t1.cell (p:=⟨w.heap.size,0,none⟩) (by show w.heap.size<_;omega)).trans c0.1,?_,(t3.cell (p:=⟨w.heap.size+1+1,0,none⟩) (by show w.heap.size+1+1<_;omega)).trans c2.1,(t4.cell (p:=⟨w.heap.size+1+1+1,0,none⟩) (by show w.heap.size+1+1+1<_;omega)).trans c3.1,(t4.frozen (p:=⟨w.heap.size+1+1+1,0,none⟩) (by show w.heap.size+1+1+1<_;omega)).trans c3.2,(b5.cell (p:=⟨w.heap.size+1+1+1+1,0,none⟩) (by show w.heap.size+1+1+1+1<_;omega)).trans c4.1,c5.1⟩
 have:=hr.below t2 (by omega)
 rw [s1] at this
 exact this
def outF (kv:Nat→Nat) (m:Nat) (info:Nat→Nat) (a:Nat):Nat→Nat:=fun q=>if q<a then tE kv m info (q / 32+1) (q%32) else 0
structure ExInv (w:World) (l D N:Nat) (rec:Loop) (kv:Nat→Nat) (m:Nat) (info:Nat→Nat) (j:Nat) (W:World):Prop where
 lp:W.heap[l]? = some (.loop rec)
 dfr:W.heap[D]? = some (.deferred (some []))
 nb:W.cell? ⟨w.heap.size,0,none⟩=some (.int .i64 N)
 xb:W.cell? ⟨w.heap.size+1+1,0,none⟩=some (.slice (some ⟨w.heap.size+1,0,none⟩) N N)
 ab:W.cell? ⟨w.heap.size+1+1+1,0,none⟩=some (.int .i64 (32*j:Nat))
 abf:W.frozen? ⟨w.heap.size+1+1+1,0,none⟩=false
 row:RowAt .u8 W (w.heap.size+1) 0 N (outF kv m info (32*j))
 few:j=0∨32*j<N
theorem ExInv.below {w:World} {l D N:Nat} {rec:Loop} {kv:Nat→Nat} {m:Nat} {info:Nat→Nat} {j:Nat} {W W':World} (h:ExInv w l D N rec kv m info j W) (hb:Below W.heap.size W W'):ExInv w l D N rec kv m info j W' :=
 ⟨(hb.block l (Array.getElem?_eq_some_iff.1 h.lp).1).trans h.lp,(hb.block D (Array.getElem?_eq_some_iff.1 h.dfr).1).trans h.dfr,(hb.cell (block_lt_of_cell h.nb)).trans h.nb,(hb.cell (block_lt_of_cell h.xb)).trans h.xb,(hb.cell (block_lt_of_cell h.ab)).trans h.ab,(hb.frozen (block_lt_of_cell h.ab)).trans h.abf,fun q hq=>⟨(hb.cell (block_lt_of_cell (h.row q hq).1)).trans (h.row q hq).1,(hb.frozen (block_lt_of_cell (h.row q hq).1)).trans (h.row q hq).2⟩,h.few⟩
set_option maxRecDepth 100000 in
set_option maxHeartbeats 4000000 in
theorem expand_in (n:Nat) (x1 x2:Option Addr) (n1 n2 c1 c2:Nat) (ks info:Nat→Nat) (hks:∀ j,ks j<256) (hinfo:∀ j,info j<256) (hn1:n1<2305843009213693000) (hn2:n2<2305843009213692000) (w:World) (hT:HTab w cubeK squareK) (hk:BytesIn w (.slice x1 n1 c1) n1 ks) (hi:BytesIn w (.slice x2 n2 c2) n2 info) (N:Nat) (hN:N≤8160) :
 CallsIn Fence.wide n Tryd.prog 18 #[.slice x1 n1 c1,.slice x2 n2 c2,.int .i64 N] w fun e w'=>∃ g,e = .returned (.tuple #[.slice (some ⟨g,0,none⟩) N N,.int .i64 0])∧w.heap.size≤g∧RowAt .u8 w' g 0 N (outF (keyB n1 ks) n2 info N)∧Below w.heap.size w w':=by
 have hmk:=fun W=>make_bytes W N N rfl (by omega)
 have hNi:¬((N:Int)<0):=by omega
 have hNj:¬(8160<(N:Int)):=by omega
 have htags:=fun W=>tags_any x1 x2 n1 n2 c1 c2 W
 refine callsIn_of_wp_marks Tryd.func18 rfl trivial ?_ rfl
 simp only [Tryd.ntmps18,List.size_toArray,List.length_cons,List.length_nil,Nat.reduceAdd,Nat.reduceSub,Array.replicate_succ,Array.replicate_zero,List.push_toArray,List.append_toArray,List.nil_append,List.cons_append]
 gi_wp2_with (first
  | (refine ⟨trivial,(fun h=>by cases h),?_⟩;gi_at_call 31;refine (callsIn_wide.2 (htags _)).mono ?_;rintro e w' ⟨rfl,hw'⟩))
 obtain ⟨s6,hbw,q0,qr,q2,q3,q3f,q4,q5⟩:=expand_start w N _ _ w' hw'
 rw [←hw']
 clear hw' hmk htags
 obtain ⟨kv,hkv⟩:∃ kv,kv=keyB n1 ks:=⟨_,rfl⟩
 refine wpIn_range_with rfl (fun _=>trivial) (fun h=>by cases h) rfl (enters_of Tryd.func41 (by kernel_rfl) rfl) (fun r0 e1 e2 e4 e5 e6 e7 => ?_)
 obtain ⟨W1,hW1⟩:∃ W1,W1=(w'.alloc (.deferred (some []))).alloc (.loop r0):=⟨_,rfl⟩
 obtain ⟨l,hl⟩:∃ l,l=w'.heap.size+1:=⟨_,rfl⟩
 have hb1:Below w'.heap.size w' W1:=by rw [hW1];exact ((Below.refl _ _).alloc (Nat.le_refl _) _).alloc (by simp) _
 have hl1:W1.heap[l]? = some (.loop r0):=by
  rw [hW1,hl];have:=World.alloc_heap_new (w'.alloc (.deferred (some []))) (.loop r0);rwa [World.size_alloc] at this
 have hD1:W1.heap[w'.heap.size]? = some (.deferred (some [])):=by
  rw [hW1];exact (Below.heap_alloc _ _ _ (by simp)).trans (World.alloc_heap_new w' _)
 rw [←hW1,←hl]
 have hs1:W1.heap.size=w'.heap.size+2:=by rw [hW1];simp
 obtain ⟨D,hD⟩:∃ D,D=w'.heap.size:=⟨_,rfl⟩
 have hD6:w.heap.size+5<D:=by omega
 have hDl:D<l:=by omega
 have hlW:l<W1.heap.size:=by omega
 have hqb:∀ {b:Nat} {v:Value},w'.cell? ⟨b,0,none⟩=some v→b<w'.heap.size:=fun h=>block_lt_of_cell h
 have hq6:w.heap.size+1<w'.heap.size:=by omega
 rw [←hD] at hD1 ⊢
 clear hW1 hl hs1 hD s6
 have hbw1:Below w.heap.size w W1:=hbw.trans (hb1.mono (by omega))
 have hI0:ExInv w l D N r0 kv n2 info 0 W1:=⟨hl1,hD1,(hb1.cell (block_lt_of_cell q0)).trans q0,(hb1.cell (block_lt_of_cell q2)).trans q2,(hb1.cell (block_lt_of_cell q3)).trans q3,(hb1.frozen (block_lt_of_cell q3)).trans q3f,fun q hq=>by
  have:=(qr.below hb1 (by omega)) q hq
  simpa [outF] using this,.inl rfl⟩
 obtain ⟨Fin,hFin⟩:∃ Fin:World→Prop,Fin=fun W=>W.heap[l]? = some (.loop { r0 with state := .done,pending:=some (.exit 0) })∧W.heap[D]? = some (.deferred (some []))∧W.cell? ⟨w.heap.size+1+1,0,none⟩=some (.slice (some ⟨w.heap.size+1,0,none⟩) N N)∧RowAt .u8 W (w.heap.size+1) 0 N (outF kv n2 info N)∧Below w.heap.size w W:=⟨_,rfl⟩
 have hY:∀ j g W1,j<255→ExInv w l D N r0 kv n2 info j W1→RowAt .u8 W1 g 0 32 (tE (keyB n1 ks) n2 info (j+1))→¬(g=l∨g=w.heap.size+1∨g=w.heap.size+1+1+1)→Below w.heap.size w W1→YieldAt Fence.wide (n - 1 - 1) Tryd.prog l #[.slice (some ⟨g,0,none⟩) 32 32] W1 fun e W' =>
  (e = .returned (.bool true)∧ExInv w l D N r0 kv n2 info (j+1) W'∧But (fun k=>k=l∨k=w.heap.size+1∨k=w.heap.size+1+1+1) W1 W')∨(e = .returned (.bool false)∧Fin W'):=by
  intro j g V hj hI hrow hgb hbV'
  refine yield_round hI.lp (by rw [e5];rfl) ?_
  rw [e4,e5,e6,e7]
  obtain ⟨V2,hV2⟩:∃ V2,V2=V.putObj l (.loop { r0 with state := .busy }):=⟨_,rfl⟩
  have hbV:But (fun k=>k=l) V V2:=by rw [hV2];exact but_put _ _ _
  have hlV:V2.heap[l]? = some (.loop { r0 with state := .busy }):=by rw [hV2];exact World.putObj_heap_same (Array.getElem?_eq_some_iff.1 hI.lp).1
  have hDV:V2.heap[D]? = some (.deferred (some [])):=(hbV.block _ (Array.getElem?_eq_some_iff.1 hI.dfr).1 (by omega)).trans hI.dfr
  have r0':=hbV.cell hI.nb (by omega)
  have r2':=hbV.cell hI.xb (by omega)
  have r3':=hbV.cell hI.ab (by omega)
  have r3f:V2.frozen? ⟨w.heap.size+1+1+1,0,none⟩=false:=(World.frozen?_of_block (w:=V) (hbV.block _ (block_lt_of_cell hI.ab) (by show ¬w.heap.size+1+1+1=l;omega))).trans hI.abf
  have hrV:=hbV.row hI.row (by omega)
  have hgV:=hbV.row hrow (by omega)
  have hbeg:(Instr.beginRound l).run Tryd.prog V = .ok () V2:=by rw [hV2];exact run_beginRound hI.lp e1
  have hfew:=hI.few
  obtain ⟨A,hA⟩:∃ A,A=32*j:=⟨_,rfl⟩
  rw [←hA] at r3' hrV hfew
  have hAN:A≤N:=by omega
  have hsl:∀ W:World,(Instr.sliceAt 22 (.slice (some ⟨w.heap.size+1,0,none⟩) N N) (some (.int .i64 A)) none none).run Tryd.prog W = .ok (.slice (some ⟨w.heap.size+1,A,none⟩) (N - A) (N - A)) W:=fun W=>by
   have h:=sliceFrom W (w.heap.size+1) 0 N N A hAN
   rw [Nat.zero_add] at h
   have e:(if N=A then 0 else A)=A:=by split <;> omega
   rw [e] at h
   exact h
  have hgd:=hgV
  have hcp:∀ M,M=Nat.min 32 (N - A)→(Builtin.copy_ #[22,22] 3 #[.slice (some ⟨w.heap.size+1,A,none⟩) (N - A) (N - A),.slice (some ⟨g,0,none⟩) 32 32]).run Tryd.prog V2.drew = .ok (goInt M) (V2.drew.setCells (w.heap.size+1) A (ints .u8 M (tE (keyB n1 ks) n2 info (j+1)))):=fun M hM =>
   run_copy_bytes V2.drew 22 22 3 5 (w.heap.size+1) A (N - A) (N - A) (some ⟨g,0,none⟩) 32 32 M _ Tryd.underlying22 (by kernel_rfl) (.inr ⟨g,0,rfl,fun q hq=>(hgV q hq).1⟩) hM (fun q hq=>by
    have h:=hrV (A+q) (by omega)
    rw [Nat.zero_add] at h
    exact ⟨by show (V2.cell? _).isSome=true;rw [h.1];rfl,h.2⟩)
  clear hV2 hI
  obtain ⟨M,hM⟩:∃ M,M=Nat.min 32 (N - A):=⟨_,rfl⟩
  have hcM:=hcp M hM
  have hMl:M≤32∧M≤N - A:=by rw [hM];exact ⟨Nat.min_le_left _ _,Nat.min_le_right _ _⟩
  obtain ⟨V3,hV3⟩:∃ V3,V3=V2.drew.setCells (w.heap.size+1) A (ints .u8 M (tE (keyB n1 ks) n2 info (j+1))):=⟨_,rfl⟩
  rw [←hV3] at hcM
  have hab3:V3.cell? ⟨w.heap.size+1+1+1,0,none⟩=some (.int .i64 A):=by
   rw [hV3]
   exact (World.cell?_of_block (heap_setCells_other _ _ _ _ _ (by show w.heap.size+1+1+1≠w.heap.size+1;omega))).trans r3'
  have hab3f:V3.frozen? ⟨w.heap.size+1+1+1,0,none⟩=false:=by rw [hV3,World.frozen?_setCells];exact r3f
  have HV3:Hid (V3=V2.drew.setCells (w.heap.size+1) A (ints .u8 M (tE (keyB n1 ks) n2 info (j+1)))):=hV3
  have hmix:Tryd.prog.follows .mixedOrders=true:=by kernel_rfl
  have HA:Hid (A=32*j):=hA
  have HM:Hid (M=Nat.min 32 (N - A)):=hM
  clear hV3 hcp hA hM
  obtain ⟨S,hS⟩:∃ S,S=A+M:=⟨_,rfl⟩
  obtain ⟨V4,hV4⟩:∃ V4,V4=V3.setCell ⟨w.heap.size+1+1+1,0,none⟩ (.int .i64 (S:Int)):=⟨_,rfl⟩
  have hbut3:But (fun k=>k=w.heap.size+1) V2 V3:=by
   rw [HV3.out]
   have hsc:=setCells_same (w.heap.size+1) (ints .u8 M (tE (keyB n1 ks) n2 info (j+1))) A V2.drew
   exact ⟨hsc.1,hsc.2.1,hsc.2.2.1,by rw [hsc.2.2.2];exact Nat.le_refl _,fun k _ hk=>heap_setCells_other _ _ _ _ _ hk⟩
  have hbut4:But (fun k=>k=w.heap.size+1∨k=w.heap.size+1+1+1) V2 V4:=by
   refine (hbut3.mono (fun k hk => .inl hk)).trans ?_
   rw [hV4]
   have hsc:=setCells_same (w.heap.size+1+1+1) [.int .i64 (S:Int)] 0 V3
   exact ⟨hsc.1,hsc.2.1,hsc.2.2.1,by simp,fun k _ hk=>Below.heap_setCell V3 ⟨w.heap.size+1+1+1,0,none⟩ _ k (fun e=>hk (.inr e))⟩
  have hrow4:RowAt .u8 V4 (w.heap.size+1) 0 N (outF kv n2 info S):=by
   have h1:RowAt .u8 V3 (w.heap.size+1) 0 N (over (outF kv n2 info A) A M (tE (keyB n1 ks) n2 info (j+1))):=by
    rw [HV3.out]
    have:=RowAt.splice (w:=V2.drew) hrV A M (tE (keyB n1 ks) n2 info (j+1)) (by omega)
    rw [Nat.zero_add] at this
    exact this
   have h2:RowAt .u8 V4 (w.heap.size+1) 0 N (over (outF kv n2 info A) A M (tE (keyB n1 ks) n2 info (j+1))):=fun q hq=>by
    have hb:=Below.heap_setCell V3 ⟨w.heap.size+1+1+1,0,none⟩ (.int .i64 (S:Int)) (w.heap.size+1) (by show w.heap.size+1≠w.heap.size+1+1+1;omega)
    rw [←hV4] at hb
    exact ⟨(World.cell?_of_block (w:=V3) hb).trans (h1 q hq).1,(World.frozen?_of_block (w:=V3) hb).trans (h1 q hq).2⟩
   refine h2.congr (fun q hq => ?_)
   have ha:=HA.out
   unfold over outF
   by_cases h:A≤q∧q<A+M
   · rw [if_pos h,if_pos (by omega),show q / 32+1=j+1 by omega,show q%32=q - A by omega,hkv]
   · rw [if_neg h]
     by_cases h2:q<A
     · rw [if_pos h2,if_pos (by omega)]
     · rw [if_neg h2,if_neg (by omega)]
  have hab4:V4.cell? ⟨w.heap.size+1+1+1,0,none⟩=some (.int .i64 (S:Int)):=by rw [hV4];exact World.cell?_setCell_same _ _ _ hab3
  have hab4f:V4.frozen? ⟨w.heap.size+1+1+1,0,none⟩=false:=by rw [hV4,World.frozen?_setCell];exact hab3f
  have hl4:V4.heap[l]? = some (.loop { r0 with state := .busy }):=(hbut4.block l (Array.getElem?_eq_some_iff.1 hlV).1 (by omega)).trans hlV
  have hD4:V4.heap[D]? = some (.deferred (some [])):=(hbut4.block D (Array.getElem?_eq_some_iff.1 hDV).1 (by omega)).trans hDV
  have hn4:=hbut4.cell r0' (by omega)
  have hx4:=hbut4.cell r2' (by omega)
  have hbutV:But (fun k=>k=l∨k=w.heap.size+1∨k=w.heap.size+1+1+1) V V4:=(hbV.mono (fun k hk => .inl hk)).trans (hbut4.mono (fun k hk => .inr hk))
  have HV4:Hid (V4=V3.setCell ⟨w.heap.size+1+1+1,0,none⟩ (.int .i64 (S:Int))):=hV4
  have hSw:IntKind.i64.wrap ((A:Int)+M)=(S:Int):=by simp only [IntKind.wrap_i64];omega
  have HS:Hid (S=A+M):=hS
  have hnext:S≠N→∃ v W',(Instr.endRound l none).run Tryd.prog V4 = .ok v W'∧(((Ending.returned v = .returned (.bool true)∧ExInv w l D N r0 kv n2 info (j+1) W'∧But (fun k=>k=l∨k=w.heap.size+1∨k=w.heap.size+1+1+1) V W'))∨(Ending.returned v = .returned (.bool false)∧Fin W')):=fun hSN=>by
   have hm:=HM.out
   have ha:=HA.out
   have hs:=HS.out
   have hM32:M=32:=by
    rw [hm]
    refine Nat.min_eq_left ?_
    rcases Nat.le_total 32 (N - A) with h | h
    · exact h
    · have:M=N - A:=by rw [hm];exact Nat.min_eq_right h
      omega
   have hrec:({ { r0 with state := .busy } with state := .ready,pending:=none }:Loop)=r0:=loop_back r0 e1 e2
   have hb5:=but_put V4 l (.loop r0)
   refine ⟨_,_,run_endRound none hl4,.inl ⟨rfl,?_,?_⟩⟩
   · simp only [Option.isNone_none,if_true,hrec]
     refine ⟨World.putObj_heap_same (Array.getElem?_eq_some_iff.1 hl4).1,(hb5.block D (Array.getElem?_eq_some_iff.1 hD4).1 (by omega)).trans hD4,hb5.cell hn4 (by omega),hb5.cell hx4 (by omega),?_,?_,?_,.inr (by omega)⟩
     · rw [show 32*(j+1)=S by omega];exact hb5.cell hab4 (by omega)
     · exact (World.frozen?_of_block (w:=V4) (hb5.block _ (block_lt_of_cell hab4) (by show ¬w.heap.size+1+1+1=l;omega))).trans hab4f
     · rw [show 32*(j+1)=S by omega];exact hb5.row hrow4 (by omega)
   · simp only [Option.isNone_none,if_true,hrec]
     exact hbutV.trans (hb5.mono (fun k hk => .inl hk))
  have hstop:S=N→∃ v W',(Instr.endRound l (some (.exit 0))).run Tryd.prog V4 = .ok v W'∧(((Ending.returned v = .returned (.bool true)∧ExInv w l D N r0 kv n2 info (j+1) W'∧But (fun k=>k=l∨k=w.heap.size+1∨k=w.heap.size+1+1+1) V W'))∨(Ending.returned v = .returned (.bool false)∧Fin W')):=fun hSN=>by
   refine ⟨_,_,run_endRound (some (.exit 0)) hl4,.inr ⟨rfl,?_⟩⟩
   rw [hFin]
   have hb5:=but_put V4 l (.loop { { r0 with state := .busy } with state := .done,pending:=some (.exit 0) })
   rw [←hSN] at hx4 hrow4 ⊢
   exact ⟨World.putObj_heap_same (Array.getElem?_eq_some_iff.1 hl4).1,(hb5.block D (Array.getElem?_eq_some_iff.1 hD4).1 (by omega)).trans hD4,hb5.cell hx4 (by omega),hb5.row hrow4 (by omega),((hbV'.trans (hbutV.below hbV'.size (by omega))).trans (hb5.below (Nat.le_trans hbV'.size hbutV.size) (by omega)))⟩
  have hSi:((S:Int) == (N:Int))=decide (S=N):=by
   by_cases h:S=N
   · simp [h]
   · have h2:¬((S:Int)=(N:Int)):=by omega
     simp [h,h2]
  clear hS hV4 hbut3 hbut4 hrow4 hbutV hFin hkv e4 e5 e6 e7 e1 e2
  rcases Nat.eq_or_lt_of_le hAN with hNA | hNA
  · have hA0:A=0:=by have:=HA.out;omega
    have hM0:M=0:=by omega
    have hS0:S=0:=by have:=HS.out;omega
    subst hA0
    subst hNA
    subst hM0
    subst hS0
    have hr:=hstop rfl
    simp only [Nat.sub_self,Int.ofNat_zero] at hcM hsl
    have HV4':Hid (V4=V3.setCell ⟨w.heap.size+1+1+1,0,none⟩ (.int .i64 0)):=HV4.out
    have hw0:IntKind.i64.wrap 0=0:=by rfl
    clear hstop hnext hSi hSw hfew hMl
    gi_wp2
    try (refine ⟨V2,hbeg,?_⟩;gi_wp2)
    refine wpIn_mono (Q:=fun e a' W'=>e = .normal∧a'={ tmps:=#[.slice x1 n1 c1,.slice x2 n2 c2,.int .i64 0,undef,undef,.pointer (some ⟨w.heap.size,0,none⟩),.slice none 0 0,.int .i64 0,.pointer (some ⟨w.heap.size+1+1,0,none⟩),.pointer (some ⟨w.heap.size+1+1+1,0,none⟩),.slice (some ⟨g,0,none⟩) 32 32,.int .i64 0,.bool false,.bool false,.int .i64 0,.bool false,.bool false,.int .i64 0,.slice (some ⟨w.heap.size+1,0,none⟩) 0 0,.slice x1 n1 c1,.slice x2 n2 c2,.func (.func 41) #[] #[.pointer (some ⟨w.heap.size+1+1+1+1,0,none⟩),.pointer (some ⟨w.heap.size+1+1+1+1+1,0,none⟩)],.slice (some ⟨g,0,none⟩) 32 32,.int .i64 0,.slice (some ⟨w.heap.size+1,0,none⟩) 0 0,.int .i64 0,.slice (some ⟨w.heap.size+1,0,none⟩) 0 0,.slice (some ⟨g,0,none⟩) 32 32,.int .i64 0,.int .i64 0,undef,undef,undef,undef],defers:=[] }∧W'=V4) ?r ?m
    case r =>
     gi_region_with_o (fail)
     all_goals (rw [←HV4'.out];exact ⟨rfl,rfl,rfl⟩)
    case m =>
     rintro e a' W' ⟨rfl,rfl,hW⟩
     rw [hW]
     clear hW
     gi_wp2
     exact hr
  · have hne:¬(N=A):=by omega
    have hAi:(A:Int)≤(N:Int):=by omega
    gi_wp2
    try (refine ⟨V2,hbeg,?_⟩;gi_wp2)
    refine wpIn_mono (Q:=fun e a' W'=>e = .normal∧a'={ tmps:=#[.slice x1 n1 c1,.slice x2 n2 c2,.int .i64 N,undef,undef,.pointer (some ⟨w.heap.size,0,none⟩),.slice none 0 0,.int .i64 0,.pointer (some ⟨w.heap.size+1+1,0,none⟩),.pointer (some ⟨w.heap.size+1+1+1,0,none⟩),.slice (some ⟨g,0,none⟩) 32 32,.int .i64 N,.bool false,.bool false,.int .i64 N,.bool false,.bool false,.int .i64 N,.slice (some ⟨w.heap.size+1,0,none⟩) N N,.slice x1 n1 c1,.slice x2 n2 c2,.func (.func 41) #[] #[.pointer (some ⟨w.heap.size+1+1+1+1,0,none⟩),.pointer (some ⟨w.heap.size+1+1+1+1+1,0,none⟩)],.slice (some ⟨g,0,none⟩) 32 32,.int .i64 A,.slice (some ⟨w.heap.size+1,0,none⟩) N N,.int .i64 A,.slice (some ⟨w.heap.size+1,A,none⟩) (N - A) (N - A),.slice (some ⟨g,0,none⟩) 32 32,.int .i64 M,.int .i64 S,undef,undef,undef,undef],defers:=[] }∧W'=V4) ?r ?m
    case r =>
     gi_region_with_o (fail)
     all_goals (rw [←HV4.out];exact ⟨rfl,rfl,rfl⟩)
    case m =>
     rintro e a' W' ⟨rfl,rfl,hW⟩
     rw [hW]
     clear hW
     by_cases hSN:S=N
     · have hr:=hstop hSN
       clear hstop hnext
       rw [decide_eq_true hSN] at hSi
       gi_wp2
       exact hr
     · have hr:=hnext hSN
       clear hstop hnext
       rw [decide_eq_false hSN] at hSi
       gi_wp2
       exact hr
 refine (hiter_in (n - 1) w hT x1 x2 n1 n2 c1 c2 ks info hks hinfo hn1 hn2 hk hi l (w.heap.size+1+1+1+1) (w.heap.size+1+1+1+1+1) (fun k=>k=l∨k=w.heap.size+1∨k=w.heap.size+1+1+1) (fun k hk=>by omega) (by omega) (ExInv w l D N r0 kv n2 info) Fin (fun j W W' h hb=>h.below hb) (fun W h=>by have:=h.few;omega) W1 hbw1 (fun k hk=>by omega) ((hb1.cell (block_lt_of_cell q4)).trans q4) ((hb1.cell (block_lt_of_cell q5)).trans q5) hY hI0).mono ?_
 rintro e W2 ⟨⟨v,rfl⟩,hF⟩
 rw [hFin] at hF
 obtain ⟨hl2,hD2,hx2,hr2,hb2⟩:=hF
 refine ⟨some (.exit 0),_,run_endLoop hl2 (by simp),?_⟩
 obtain ⟨V,hV⟩:∃ V,V=W2.putObj l (.loop { { r0 with state := .done,pending:=some (.exit 0) } with state := .exhausted }):=⟨_,rfl⟩
 have hbV:But (fun k=>k=l) W2 V:=by rw [hV];exact but_put _ _ _
 have hDV:V.heap[D]? = some (.deferred (some [])):=(hbV.block _ (Array.getElem?_eq_some_iff.1 hD2).1 (by omega)).trans hD2
 have hxV:=hbV.cell hx2 (by omega)
 have hrV:=hbV.row hr2 (by omega)
 have hBV:Below w.heap.size w V:=hb2.trans (hbV.below hb2.size (by omega))
 rw [←hV]
 obtain ⟨V2,hV2⟩:∃ V2,V2=V.putObj D (.deferred none):=⟨_,rfl⟩
 have hbV2:But (fun k=>k=D) V V2:=by rw [hV2];exact but_put _ _ _
 have hfin:RowAt .u8 V2 (w.heap.size+1) 0 N (outF kv n2 info N)∧Below w.heap.size w V2:=⟨hbV2.row hrV (by omega),hBV.trans (hbV2.below hBV.size (by omega))⟩
 clear hV hY hI0 hFin hl2 hD2 hx2 hr2 hb2 hb1 hl1 hD1
 gi_wp2
 refine ⟨by simp,.inl ⟨_,_,rfl,run_takeDeferred hDV,?_⟩⟩
 rw [←hV2,←hkv]
 exact ⟨_,results_tmp2 rfl _ _ _,w.heap.size+1,rfl,by omega,hfin.1,hfin.2⟩
theorem expand_any (x1 x2:Option Addr) (n1 n2 c1 c2:Nat) (ks info:Nat→Nat) (hks:∀ j,ks j<256) (hinfo:∀ j,info j<256) (hn1:n1<2305843009213693000) (hn2:n2<2305843009213692000) (w:World) (hT:HTab w cubeK squareK) (hk:BytesIn w (.slice x1 n1 c1) n1 ks) (hi:BytesIn w (.slice x2 n2 c2) n2 info) (N:Nat) (hN:N≤8160) :
 Calls Tryd.prog 18 #[.slice x1 n1 c1,.slice x2 n2 c2,.int .i64 N] w fun e w'=>∃ g,e = .returned (.tuple #[.slice (some ⟨g,0,none⟩) N N,.int .i64 0])∧w.heap.size≤g∧RowAt .u8 w' g 0 N (outF (keyB n1 ks) n2 info N)∧Below w.heap.size w w' :=
 callsIn_wide.1 (expand_in 9 x1 x2 n1 n2 c1 c2 ks info hks hinfo hn1 hn2 w hT hk hi N hN)
set_option maxRecDepth 100000 in
set_option maxHeartbeats 1000000 in
theorem expand_err (v1 v2:Value) (N:Int) (hN:N<0∨8160<N) (w:World) :
 Calls Tryd.prog 18 #[v1,v2,.int .i64 N] w fun e w'=>e = .returned (.tuple #[.slice none 0 0,.int .i64 6])∧Below w.heap.size w w':=by
 have hb:Below w.heap.size w (w.alloc (.cells #[.int .i64 N] 3)):=(Below.refl _ _).alloc (Nat.le_refl _) _
 refine (callsIn_wide (n:=9)).1 ?_
 refine callsIn_of_wp_marks Tryd.func18 rfl trivial ?_ rfl
 simp only [Tryd.ntmps18,List.size_toArray,List.length_cons,List.length_nil,Nat.reduceAdd,Nat.reduceSub,Array.replicate_succ,Array.replicate_zero,List.push_toArray,List.append_toArray,List.nil_append,List.cons_append]
 rcases hN with hN | hN
 · gi_wp2
   exact ⟨_,results_tmp2 rfl _ _ _,rfl,hb⟩
 · have h2:¬(N<0):=by omega
   gi_wp2
   exact ⟨_,results_tmp2 rfl _ _ _,rfl,hb⟩
end Go.Proofs.YtibdhadbflfdpaaDoor
namespace Go.Proofs.YtibdhadbflfdpaaDoor
open Go.RowKit
def litB (l:List Nat):Nat→Nat:=fun j=>l.getD j 0
def litV (l:List Nat):Array Value:=(l.map fun (x:Nat)=>Value.int .u8 (x:Int)).toArray
theorem lit_cell (W:World) (l:List Nat) (t:TypeId) (f:Nat × Nat) (j:Nat) (hj:j<l.length):(W.alloc (.cells (litV l) t f)).cell? ⟨W.heap.size,j,none⟩=some (.int .u8 (litB l j)):=by
 unfold World.cell?
 rw [heap_alloc_new]
 simp [litV,litB,hj]
theorem litB_B:∀ (w:World) (l:List Nat) (f:Nat × Nat),BytesIn (w.alloc (.cells (litV l) 5 f)) (.slice (some ⟨w.heap.size,0,none⟩) l.length l.length) l.length (litB l):=fun w l f =>
 .inr ⟨w.heap.size,0,l.length,rfl,by simp,Nat.le_refl _,fun j hj=>by rw [Nat.zero_add];exact lit_cell w l _ f j hj⟩
theorem convC (W:World) (l:List Nat):(convert 22 22 (.slice (some ⟨W.heap.size,0,none⟩) l.length l.length)).run Tryd.prog (W.alloc (.cells (litV l) 5)) = .ok (.slice (some ⟨W.heap.size,0,none⟩) l.length l.length) (W.alloc (.cells (litV l) 5 (l.length,l.length+1))):=by
 have h:=Lib.run_convert_bytes_const (P:=Tryd.prog) W 22 5 (litV l) l.length l.length Tryd.underlying22 Tryd.underlying5
 rw [h]
 simp [litV]
end Go.Proofs.YtibdhadbflfdpaaDoor
namespace Go.Proofs.YtibdhadbflfdpaaDoor
open Go.RowKit
theorem BytesIn.cong {w:World} {v:Value} {n:Nat} {a b:Nat→Nat} (h:BytesIn w v n a) (e:∀ j,j<n→a j=b j):BytesIn w v n b:=by
 rcases h with h | ⟨bb,ob,cap,rfl,h1,h2,h3⟩
 · exact .inl h
 · exact .inr ⟨bb,ob,cap,rfl,h1,h2,fun j hj=>by rw [h3 j hj,e j hj]⟩
def lZ:Nat→Nat:=fun _=>0
end Go.Proofs.YtibdhadbflfdpaaDoor
namespace Go.Proofs.YtibdhadbflfdpaaDoor
open Go.RowKit
theorem andR (x g m:Nat) (hg:g<2 ^ m):x &&& g=(x%2 ^ m) &&& g:=by
 have h1:x &&& g<2 ^ m:=Nat.and_lt_two_pow _ hg
 have h2:=Nat.and_mod_two_pow (a:=x) (b:=g) (n:=m)
 rw [Nat.mod_eq_of_lt h1,Nat.mod_eq_of_lt hg] at h2
 exact h2
theorem below_size_of {B:Nat} {w w1:World} {o:Obj} (h:Below B (w.alloc o) w1):w.heap.size+1≤w1.heap.size:=by have:=h.size;simpa using this
theorem srcS {w w1:World} {gs:Nat} {s:St} (hb:Below w.heap.size w w1) (h:∀ j,j<8→w.cell? ⟨gs,j,none⟩=some (.int .u64 (s.at j))):∀ j u,(ints .u64 8 s.at)[j]? = some u→(w1.alloc (.cells #[] 78)).cell? ((⟨gs,0,none⟩:Addr).add j)=some u:=fun j u hu=>by
 have hj:j<8:=by have:=(List.getElem?_eq_some_iff.1 hu).1;rwa [ints_len] at this
 rw [ints_at _ _ _ j hj] at hu
 have hg:gs<w.heap.size:=block_lt_of_cell (h 0 (by decide))
 rw [Addr.add_mid,Nat.zero_add,World.cell?_alloc_lt _ _ _ (by have:=hb.size;show gs<_;omega),hb.cell (p:=⟨gs,j,none⟩) hg,h j hj,hu]
def addG (m:Nat) (s x:St) (k:Nat):Nat→Nat:=fun j=>if j<k then (s.at j+x.at j)%2 ^ m else x.at j
theorem addG_step (m:Nat) (s x:St) (k j:Nat):upd (addG m s x k) k ((s.at k+x.at k)%2 ^ m) j=addG m s x (k+1) j:=by
 unfold upd addG
 by_cases e:j=k
 · subst e;rw [if_pos rfl,if_pos (by omega)]
 · rw [if_neg e]
   by_cases e2:j<k
   · rw [if_pos e2,if_pos (by omega)]
   · rw [if_neg e2,if_neg (by omega)]
theorem addG_end (r:Ru) (s x:St) (j:Nat) (hj:j<8):addG r.m s x 8 j=(addS r s x).at j:=by
 unfold addG
 rw [if_pos hj]
 match j,hj with
 | 0,_=>rfl
 | 1,_=>rfl
 | 2,_=>rfl
 | 3,_=>rfl
 | 4,_=>rfl
 | 5,_=>rfl
 | 6,_=>rfl
 | 7,_=>rfl
theorem chR_32 (e f g:Nat) (he:e<2 ^ 32) (hf:f<2 ^ 32) (hg:g<2 ^ 32):bits .xor .u64 (bits .and .u64 e f) (bits .and .u64 (bits .xor .u64 IntKind.u64.max e) g)=((chS 32 e f g:Nat):Int):=by
 have l:∀ {x:Nat},x<2 ^ 32→x<18446744073709551616:=fun h=>Nat.lt_of_lt_of_le h (by decide)
 refine (ch_64 e f g (l he) (l hf) (l hg)).trans ?_
 have hmod:(2 ^ 64 - 1 - e)%2 ^ 32=2 ^ 32 - 1 - e:=by
  have h3:(2:Nat) ^ 32=4294967296:=rfl
  have h4:(2:Nat) ^ 64=18446744073709551616:=rfl
  rw [h3] at he ⊢
  try rw [h4]
  omega
 have key:chS 64 e f g=chS 32 e f g:=by
  unfold chS
  rw [andR (2 ^ 64 - 1 - e) g 32 hg,hmod]
 exact congrArg Nat.cast key
theorem majR_32 (a b c:Nat) (ha:a<2 ^ 32) (hb:b<2 ^ 32) (hc:c<2 ^ 32):bits .xor .u64 (bits .xor .u64 (bits .and .u64 a b) (bits .and .u64 a c)) (bits .and .u64 b c)=((majS a b c:Nat):Int):=by
 have l:∀ {x:Nat},x<2 ^ 32→x<18446744073709551616:=fun h=>Nat.lt_of_lt_of_le h (by decide)
 exact maj_64 a b c (l ha) (l hb) (l hc)
theorem cutT_32 (g0 g1 g2 g3:Nat) (S:Nat) (W':World):Calls Tryd.prog 59 #[(.agg #[.int .i64 32,.int .i64 64,.int .i64 64,.slice (some ⟨g0,0,none⟩) 3 3,.slice (some ⟨g1,0,none⟩) 3 3,.slice (some ⟨g2,0,none⟩) 3 3,.slice (some ⟨g3,0,none⟩) 3 3]),.int .u64 ((S%2 ^ 64:Nat):Int)] W' fun e w'=>e = .returned (.int .u64 ((S%2 ^ 32:Nat):Int))∧Below W'.heap.size W' w':=by
 have h:=cut32_any g0 g1 g2 g3 (S%2 ^ 64) (Nat.mod_lt _ (by decide)) W'
 rw [Nat.mod_mod_of_dvd _ (Nat.pow_dvd_pow 2 (by decide))] at h
 exact h
theorem sum5R_32 (a b c d e:Nat):(((((a:Int)+b)%18446744073709551616+c)%18446744073709551616+d)%18446744073709551616+e)%18446744073709551616=(((a+b+c+d+e)%2 ^ 64:Nat):Int):=by
 have h:(2:Nat) ^ 64=18446744073709551616:=rfl
 rw [h];omega
set_option maxRecDepth 20000 in
set_option maxHeartbeats 2000000 in
theorem blockR32_any (K:Nat→Nat) (g0 g1 g2 g3 gs cs gk ck bb ob cap:Nat) (s:St) (hs:s.lt (2 ^ 32)) (bs:Nat→Nat) (hbs:∀ j,bs j<256) (w:World) (hL:Lists32 w g0 g1 g2 g3)
 (hrs:∀ j,j<8→w.cell? ⟨gs,j,none⟩=some (.int .u64 (s.at j))) (hrk:∀ j,j<80→w.cell? ⟨gk,j,none⟩=some (.int .u64 (K j))) (hcell:∀ j,j<64→w.cell? ⟨bb,ob+j,none⟩=some (.int .u8 (bs j))) :
 Calls Tryd.prog 52 #[(.agg #[.int .i64 32,.int .i64 64,.int .i64 64,.slice (some ⟨g0,0,none⟩) 3 3,.slice (some ⟨g1,0,none⟩) 3 3,.slice (some ⟨g2,0,none⟩) 3 3,.slice (some ⟨g3,0,none⟩) 3 3]),.slice (some ⟨gs,0,none⟩) 8 cs,.slice (some ⟨gk,0,none⟩) 80 ck,.slice (some ⟨bb,ob,none⟩) 64 cap] w
  fun e w'=>∃ g c,e = .returned (.slice (some ⟨g,0,none⟩) 8 c)∧w.heap.size≤g∧RowAt .u64 w' g 0 8 (addS rn s (roundsS rn K (sch rn (fun i=>wordR bs (4*i) 4) (64 - 16)) s 64)).at∧Below w.heap.size w w':=by
 obtain ⟨i0,hi,hz0,hz1,hz2⟩:=info_parts Tryd.info78
 have hgs:gs<w.heap.size:=block_lt_of_cell (hrs 0 (by decide))
 have hgk:gk<w.heap.size:=block_lt_of_cell (hrk 0 (by decide))
 have hb1:Below w.heap.size w (w.alloc (.cells #[.int .i64 32,.int .i64 64,.int .i64 64,.slice (some ⟨g0,0,none⟩) 3 3,.slice (some ⟨g1,0,none⟩) 3 3,.slice (some ⟨g2,0,none⟩) 3 3,.slice (some ⟨g3,0,none⟩) 3 3] 68)):=(Below.refl _ _).alloc (Nat.le_refl _) _
 have hbb:bb<w.heap.size:=block_lt_of_cell (hcell 0 (by decide))
 have hwords:=words32_any g0 g1 g2 g3 bb ob cap bs hbs (w.alloc (.cells #[.int .i64 32,.int .i64 64,.int .i64 64,.slice (some ⟨g0,0,none⟩) 3 3,.slice (some ⟨g1,0,none⟩) 3 3,.slice (some ⟨g2,0,none⟩) 3 3,.slice (some ⟨g3,0,none⟩) 3 3] 68)) (hL.below hb1) (fun j hj=>(World.cell?_alloc_lt _ _ _ hbb).trans (hcell j hj))
 have hWl:∀ j,sch rn (fun i=>wordR bs (4*i) 4) (64 - 16) j<2 ^ 32:=sch_lt (r:=rn) (fun j=>wordR32_lt hbs (4*j)) _
 obtain ⟨X,hXe⟩:∃ X:Nat→Nat,X=sch rn (fun i=>wordR bs (4*i) 4) (64 - 16):=⟨_,rfl⟩
 rw [←hXe] at hwords hWl ⊢
 clear hXe hcell hbs
 go_enter Tryd.func52,Tryd.ntmps52
 go_wp2_with (first
  | (go_at_call 58;refine hwords.mono ?_;clear hwords;rintro e w1 ⟨v,rfl,hown,hbw1⟩;obtain ⟨gw,cw,hv,hgw,hgwl⟩:=hown.form (by decide);subst hv;simp only [World.size_alloc] at hbw1 hgw;have hw1:Below w.heap.size w w1:=hb1.trans (hbw1.mono (by omega));have hzs1:w.heap.size+1≤w1.heap.size:=below_size_of hbw1;have hcs:=srcS hw1 hrs)
  | (at_builtin;refine wpList_append_lies _ rfl (.tmp 19) (.tmp 20) 84 rfl (w.heap.size+1) 78 i0 (.int .u64 0) 1 8 Tryd.underlying84 hi hz0 hz1 hz2 rfl (by decide) (.slice (some ⟨w1.heap.size,0,none⟩) 0 0) 0 [] rfl (World.ownsRow_lit w1 #[] 0 hzs1 (by decide) rfl) ⟨gs,0,none⟩ 8 cs (ints .u64 8 s.at) rfl rfl hcs (ints_one _ _ _) (by decide) (by decide) (by decide) (by simp only [World.size_alloc];omega) _ rfl ?_;intro gx cx w2 hownx hgrowx hat hgl))
 rw [List.nil_append,Nat.zero_add] at hownx
 have hx0:RowAt .u64 w2 gx 0 8 s.at:=fun j hj=>by
  rw [Nat.zero_add]
  exact ⟨by rw [hownx.cellAt j (by omega),ints_at _ _ _ j hj],hownx.frozenAt j⟩
 have hgx:w.heap.size+1≤gx:=(hownx.lt gx rfl).1
 have hb2:Below w1.heap.size w1 w2:=((Below.refl _ _).alloc (Nat.le_refl _) _).grown hgrowx (by simp) (fun q h=>by cases h;exact Nat.le_refl _)
 have hw2:Below w.heap.size w w2:=hw1.trans (hb2.mono hw1.size)
 have hL2:=hL.below hw2
 have hZ2:ZBox32 w2 w.heap.size g0 g1 g2 g3:=by
  have hz:=zbox32 w g0 g1 g2 g3
  have hc:∀ j,w2.cell? ⟨w.heap.size,j,none⟩=(w.alloc (.cells #[.int .i64 32,.int .i64 64,.int .i64 64,.slice (some ⟨g0,0,none⟩) 3 3,.slice (some ⟨g1,0,none⟩) 3 3,.slice (some ⟨g2,0,none⟩) 3 3,.slice (some ⟨g3,0,none⟩) 3 3] 68)).cell? ⟨w.heap.size,j,none⟩:=fun j=>(hb2.cell (p:=⟨w.heap.size,j,none⟩) (by show w.heap.size<_;omega)).trans (hbw1.cell (p:=⟨w.heap.size,j,none⟩) (Nat.lt_succ_self _))
  unfold ZBox32 at *
  simp only [hc]
  exact hz
 have hrw:∀ j,j<64→w2.cell? ⟨gw,j,none⟩=some (.int .u64 (X j)):=fun j hj=>(hb2.cell (p:=⟨gw,j,none⟩) hgwl).trans (by rw [hown.cellAt j (by omega),ints_at _ _ _ j hj])
 have hrk2:∀ j,j<80→w2.cell? ⟨gk,j,none⟩=some (.int .u64 (K j)):=fun j hj=>(hw2.cell (p:=⟨gk,j,none⟩) hgk).trans (hrk j hj)
 have hrs2:∀ j,j<8→w2.cell? ⟨gs,j,none⟩=some (.int .u64 (s.at j)):=fun j hj=>(hw2.cell (p:=⟨gs,j,none⟩) hgs).trans (hrs j hj)
 have hs2:=hw2.size
 have hlg:gx<w2.heap.size:=hgl
 have hlw:gw<w2.heap.size:=by have:=hb2.size;omega
 have hlz:w.heap.size<w2.heap.size:=by have:=hb2.size;omega
 have hlk:gk<w2.heap.size:=by omega
 have hls:gs<w2.heap.size:=by omega
 clear hL hrk hown hbw1 hgrowx hat hownx hcs hb1 hgl hb2 hw1
 go_wp2
 go_loopw [10,11] (fun v i wr=>∃ k g c:Nat,k≤64∧i = .int .i64 k∧v = .slice (some ⟨g,0,none⟩) 8 c∧w.heap.size+1≤g∧RowAt .u64 wr g 0 8 (roundsS rn K X s k).at∧Below w2.heap.size w2 wr) (fun _ i _=>64 - (intOf i).toNat)
 case atStart=>exact ⟨0,gx,cx,Nat.zero_le _,rfl,rfl,hgx,hx0,Below.refl _ _⟩
 case round =>
  clear hx0 hgx hlg
  obtain ⟨k,g,c,hk,rfl,rfl,hg,hrow,hbel⟩:=hrel
  have hgl:g<wr.heap.size:=block_lt_of_cell (hrow 0 (by decide)).1
  have hsz:=hbel.size
  have hZ:=hZ2.below hbel
  by_cases hlt:k<64
  · have hx:(roundsS rn K X s k).lt (2 ^ 32):=roundsS_lt (r:=rn) hs k
    obtain ⟨x,hxe⟩:∃ x,x=roundsS rn K X s k:=⟨_,rfl⟩
    have HX:Hid (x=roundsS rn K X s k):=hxe
    rw [←hxe] at hx hrow
    clear hxe
    obtain ⟨q0,q1,q2,q3,q4,q5,q6,q7⟩:=hrow.st
    obtain ⟨z0,z1,z2,z3,z4,z5,z6⟩:=hZ
    have rk:wr.cell? ⟨gk,k,none⟩=some (.int .u64 (K k)):=(hbel.cell (p:=⟨gk,k,none⟩) hlk).trans (hrk2 k (by omega))
    have rw':wr.cell? ⟨gw,k,none⟩=some (.int .u64 (X k)):=(hbel.cell (p:=⟨gw,k,none⟩) hlw).trans (hrw k hlt)
    have kn:k<80:=by omega
    have kn2:k<64:=hlt
    have ki:(0:Int)≤(k:Int)∧(k:Int)<80:=by omega
    have hS:∀ w':World,Below wr.heap.size wr w'→∀ b o,b<wr.heap.size→w'.cell? ⟨b,o,none⟩=wr.cell? ⟨b,o,none⟩:=fun w' h b o hb=>h.cell (p:=⟨b,o,none⟩) hb
    have m0:w.heap.size<wr.heap.size:=by omega
    have m1:gw<wr.heap.size:=by omega
    have hLw:=hL2.below hbel
    have hbA:∀ n,Below wr.heap.size wr (wr.drewN n).drew:=fun n=>(below_drewN (Below.refl _ _) n).drew
    obtain ⟨v1,f1⟩:∃ a,a=hi3 32 x.e (6,11,25):=⟨_,rfl⟩
    obtain ⟨v2,f2⟩:∃ a,a=hi3 32 x.a (2,13,22):=⟨_,rfl⟩
    obtain ⟨T1,fT1⟩:∃ a,a=t1S rn (K k / 2 ^ (64 - 32)) (X k) x:=⟨_,rfl⟩
    obtain ⟨T2,fT2⟩:∃ a,a=t2S rn x:=⟨_,rfl⟩
    have hhi1:∀ W':World,Below wr.heap.size wr W'→Calls Tryd.prog 60 #[(.agg #[.int .i64 32,.int .i64 64,.int .i64 64,.slice (some ⟨g0,0,none⟩) 3 3,.slice (some ⟨g1,0,none⟩) 3 3,.slice (some ⟨g2,0,none⟩) 3 3,.slice (some ⟨g3,0,none⟩) 3 3]),.int .u64 x.e,.slice (some ⟨g3,0,none⟩) 3 3] W' fun e w'=>e = .returned (.int .u64 (v1:Int))∧Below W'.heap.size W' w':=fun W' h=>by
     have L:=hLw.below h
     rw [f1]
     exact high32_any g0 g1 g2 g3 g3 _ 6 11 25 hx.e (by decide) (by decide) (by decide) W' L.d0 L.d1 L.d2
    have hhi2:∀ W':World,Below wr.heap.size wr W'→Calls Tryd.prog 60 #[(.agg #[.int .i64 32,.int .i64 64,.int .i64 64,.slice (some ⟨g0,0,none⟩) 3 3,.slice (some ⟨g1,0,none⟩) 3 3,.slice (some ⟨g2,0,none⟩) 3 3,.slice (some ⟨g3,0,none⟩) 3 3]),.int .u64 x.a,.slice (some ⟨g2,0,none⟩) 3 3] W' fun e w'=>e = .returned (.int .u64 (v2:Int))∧Below W'.heap.size W' w':=fun W' h=>by
     have L:=hLw.below h
     rw [f2]
     exact high32_any g0 g1 g2 g3 g2 _ 2 13 22 hx.a (by decide) (by decide) (by decide) W' L.c0 L.c1 L.c2
    have hcut1:∀ W':World,Calls Tryd.prog 59 #[(.agg #[.int .i64 32,.int .i64 64,.int .i64 64,.slice (some ⟨g0,0,none⟩) 3 3,.slice (some ⟨g1,0,none⟩) 3 3,.slice (some ⟨g2,0,none⟩) 3 3,.slice (some ⟨g3,0,none⟩) 3 3]),.int .u64 (IntKind.u64.wrap (IntKind.u64.wrap (IntKind.u64.wrap (IntKind.u64.wrap ((x.h:Int)+v1)+bits .xor .u64 (bits .and .u64 x.e x.f) (bits .and .u64 (bits .xor .u64 IntKind.u64.max x.e) x.g))+((K k:Int) / 4294967296))+X k))] W' fun e w'=>e = .returned (.int .u64 (T1:Int))∧Below W'.heap.size W' w':=fun W'=>by
     have ek:((K k:Int) / 4294967296)=((K k / 2 ^ (64 - 32):Nat):Int):=by simp
     simp only [IntKind.wrap_u64]
     rw [chR_32 _ _ _ hx.e hx.f hx.g,ek,sum5R_32,fT1]
     have h:=cutT_32 g0 g1 g2 g3 (x.h+v1+chS 32 x.e x.f x.g+K k / 2 ^ (64 - 32)+X k) W'
     rw [f1] at h ⊢
     exact h
    have hcut2:∀ W':World,Calls Tryd.prog 59 #[(.agg #[.int .i64 32,.int .i64 64,.int .i64 64,.slice (some ⟨g0,0,none⟩) 3 3,.slice (some ⟨g1,0,none⟩) 3 3,.slice (some ⟨g2,0,none⟩) 3 3,.slice (some ⟨g3,0,none⟩) 3 3]),.int .u64 (IntKind.u64.wrap ((v2:Int)+bits .xor .u64 (bits .xor .u64 (bits .and .u64 x.a x.b) (bits .and .u64 x.a x.c)) (bits .and .u64 x.b x.c)))] W' fun e w'=>e = .returned (.int .u64 (T2:Int))∧Below W'.heap.size W' w':=fun W'=>by
     simp only [IntKind.wrap_u64]
     rw [majR_32 _ _ _ hx.a hx.b hx.c,addv_64,fT2]
     have h:=cutT_32 g0 g1 g2 g3 (v2+majS x.a x.b x.c) W'
     rw [f2] at h ⊢
     exact h
    obtain ⟨A',fA⟩:∃ a,a=(T1+T2)%2 ^ 32:=⟨_,rfl⟩
    obtain ⟨E',fE⟩:∃ a,a=(x.d+T1)%2 ^ 32:=⟨_,rfl⟩
    have hcut3:∀ W':World,Calls Tryd.prog 59 #[(.agg #[.int .i64 32,.int .i64 64,.int .i64 64,.slice (some ⟨g0,0,none⟩) 3 3,.slice (some ⟨g1,0,none⟩) 3 3,.slice (some ⟨g2,0,none⟩) 3 3,.slice (some ⟨g3,0,none⟩) 3 3]),.int .u64 (IntKind.u64.wrap ((T1:Int)+T2))] W' fun e w'=>e = .returned (.int .u64 (A':Int))∧Below W'.heap.size W' w':=fun W'=>by
     simp only [IntKind.wrap_u64]
     rw [addv_64,fA]
     exact cutT_32 g0 g1 g2 g3 (T1+T2) W'
    have hcut4:∀ W':World,Calls Tryd.prog 59 #[(.agg #[.int .i64 32,.int .i64 64,.int .i64 64,.slice (some ⟨g0,0,none⟩) 3 3,.slice (some ⟨g1,0,none⟩) 3 3,.slice (some ⟨g2,0,none⟩) 3 3,.slice (some ⟨g3,0,none⟩) 3 3]),.int .u64 (IntKind.u64.wrap ((x.d:Int)+T1))] W' fun e w'=>e = .returned (.int .u64 (E':Int))∧Below W'.heap.size W' w':=fun W'=>by
     simp only [IntKind.wrap_u64]
     rw [addv_64,fE]
     exact cutT_32 g0 g1 g2 g3 (x.d+T1) W'
    have HST:Hid (stepS rn (K k / 2 ^ (64 - 32)) (X k) x=⟨A',x.a,x.b,x.c,E',x.e,x.f,x.g⟩):=(by rw [fA,fE,fT1,fT2];rfl:stepS rn (K k / 2 ^ (64 - 32)) (X k) x=⟨A',x.a,x.b,x.c,E',x.e,x.f,x.g⟩)
    clear f1 f2 fT1 fT2 fA fE hLw hL2 hZ2 hrw hrk2 hrs2 hs hWl hrs
    go_wp2
    go_quiet (fail)
    go_wp2
    go_region_held3 (fun w'=>Below wr.heap.size wr w') (first | assumption | exact hbA _) (first
     | (go_at_call 60;refine (hhi1 _ (by first | assumption | exact hbA _)).mono ?_;rintro e w' ⟨rfl,hb⟩;have hbn:=below_next (W:=wr) (by first | assumption | exact hbA _) hb)
     | (go_at_call 59;refine (hcut1 _).mono ?_;rintro e w' ⟨rfl,hb⟩;have hbn:=below_next (W:=wr) (by assumption) hb))
    clear hhi1 hcut1
    go_wp2
    go_region_held3 (fun w'=>Below wr.heap.size wr w') (first | assumption | exact Below.drew (by assumption)) (first
     | (go_at_call 60;refine (hhi2 _ (by first | assumption | exact Below.drew (by assumption))).mono ?_;rintro e w' ⟨rfl,hb⟩;have hbn:=below_next (W:=wr) (by first | assumption | exact Below.drew (by assumption)) hb)
     | (go_at_call 59;refine (hcut2 _).mono ?_;rintro e w' ⟨rfl,hb⟩;have hbn:=below_next (W:=wr) (by assumption) hb))
    clear hhi2 hcut2
    go_wp2
    go_region_held3 (fun w'=>Below wr.heap.size wr w') (first | assumption | exact Below.drew (by assumption) | exact Below.alloc (by assumption) (Below.size (by assumption)) _) (first
     | (go_at_call_of 59 T2;refine (hcut3 _).mono ?_;rintro e w' ⟨rfl,hb⟩;have hbn:=below_next (W:=wr) (by first | assumption | exact Below.drew (by assumption)) hb)
     | (go_at_call_of 59 (x.d);refine (hcut4 _).mono ?_;rintro e w' ⟨rfl,hb⟩;have hbn:=below_next (W:=wr) (by assumption) hb))
    clear hcut3 hcut4 hS hbA q0 q1 q2 q3 q4 q5 q6 q7 z0 z1 z2 z3 z4 z5 z6 rk rw'
    go_wp2
    go_roundw
    case rel =>
     have hst:roundsS rn K X s (k+1)=⟨A',x.a,x.b,x.c,E',x.e,x.f,x.g⟩:=by rw [←HST.out,HX.out];rfl
     have hf:RowAt .u64 (w'.alloc (.cells #[.int .u64 A',.int .u64 x.a,.int .u64 x.b,.int .u64 x.c,.int .u64 E',.int .u64 x.e,.int .u64 x.f,.int .u64 x.g] 78)) w'.heap.size 0 8 (roundsS rn K X s (k+1)).at:=by
      rw [hst]
      exact RowAt.fresh (fun j hj=>by
       match j,hj with
       | 0,_=>rfl
       | 1,_=>rfl
       | 2,_=>rfl
       | 3,_=>rfl
       | 4,_=>rfl
       | 5,_=>rfl
       | 6,_=>rfl
       | 7,_=>rfl)
     have hbz:=hbn.size
     have hbf:=hbel.trans ((hbn.alloc hbn.size (.cells #[.int .u64 A',.int .u64 x.a,.int .u64 x.b,.int .u64 x.c,.int .u64 E',.int .u64 x.e,.int .u64 x.f,.int .u64 x.g] 78)).mono hsz)
     exact ⟨k+1,w'.heap.size,8,hlt,by go_num,rfl,by omega,hf,hbf⟩
    case measure=>simp [intOf];omega
  · have hke:k=64:=by omega
    rw [hke] at hrow
    clear hke
    have hw3:Below w.heap.size w wr:=hw2.trans (hbel.mono hs2)
    obtain ⟨x,hxe⟩:∃ x,x=roundsS rn K X s 64:=⟨_,rfl⟩
    have HX:Hid (x=roundsS rn K X s 64):=hxe
    rw [←hxe] at hrow
    have hrs0:∀ W,Below w.heap.size w W→∀ j,j<8→W.cell? ⟨gs,j,none⟩=some (.int .u64 (s.at j)):=fun W h j hj=>(h.cell (p:=⟨gs,j,none⟩) hgs).trans (hrs j hj)
    clear hxe hL2 hZ2 hrw hrk2 hrs2 hw2 hrs
    obtain ⟨z0,z1,z2,z3,z4,z5,z6⟩:=id hZ
    go_wp2
    clear z0 z1 z2 z3 z4 z5 z6
    go_loopw [15] (fun i wq=>∃ k:Nat,k≤8∧i = .int .i64 k∧RowAt .u64 wq g 0 8 (addG 32 s x k)∧Below w.heap.size w wq∧ZBox32 wq w.heap.size g0 g1 g2 g3∧w.heap.size<wq.heap.size) (fun i _=>8 - (intOf i).toNat)
    case atStart=>exact ⟨0,Nat.zero_le _,rfl,hrow.congr (fun j _=>by simp [addG]),hw3,hZ,by omega⟩
    case round =>
     clear hrow hZ hw3 hgl hsz hbel hlt hk
     obtain ⟨k,hk,rfl,hr,hbq,hZq,hzq⟩:=hrel
     by_cases hlt:k<8
     · obtain ⟨z0,z1,z2,z3,z4,z5,z6⟩:=id hZq
       obtain ⟨rx,rf⟩:=hr k hlt
       rw [Nat.zero_add] at rx rf
       have hgq:g<wr.heap.size:=block_lt_of_cell rx
       have rs:=hrs0 _ hbq k hlt
       have ea:addG 32 s x k k=x.at k:=by simp [addG]
       rw [ea] at rx
       have hcut:∀ W':World,Calls Tryd.prog 59 #[(.agg #[.int .i64 32,.int .i64 64,.int .i64 64,.slice (some ⟨g0,0,none⟩) 3 3,.slice (some ⟨g1,0,none⟩) 3 3,.slice (some ⟨g2,0,none⟩) 3 3,.slice (some ⟨g3,0,none⟩) 3 3]),.int .u64 (IntKind.u64.wrap ((x.at k:Int)+s.at k))] W' fun e w'=>e = .returned (.int .u64 (((s.at k+x.at k)%2 ^ 32:Nat):Int))∧Below W'.heap.size W' w':=fun W'=>by
        simp only [IntKind.wrap_u64]
        rw [addv_64,Nat.add_comm (s.at k)]
        exact cutT_32 g0 g1 g2 g3 (x.at k+s.at k) W'
       have hb0:Below wr.heap.size wr wr.drew:=(Below.refl _ _).drew
       go_wp2
       go_region_with ((go_at_call 59;refine (hcut _).mono ?_;rintro e w' ⟨rfl,hb⟩;have hbn:=below_next hb0 hb;have rx':=(hbn.cell (p:=⟨g,k,none⟩) hgq).trans rx;have rf':=(hbn.frozen (p:=⟨g,k,none⟩) hgq).trans rf))
       all_goals
        go_wp2
        go_roundw
        case rel =>
         have h1:=(hr.below hbn hgq).set (i:=k) hlt (v:=(((s.at k+x.at k)%2 ^ 32:Nat):Int)) (u:=(s.at k+x.at k)%2 ^ 32) rfl
         rw [Nat.zero_add] at h1
         have hbs:=hbn.size
         have hbq':=hbq.size
         refine ⟨k+1,by omega,by go_num,h1.congr (fun j hj => ?_),(hbq.trans (hbn.mono hbq')).setCell (by show w.heap.size≤g;omega) _,?_,by simp;omega⟩
         · exact addG_step _ _ _ _ _
         · have hz:=hZq.below hbn
           unfold ZBox32 at *
           have hne:∀ v q,(w'.setCell ⟨g,k,none⟩ v).cell? ⟨w.heap.size,q,none⟩=w'.cell? ⟨w.heap.size,q,none⟩:=fun v q=>World.cell?_setCell_other _ _ _ _ (by intro h;injection h;omega)
           simp only [hne]
           exact hz
        case measure=>simp [intOf];omega
     · have hke:k=8:=by omega
       subst hke
       go_wp2
       go_ret
       refine ⟨g,c,rfl,by omega,hr.congr (fun j hj => ?_),hbq⟩
       rw [←HX.out]
       exact addG_end rn s x j hj
end Go.Proofs.YtibdhadbflfdpaaDoor
namespace Go.Proofs.YtibdhadbflfdpaaDoor
open Go.RowKit
theorem row_new (K:IntKind) (w:World) (n:Nat) (X:Nat→Nat) (t:TypeId):RowAt K (w.alloc (.cells (ints K n X).toArray t)) w.heap.size 0 n X:=RowAt.fresh (fun j hj=>by rw [List.getElem?_toArray,ints_at _ _ _ j hj])
set_option maxRecDepth 20000 in
set_option maxHeartbeats 2000000 in
theorem constants_any (w:World):Calls Tryd.prog 49 #[] w fun e w'=>∃ g,e = .returned (.slice (some ⟨g,0,none⟩) 80 80)∧w.heap.size≤g∧RowAt .u64 w' g 0 80 cubeK∧Below w.heap.size w w':=by
 go_enter Tryd.func49,Tryd.ntmps49
 go_wp2
 go_ret
 refine ⟨_,rfl,Nat.le_refl _,?_,(Below.refl _ _).alloc (Nat.le_refl _) _⟩
 have h:=row_new .u64 w 80 cubeK 78
 have e:(ints .u64 80 cubeK).toArray=#[.int .u64 4794697086780616226,.int .u64 8158064640168781261,.int .u64 13096744586834688815,.int .u64 16840607885511220156,.int .u64 4131703408338449720,.int .u64 6480981068601479193,.int .u64 10538285296894168987,.int .u64 12329834152419229976,.int .u64 15566598209576043074,.int .u64 1334009975649890238,.int .u64 2608012711638119052,.int .u64 6128411473006802146,.int .u64 8268148722764581231,.int .u64 9286055187155687089,.int .u64 11230858885718282805,.int .u64 13951009754708518548,.int .u64 16472876342353939154,.int .u64 17275323862435702243,.int .u64 1135362057144423861,.int .u64 2597628984639134821,.int .u64 3308224258029322869,.int .u64 5365058923640841347,.int .u64 6679025012923562964,.int .u64 8573033837759648693,.int .u64 10970295158949994411,.int .u64 12119686244451234320,.int .u64 12683024718118986047,.int .u64 13788192230050041572,.int .u64 14330467153632333762,.int .u64 15395433587784984357,.int .u64 489312712824947311,.int .u64 1452737877330783856,.int .u64 2861767655752347644,.int .u64 3322285676063803686,.int .u64 5560940570517711597,.int .u64 5996557281743188959,.int .u64 7280758554555802590,.int .u64 8532644243296465576,.int .u64 9350256976987008742,.int .u64 10552545826968843579,.int .u64 11727347734174303076,.int .u64 12113106623233404929,.int .u64 14000437183269869457,.int .u64 14369950271660146224,.int .u64 15101387698204529176,.int .u64 15463397548674623760,.int .u64 17586052441742319658,.int .u64 1182934255886127544,.int .u64 1847814050463011016,.int .u64 2177327727835720531,.int .u64 2830643537854262169,.int .u64 3796741975233480872,.int .u64 4115178125766777443,.int .u64 5681478168544905931,.int .u64 6601373596472566643,.int .u64 7507060721942968483,.int .u64 8399075790359081724,.int .u64 8693463985226723168,.int .u64 9568029438360202098,.int .u64 10144078919501101548,.int .u64 10430055236837252648,.int .u64 11840083180663258601,.int .u64 13761210420658862357,.int .u64 14299343276471374635,.int .u64 14566680578165727644,.int .u64 15097957966210449927,.int .u64 16922976911328602910,.int .u64 17689382322260857208,.int .u64 500013540394364858,.int .u64 748580250866718886,.int .u64 1242879168328830382,.int .u64 1977374033974150939,.int .u64 2944078676154940804,.int .u64 3659926193048069267,.int .u64 4368137639120453308,.int .u64 4836135668995329356,.int .u64 5532061633213252278,.int .u64 6448918945643986474,.int .u64 6902733635092675308,.int .u64 7801388544844847127]:=by kernel_rfl
 rw [e] at h
 exact h
theorem first_any (w:World):Calls Tryd.prog 50 #[] w fun e w'=>∃ g,e = .returned (.slice (some ⟨g,0,none⟩) 8 8)∧w.heap.size≤g∧RowAt .u64 w' g 0 8 squareK∧Below w.heap.size w w':=by
 go_enter Tryd.func50,Tryd.ntmps50
 go_wp2
 go_ret
 exact ⟨_,rfl,Nat.le_refl _,row_new .u64 w 8 squareK 78,(Below.refl _ _).alloc (Nat.le_refl _) _⟩
theorem sliceMid (W:World) (bb ob n cap l m:Nat) (hm:0<m) (h:l+m≤cap):(Instr.sliceAt 22 (.slice (some ⟨bb,ob,none⟩) n cap) (some (.int .i64 l)) (some (.int .i64 ((l:Int)+m))) none).run Tryd.prog W = .ok (.slice (some ⟨bb,ob+l,none⟩) m (cap - l)) W:=by
 have h1:Tryd.prog.underlying 22=some (.slice (Tryd.prog.elem 22)):=by kernel_rfl
 have h2:Tryd.prog.elem 22=5:=by kernel_rfl
 have h3:((sizeOf 5).run Tryd.prog W) = .ok 1 W:=by kernel_rfl
 rw [run_sliceAt_slice W 22 _ _ _ _ h1,run_slice_lh W 22 _ n cap h1 .i64 .i64 l ((l:Int)+m) (by omega) (by omega) (by omega),h2,h3]
 have e2:((l:Int)+m).toNat=l+m:=by omega
 have e3:¬(cap=l):=by omega
 simp [sliced,Addr.add_mid,Option.map,e2,e3]
 try omega
theorem step_append_next64 {ops:Array Oper} {o:Oper} {a:Act} {w:World} {K:Act→World→Prop} {Q:Exit→Act→World→Prop} {E:Prop} (hgd:o.guard=none) (s x:Operand)
 (ho:o.op = .call { callee := .builtin .append,args:=#[s,x],argTypes:=#[84,84] }) (base:Nat)
 (v:Value) (n:Nat) (F:Nat→Nat) (y:Int) (hs:a.eval s=v) (hown:w.ownsRow base 78 1 v n (ints .u64 n F)) (g:Nat) (hg:w.heap.size=g) (hx:a.eval x = .slice (some ⟨g,0,none⟩) 1 1) (hF:y=(F n:Int))
 (hl:n+1≤1000000) (hbase:base≤w.heap.size)
 (h:∀ v' w',w'.ownsRow base 78 1 v' (n+1) (ints .u64 (n+1) F)→Below base w w'→K (a.put o.dst v') w') :
 if Region.wanted o (yielded ops a.tmps)=true then Oper.wp Tryd.prog o a (w.alloc (.cells #[.int .u64 y] 78)) K Q else E:=by
 obtain ⟨i0,hi,hz0,hz1,hz2⟩:=info_parts Tryd.info78
 subst hg
 subst hF
 have hz:base≤(w.alloc (.cells #[.int .u64 (F n:Int)] 78)).heap.size:=by simp only [World.size_alloc];omega
 refine step_append_lies (P:=Tryd.prog) (w:=w.alloc (.cells #[.int .u64 (F n:Int)] 78)) hgd s x 84 ho base 78 i0 (.int .u64 0) 1 8 Tryd.underlying84 hi hz0 hz1 hz2 rfl (by decide) v n _ hs (hown.alloc _) ⟨w.heap.size,0,none⟩ 1 1 [.int .u64 (F n)] hx rfl (one_new _ _ _) (one_cell _ _) (by decide) (by unfold maxLen;omega) (by omega) hz _ rfl ?_
 intro g' cap' w' h1 h2 _ _
 rw [ints_snoc] at h1
 exact h _ w' h1 (below_grown ((Below.refl _ _).alloc hbase _) h2 (hown.alloc _) (Nat.le_refl _) hz)
theorem cell_top (w:World) (cs:Array Value) (t:TypeId) (b j:Nat) (hb:b=w.heap.size):(w.alloc (.cells cs t)).cell? ⟨b,j,none⟩=cs[j]?:=by
 subst hb
 rw [cell_of_row _ _ j _ _ _ (heap_alloc_new w _)]
theorem padN32_mod (n:Nat):∃ T,n+padN rn n=T*64∧0<T:=by
 refine ⟨(n+padN rn n) / 64,?_⟩
 have e:padN rn n=1+(4*32 - 1 - 32 / 4 - n%(2*32))%(2*32)+32 / 4:=rfl
 omega
theorem hsmall_any (w:World):Calls Tryd.prog 37 #[] w fun e w'=>∃ g0 g1 g2 g3,e = .returned (.agg #[.int .i64 32,.int .i64 64,.int .i64 64,.slice (some ⟨g0,0,none⟩) 3 3,.slice (some ⟨g1,0,none⟩) 3 3,.slice (some ⟨g2,0,none⟩) 3 3,.slice (some ⟨g3,0,none⟩) 3 3])∧Lists32 w' g0 g1 g2 g3∧Below w.heap.size w w':=by
 go_enter Tryd.func37,Tryd.ntmps37
 go_wp2
 refine bodyPost_ret (results_cell_mid Tryd.results37 _ _ w.heap.size 0 [.int .i64 32,.int .i64 64,.int .i64 64,.slice (some ⟨w.heap.size+1,0,none⟩) 3 3,.slice (some ⟨w.heap.size+1+1,0,none⟩) 3 3,.slice (some ⟨w.heap.size+1+1+1,0,none⟩) 3 3,.slice (some ⟨w.heap.size+1+1+1+1,0,none⟩) 3 3] _ rfl ?hc Tryd.underlying68 rfl (by kernel_rfl)) rfl ⟨_,_,_,_,rfl,?hl,?hb⟩
 case hc =>
  intro j u hu
  have hj:j<7:=(List.getElem?_eq_some_iff.1 hu).1
  repeat rw [World.cell?_alloc_lt _ _ _ (by simp only [World.size_alloc];omega)]
  rw [cell_top _ _ _ _ _ rfl,Nat.zero_add,←hu]
  match j,hj with
  | 0,_=>rfl
  | 1,_=>rfl
  | 2,_=>rfl
  | 3,_=>rfl
  | 4,_=>rfl
  | 5,_=>rfl
  | 6,_=>rfl
 case hl =>
  constructor <;> ((repeat rw [World.cell?_alloc_lt _ _ _ (by simp only [World.size_alloc];omega)]);rw [cell_top _ _ _ _ _ (by simp only [World.size_alloc])];rfl)
 case hb=>exact (((((Below.refl _ _).alloc (Nat.le_refl _) _).alloc (by simp) _).alloc (by simp;omega) _).alloc (by simp;omega) _).alloc (by simp;omega) _
end Go.Proofs.YtibdhadbflfdpaaDoor
namespace Go.Proofs.YtibdhadbflfdpaaDoor
open Go.RowKit
set_option maxRecDepth 20000 in
set_option maxHeartbeats 4000000 in
theorem sumR32_any (g0 g1 g2 g3:Nat) (v:Value) (n:Nat) (bs:Nat→Nat) (hbs:∀ j,bs j<256) (w:World) (hL:Lists32 w g0 g1 g2 g3) (hv:BytesIn w v n bs) (hn:n<140737488355000) :
 Calls Tryd.prog 38 #[(.agg #[.int .i64 32,.int .i64 64,.int .i64 64,.slice (some ⟨g0,0,none⟩) 3 3,.slice (some ⟨g1,0,none⟩) 3 3,.slice (some ⟨g2,0,none⟩) 3 3,.slice (some ⟨g3,0,none⟩) 3 3]),v] w fun e w'=>∃ v',e = .returned v'∧Own w.heap.size w' v' 32 (outB 32 (specS rn cubeK squareK n bs))∧Below w.heap.size w w':=by
 have hpad:=fun W' (h:Below w.heap.size w W')=>padded32_any g0 g1 g2 g3 v n bs W' (hv.keep h) hn
 have hzb:=zbox32 w g0 g1 g2 g3
 obtain ⟨F,hF⟩:∃ F,F=cat n bs (padF rn n):=⟨_,rfl⟩
 have hFl:∀ j,F j<256:=by rw [hF];exact cat_lt hbs (padF_lt _ _)
 obtain ⟨T,hT,hT0⟩:=padN32_mod n
 have hTb:T*64<140737488355328:=by have:=padN32_le n;omega
 have HS:Hid (specS rn cubeK squareK n bs=loopS rn cubeK (firstS rn squareK) F T):=by
  show specS rn cubeK squareK n bs=_
  unfold specS
  rw [←hF,hT,show T*64 / (2*Ru.m rn)=T from Nat.mul_div_cancel T (by decide)]
 rw [←hF,hT] at hpad
 clear hF hv
 go_enter Tryd.func38,Tryd.ntmps38
 go_wp2_with (first
  | (go_at_call 49;refine (constants_any _).mono ?_;rintro e w1 ⟨gk,rfl,hgk,hrk,hb1⟩;simp only [World.size_alloc] at hgk hb1)
  | (go_at_call 50;refine (first_any _).mono ?_;rintro e w2 ⟨gq,rfl,hgq,hrq,hb2⟩))
 have hs1:=hb1.size
 have hs2:=hb2.size
 simp only [World.size_alloc] at hs1
 have hZ2:ZBox32 w2 w.heap.size g0 g1 g2 g3:=by
  have hc:∀ j,w2.cell? ⟨w.heap.size,j,none⟩=(w.alloc (.cells #[.int .i64 32,.int .i64 64,.int .i64 64,.slice (some ⟨g0,0,none⟩) 3 3,.slice (some ⟨g1,0,none⟩) 3 3,.slice (some ⟨g2,0,none⟩) 3 3,.slice (some ⟨g3,0,none⟩) 3 3] 68)).cell? ⟨w.heap.size,j,none⟩:=fun j=>(hb2.cell (p:=⟨w.heap.size,j,none⟩) (by show w.heap.size<_;omega)).trans (hb1.cell (p:=⟨w.heap.size,j,none⟩) (Nat.lt_succ_self _))
  unfold ZBox32 at *
  simp only [hc]
  exact hzb
 have hgk1:gk<w1.heap.size:=block_lt_of_cell (hrk 0 (by decide)).1
 have hgq2:gq<w2.heap.size:=block_lt_of_cell (hrq 0 (by decide)).1
 have hrk2:RowAt .u64 w2 gk 0 80 cubeK:=hrk.below hb2 hgk1
 have hw2:Below w.heap.size w w2:=((Below.refl _ _).alloc (Nat.le_refl _) _).trans ((hb1.mono (by omega)).trans (hb2.mono (by omega)))
 have hL2:=hL.below hw2
 have hzl:w.heap.size<w2.heap.size:=by omega
 have hgk2:gk<w2.heap.size:=by omega
 clear hrk hb1 hb2 hs1 hs2 hzb hgk1 hgk hgq hL
 obtain ⟨s0,hs0⟩:∃ s0,s0=firstS rn squareK:=⟨_,rfl⟩
 have hsl:s0.lt (2 ^ 32):=by rw [hs0];exact firstS_lt rn squareK (by decide) squareK_lt
 have hsq:∀ k,k<8→s0.at k=squareK k / 2 ^ (64 - 32):=fun k hk=>by
  rw [hs0]
  match k,hk with
  | 0,_=>rfl
  | 1,_=>rfl
  | 2,_=>rfl
  | 3,_=>rfl
  | 4,_=>rfl
  | 5,_=>rfl
  | 6,_=>rfl
  | 7,_=>rfl
 rw [←hs0] at HS
 clear hs0
 go_loopw [7,8] (fun v i wr=>∃ k:Nat,k≤8∧i = .int .i64 k∧wr.ownsRow w2.heap.size 78 1 v k (ints .u64 k s0.at)∧Below w2.heap.size w2 wr) (fun _ i _=>8 - (intOf i).toNat)
 case atStart=>exact ⟨0,Nat.zero_le _,rfl,World.ownsRow_nil _ _ _ _,Below.refl _ _⟩
 case round =>
  obtain ⟨k,hk,rfl,hown,hbel⟩:=hrel
  have hsr:=hbel.size
  by_cases hlt:k<8
  · have hZ:=hZ2.below hbel
    obtain ⟨z0,z1,z2,z3,z4,z5,z6⟩:=hZ
    have rq:wr.cell? ⟨gq,k,none⟩=some (.int .u64 (squareK k)):=by
     have:=(hrq k hlt).1
     rw [Nat.zero_add] at this
     exact (hbel.cell (p:=⟨gq,k,none⟩) hgq2).trans this
    obtain ⟨qk,hqk⟩:∃ qk,qk=squareK k:=⟨_,rfl⟩
    have HY:Hid (s0.at k=qk / 2 ^ (64 - 32)):=(by rw [hqk];exact hsq k hlt:s0.at k=qk / 2 ^ (64 - 32))
    rw [←hqk] at rq
    clear hqk hpad hFl hrk2 hrq hL2 hZ2
    have hS:∀ w':World,Below w2.heap.size wr w'→∀ b o,b<w2.heap.size→w'.cell? ⟨b,o,none⟩=wr.cell? ⟨b,o,none⟩:=fun w' h b o hb=>h.cell (p:=⟨b,o,none⟩) hb
    have hbd:∀ m,Below wr.heap.size wr (wr.drewN m):=fun m=>below_drewN (Below.refl _ _) m
    have hb0:Below w2.heap.size wr wr.drew:=(Below.refl _ _).drew
    have hki:(0:Int)≤(k:Int)∧(k:Int)<8:=by omega
    have hown0:=own_below hown ((Below.refl _ _).drew:Below wr.heap.size wr wr.drew)
    have hsz0:w2.heap.size≤wr.drew.heap.size:=hsr
    have h00:min (IntKind.u64.wrap (IntKind.i64.wrap 0)).toNat 64=0:=by rfl
    have hy:(qk / 4294967296:Int)=(s0.at k:Int):=by
     try rw [h00]
     rw [HY.out]
     simp
    clear h00
    have HYY:Hid ((qk / 4294967296:Int)=(s0.at k:Int)):=hy
    clear hy
    go_wp2
    go_region_held3 (fun w'=>Below w2.heap.size wr w') (first | assumption | exact Below.alloc (by assumption) (by assumption) _) (first | (refine step_append_next64 rfl (.tmp 20) (.tmp 30) rfl w2.heap.size _ k s0.at _ rfl hown0 _ rfl rfl HYY.out (by omega) hsz0 ?_;intro v' w' hown1 hbx;have hbn:Below w2.heap.size wr w':=hb0.trans hbx))
    clear hS hb0 hbd z0 z1 z2 z3 z4 z5 z6 rq
    go_wp2
    go_roundw
    case rel =>
     first
      | exact ⟨k+1,by omega,by go_num,hown1,hbel.trans hbn⟩
      | (repeat apply Exists.intro
         refine ⟨?_,rfl⟩
         exact ⟨k+1,by omega,by go_num,hown1,hbel.trans hbn⟩)
    case measure=>simp [intOf];omega
  · have hke:k=8:=by omega
    rw [hke] at hown
    clear hke
    obtain ⟨gs,cs,hu7,hgs,hgsl⟩:=hown.form (by decide)
    subst hu7
    have hrs:RowAt .u64 wr gs 0 8 s0.at:=fun j hj=>by
     rw [Nat.zero_add]
     exact ⟨by rw [hown.cellAt j (by omega),ints_at _ _ _ j hj],hown.frozenAt j⟩
    have hwr:Below w.heap.size w wr:=hw2.trans (hbel.mono (by omega))
    have hpad':=hpad wr hwr
    have hZ:=hZ2.below hbel
    obtain ⟨z0,z1,z2,z3,z4,z5,z6⟩:=hZ
    clear hpad hrq hsq hown
    go_wp2_with (go_at_call 51;refine hpad'.mono ?_;rintro e w4 ⟨vp,rfl,ownp,hb4⟩)
    clear z0 z1 z2 z3 z4 z5 z6 hpad'
    rcases ownp.form with ⟨-,h0⟩ | ⟨gp,cp,hvp,hgp,hgpl,hcp,hrp⟩
    · omega
    subst hvp
    obtain ⟨N,hNe⟩:∃ N,N=T*64:=⟨_,rfl⟩
    rw [←hNe] at hcp hrp hTb ⊢
    have hs4:=hb4.size
    have hw4:Below w2.heap.size w2 w4:=hbel.trans (hb4.mono hsr)
    have hww:Below w.heap.size w w4:=hw2.trans (hw4.mono (by omega))
    have hrs4:RowAt .u64 w4 gs 0 8 s0.at:=hrs.below hb4 hgsl
    have hrk4:RowAt .u64 w4 gk 0 80 cubeK:=hrk2.below hw4 hgk2
    have hL4:=hL2.below hw4
    have hZ4:=hZ2.below hw4
    have hk4:gk<w4.heap.size:=by omega
    have hz4:w.heap.size<w4.heap.size:=by omega
    have hgs4:w.heap.size≤gs:=by omega
    have HN:Hid (N=T*64):=hNe
    clear ownp hb4 hw4 hrs hrk2 hL2 hZ2 hbel hs4 hsr hwr hk hlt hNe hw2 hgq2 hgk2 hzl hT hn
    go_loopw [7,10] (fun v i wq=>∃ t P g c:Nat,t≤T∧Hid (P=t*64)∧i = .int .i64 P∧v = .slice (some ⟨g,0,none⟩) 8 c∧RowAt .u64 wq g 0 8 (loopS rn cubeK s0 F t).at∧w.heap.size≤g∧Below w4.heap.size w4 wq) (fun _ i _=>N - (intOf i).toNat)
    case atStart=>exact ⟨0,0,gs,cs,Nat.zero_le _,(by omega:0=0*64),rfl,rfl,hrs4,hgs4,Below.refl _ _⟩
    case round =>
     clear hrs4
     obtain ⟨t,P,g,c,ht,HP,rfl,rfl,hrow,hgw,hbq⟩:=hrel
     have hsq4:=hbq.size
     have hgl:g<wr.heap.size:=block_lt_of_cell (hrow 0 (by decide)).1
     have hZ:=hZ4.below hbq
     by_cases hlt:t<T
     · have hPN:P+64≤N:=by have:=HP.out;have:=HN.out;omega
       have hPi:(P:Int)<N:=by omega
       have hblk:∀ W':World,Below wr.heap.size wr W'→Calls Tryd.prog 52 #[(.agg #[.int .i64 32,.int .i64 64,.int .i64 64,.slice (some ⟨g0,0,none⟩) 3 3,.slice (some ⟨g1,0,none⟩) 3 3,.slice (some ⟨g2,0,none⟩) 3 3,.slice (some ⟨g3,0,none⟩) 3 3]),.slice (some ⟨g,0,none⟩) 8 c,.slice (some ⟨gk,0,none⟩) 80 80,.slice (some ⟨gp,P,none⟩) 64 (cp - P)] W' fun e w'=>∃ g' c',e = .returned (.slice (some ⟨g',0,none⟩) 8 c')∧W'.heap.size≤g'∧RowAt .u64 w' g' 0 8 (loopS rn cubeK s0 F (t+1)).at∧Below W'.heap.size W' w':=fun W' h=>by
        have hl:=hbq.trans (h.mono hsq4)
        have hh:=blockR32_any cubeK g0 g1 g2 g3 g c gk 80 gp P (cp - P) (loopS rn cubeK s0 F t) (loopS_lt (r:=rn) hsl t) (fun j=>F (P+j)) (fun j=>hFl _) W' (hL4.below hl)
         (fun j hj=>by have:=((hrow.below h hgl) j hj).1;rwa [Nat.zero_add] at this)
         (fun j hj=>by have:=((hrk4.below hl hk4) j hj).1;rwa [Nat.zero_add] at this)
         (fun j hj=>by have:=((hrp.below hl hgpl) (P+j) (by omega)).1;rwa [Nat.zero_add] at this)
        rw [blockR32_eq _ _ (fun j=>hFl _)] at hh
        have e:blockS rn cubeK (fun j=>F (P+j)) (loopS rn cubeK s0 F t)=loopS rn cubeK s0 F (t+1):=by
         rw [HP.out];rfl
        rw [e] at hh
        exact hh
       have hsm:∀ W:World,(Instr.sliceAt 22 (.slice (some ⟨gp,0,none⟩) N cp) (some (.int .i64 P)) (some (.int .i64 ((P:Int)+64))) none).run Tryd.prog W = .ok (.slice (some ⟨gp,P,none⟩) 64 (cp - P)) W:=fun W=>by
        have h:=sliceMid W gp 0 N cp P 64 (by decide) (by omega)
        rw [Nat.zero_add] at h
        exact h
       have hw64:IntKind.i64.wrap ((P:Int)+64)=(P:Int)+64:=by simp only [IntKind.wrap_i64];omega
       have b1:(0:Int)≤(P:Int):=by omega
       have b2:(P:Int)≤(P:Int)+64:=by omega
       have b3:(P:Int)+64≤(cp:Int):=by omega
       obtain ⟨z0,z1,z2,z3,z4,z5,z6⟩:=hZ
       have hS:∀ w':World,Below wr.heap.size wr w'→∀ b o,b<wr.heap.size→w'.cell? ⟨b,o,none⟩=wr.cell? ⟨b,o,none⟩:=fun w' h b o hb=>h.cell (p:=⟨b,o,none⟩) hb
       have hb0:Below wr.heap.size wr wr.drew:=(Below.refl _ _).drew
       have m0:w.heap.size<wr.heap.size:=by omega
       have hPb:(P:Int)+64<140737488355328:=by omega
       clear hrow hL4 hZ4 hrk4 hrp hFl hsl
       go_wp2
       go_region_held3 (fun w'=>Below wr.heap.size wr w') (first | assumption) (first
        | (go_at_call 52;refine (hblk _ (by assumption)).mono ?_;rintro e w' ⟨g',c',rfl,hg',hrow',hb⟩;have hbn:=below_next (W:=wr) (by assumption) hb))
       have zz:=(hbn.cell (p:=⟨w.heap.size,1,none⟩) m0).trans z1
       clear hblk hS hb0 z0 z1 z2 z3 z4 z5 z6 hsm b1 b2 b3 hw64
       go_wp2
       go_roundw
       case rel =>
        have hP':P+64=(t+1)*64:=by have:=HP.out;omega
        have hg2:w.heap.size≤g':=by simp only [World.size_drew] at hg';omega
        exact ⟨t+1,P+64,g',c',by omega,hP',by go_num,rfl,hrow',hg2,hbq.trans (hbn.mono hsq4)⟩
       case measure=>simp [intOf];omega
     · have hte:t=T:=by omega
       have hPN:P=N:=by have:=HP.out;have:=HN.out;rw [hte] at *;omega
       rw [hte] at hrow
       obtain ⟨x,hxe⟩:∃ x,x=loopS rn cubeK s0 F T:=⟨_,rfl⟩
       have HX:Hid (x=loopS rn cubeK s0 F T):=hxe
       rw [←hxe] at hrow
       clear hxe hte hL4 hZ4 hrk4 hrp hFl hsl
       obtain ⟨z0,z1,z2,z3,z4,z5,z6⟩:=id hZ
       obtain ⟨Wq,hWq⟩:∃ W,W=wr:=⟨_,rfl⟩
       subst hWq
       go_wp2
       clear z0 z1 z2 z3 z4 z5 z6
       go_loopw [11,12] (fun o i wx=>∃ k:Nat,k≤8∧i = .int .i64 k∧Own Wq.heap.size wx o (k*4) (outB 32 x)∧Below Wq.heap.size Wq wx) (fun _ i _=>8 - (intOf i).toNat)
       case atStart=>exact ⟨0,Nat.zero_le _,rfl,(Own.nil _ _ _).start (by omega),Below.refl _ _⟩
       case round =>
        clear hPN hlt
        obtain ⟨k,hk,rfl,own,hb⟩:=hrel
        have hsx:=hb.size
        by_cases hlt:k<8
        · obtain ⟨z0,z1,z2,z3,z4,z5,z6⟩:=hZ.below hb
          go_wp2
          clear z0 z1 z2 z3 z4 z5 z6
          have hd:decide ((k:Int)<8)=true:=decide_eq_true (by omega)
          rw [hd]
          clear hd
          go_loopw [11,13] (fun o m wy=>∃ t:Nat,t≤4∧m = .int .i64 (32 - 8 - 8*(t:Int))∧Own Wq.heap.size wy o (k*4+t) (outB 32 x)∧Below Wq.heap.size Wq wy) (fun o _ _=>k*4+4 - lenV o)
          case atStart=>exact ⟨0,Nat.zero_le _,by go_num,own,hb⟩
          case round =>
           clear own hb hsx
           obtain ⟨q,hq,rfl,own,hb⟩:=hrel
           have hsx:=hb.size
           have hc:wr.cell? ⟨g,k,none⟩=some (.int .u64 (x.at k)):=by have:=((hrow.below hb hgl) k hlt).1;rwa [Nat.zero_add] at this
           by_cases hlq:q<4
           · obtain ⟨m,hm⟩:∃ m:Nat,m=32 - 8 - 8*q:=⟨_,rfl⟩
             have hmi:(32 - 8 - 8*(q:Int))=(m:Int):=by omega
             have hF:Hid (((x.at k / 2 ^ m%256:Nat):Int)=(outB 32 x (k*4+q):Int)):=by
              show ((x.at k / 2 ^ m%256:Nat):Int)=(outB 32 x (k*4+q):Int)
              unfold outB
              rw [show (k*4+q) / (32 / 8)=k by omega,show 32 - 8 - (k*4+q)%(32 / 8)*8=m by omega]
             have hlen:Hid (lenV u11=k*4+q):=by
              show lenV u11=k*4+q
              rcases own.form with ⟨rfl,h0⟩ | ⟨_,_,rfl,_⟩
              · rw [h0];rfl
              · rfl
             have HM:Hid (m=32 - 8 - 8*q):=hm
             have hml:m<32:=by omega
             rw [hmi]
             clear hm hmi
             go_wp2_with (at_builtin;refine wpList_append_next rfl (.tmp 65) (.tmp 74) rfl Wq.heap.size _ (k*4+q) (outB 32 x) _ rfl own rfl (by rw [←hF.out];simp) (by omega) hsx ?_;intro v3 w3 own3 hb3)
             have hl3:lenV v3=k*4+q+1:=by
              rcases own3.form with ⟨_,h0⟩ | ⟨_,_,rfl,_⟩
              · omega
              · rfl
             go_roundw
             case rel=>exact ⟨q+1,by omega,by have:=HM.out;go_num,own3.start (by omega),hb.trans hb3⟩
             case measure=>have:=hlen.out;omega
           · have hqe:q=4:=by omega
             go_wp2
             go_roundw
             case rel=>exact ⟨k+1,by omega,by go_num,own.start (by omega),hb⟩
             case measure=>simp [intOf];omega
        · have hke:k=8:=by omega
          go_wp2
          go_ret
          rw [HS.out,←HX.out]
          exact ⟨_,rfl,own_base (own.start (by omega)) (by omega),hww.trans ((hbq.trans (hb.mono (by omega))).mono (by omega))⟩
set_option maxHeartbeats 1000000 in
theorem rSum256_any (v:Value) (n:Nat) (bs:Nat→Nat) (hbs:∀ j,bs j<256) (w:World) (hv:BytesIn w v n bs) (hn:n<140737488355000) :
 Calls Tryd.prog 24 #[v] w fun e w'=>∃ v',e = .returned v'∧Own w.heap.size w' v' 32 (outB 32 (specS rn cubeK squareK n bs))∧Below w.heap.size w w':=by
 have hk:∀ (w1:World) (g0 g1 g2 g3:Nat),Lists32 w1 g0 g1 g2 g3→Below w.heap.size w w1→Calls Tryd.prog 38 #[(.agg #[.int .i64 32,.int .i64 64,.int .i64 64,.slice (some ⟨g0,0,none⟩) 3 3,.slice (some ⟨g1,0,none⟩) 3 3,.slice (some ⟨g2,0,none⟩) 3 3,.slice (some ⟨g3,0,none⟩) 3 3]),v] (w1.alloc (.cells #[.int .i64 32,.int .i64 64,.int .i64 64,.slice (some ⟨g0,0,none⟩) 3 3,.slice (some ⟨g1,0,none⟩) 3 3,.slice (some ⟨g2,0,none⟩) 3 3,.slice (some ⟨g3,0,none⟩) 3 3] 68)) fun e w'=>∃ v',e = .returned v'∧Own w.heap.size w' v' 32 (outB 32 (specS rn cubeK squareK n bs))∧Below w.heap.size w w':=fun w1 g0 g1 g2 g3 hL hb=>by
  have hb2:=hb.alloc hb.size (.cells #[.int .i64 32,.int .i64 64,.int .i64 64,.slice (some ⟨g0,0,none⟩) 3 3,.slice (some ⟨g1,0,none⟩) 3 3,.slice (some ⟨g2,0,none⟩) 3 3,.slice (some ⟨g3,0,none⟩) 3 3] 68)
  refine (sumR32_any g0 g1 g2 g3 v n bs hbs (w1.alloc (.cells #[.int .i64 32,.int .i64 64,.int .i64 64,.slice (some ⟨g0,0,none⟩) 3 3,.slice (some ⟨g1,0,none⟩) 3 3,.slice (some ⟨g2,0,none⟩) 3 3,.slice (some ⟨g3,0,none⟩) 3 3] 68)) (hL.below ((Below.refl _ _).alloc (Nat.le_refl _) _)) (hv.keep hb2) hn).mono ?_
  rintro e w' ⟨v',rfl,ho,hb'⟩
  exact ⟨v',rfl,own_base ho hb2.size,hb2.trans (hb'.mono hb2.size)⟩
 clear hv
 go_enter Tryd.func24,Tryd.ntmps24
 go_wp2_with (first
  | (go_at_call 37;refine (hsmall_any _).mono ?_;rintro e w1 ⟨g0,g1,g2,g3,rfl,hL,hb1⟩;replace hk:=hk w1 g0 g1 g2 g3 hL hb1)
  | (go_at_call 38;refine hk.mono ?_;rintro e w' ⟨v',rfl,ho,hb'⟩))
 go_ret
 exact ⟨v',rfl,ho,hb'⟩
end Go.Proofs.YtibdhadbflfdpaaDoor
namespace Go.Proofs.YtibdhadbflfdpaaDoor
open Go.RowKit
theorem Own.stored {base:Nat} {w:World} {g n cap:Nat} {X:Nat→Nat} (h:Own base w (.slice (some ⟨g,0,none⟩) n cap) n X) (i:Nat) (v:Int) (u:Nat) (hu:v=(u:Int)):Own base (w.setCell ⟨g,i,none⟩ (.int .u8 v)) (.slice (some ⟨g,0,none⟩) n cap) n (upd X i u):=by
 have h1:=World.ownsRow.stored h i (.int .u8 v)
 unfold Own
 have e:(ints .u8 n X).set i (.int .u8 v)=ints .u8 n (upd X i u):=by
  apply List.ext_getElem?
  intro j
  by_cases hj:j<n
  · rw [ints_at _ _ _ j hj,List.getElem?_set]
    by_cases e:i=j
    · subst e;simp [ints_len,hj,upd,hu]
    · simp only [e,if_false]
      rw [ints_at _ _ _ j hj]
      simp [upd,show ¬j=i from fun h=>e h.symm]
  · rw [List.getElem?_eq_none (by rw [List.length_set,ints_len];omega),List.getElem?_eq_none (by rw [ints_len];omega)]
 rw [←e]
 exact h1.1
theorem zb_ints (n:Nat):(zb n).toList=ints .u8 n (fun _=>0):=by
 apply List.ext_getElem?
 intro j
 by_cases hj:j<n
 · rw [Array.getElem?_toList,zb_at n j hj,ints_at _ _ _ j hj];rfl
 · rw [List.getElem?_eq_none (by simp [zb];omega),List.getElem?_eq_none (by rw [ints_len];omega)]
theorem Own.made (base:Nat) (w:World) (n:Nat) (hn:n≤1000000) (hb:base≤w.heap.size):Own base (w.alloc (.cells (zb n) 5)) (.slice (some ⟨w.heap.size,0,none⟩) n n) n (fun _=>0):=by
 have h:=World.ownsRow_lit (base:=base) (e:=5) (size:=1) w (zb n) n hb (by unfold maxLen;omega) (by simp [zb])
 rw [zb_ints] at h
 exact h
def padG2 (kv:Nat→Nat) (p k:Nat):Nat→Nat:=fun j=>if j<k then kv j ^^^ p else 0
theorem padG2_step (kv:Nat→Nat) (p k j:Nat):upd (padG2 kv p k) k (kv k ^^^ p) j=padG2 kv p (k+1) j:=by
 unfold upd padG2
 by_cases e:j=k
 · subst e;rw [if_pos rfl,if_pos (by omega)]
 · rw [if_neg e]
   by_cases e2:j<k
   · rw [if_pos e2,if_pos (by omega)]
   · rw [if_neg e2,if_neg (by omega)]
set_option maxRecDepth 20000 in
set_option maxHeartbeats 2000000 in
theorem rpad_short_any (xo:Option Addr) (n cx p:Nat) (bs:Nat→Nat) (hbs:∀ j,bs j<256) (hp:p<256) (w:World) (hv:BytesIn w (.slice xo n cx) n bs) (hn:n≤64) :
 Calls Tryd.prog 44 #[.slice xo n cx,.int .u8 p] w fun e w'=>∃ v',e = .returned v'∧Own w.heap.size w' v' 64 (fun j=>keyB n bs j ^^^ p)∧Below w.heap.size w w':=by
 obtain ⟨kv,hkv0⟩:∃ kv,kv=keyB n bs:=⟨_,rfl⟩
 have hkk:Hid (∀ j,kv j=keyB n bs j):=(fun j=>by rw [hkv0]:∀ j,kv j=keyB n bs j)
 have hkvl:∀ j,kv j<256:=fun j=>by rw [hkv0];exact keyB_lt hbs j
 have hkv:∀ j,j<64→kv j=if j<n then bs j else 0:=fun j _=>by rw [hkv0];unfold keyB;rw [if_pos hn]
 have hsrc:∀ k,k<n→∃ bb ob,xo=some ⟨bb,ob,none⟩∧bb<w.heap.size∧w.cell? ⟨bb,ob+k,none⟩=some (.int .u8 (bs k)):=fun k hk=>by
  rcases hv with ⟨_,_,hz⟩ | ⟨bb,ob,cap,e,h1,_,h3⟩
  · omega
  · cases e
    exact ⟨bb,ob,rfl,h1,h3 k hk⟩
 have hW:Below w.heap.size w w:=Below.refl _ _
 have hni:¬(64<(n:Int)):=by omega
 clear hkv0 hv
 have hmk:=fun W=>make_bytes W 64 64 rfl (by decide)
 go_enter Tryd.func44,Tryd.ntmps44
 go_wp2
 go_loopw [7] (fun i wr=>∃ k:Nat,k≤64∧i = .int .i64 k∧Own w.heap.size wr (.slice (some ⟨w.heap.size,0,none⟩) 64 64) 64 (padG2 kv p k)∧Below w.heap.size w wr) (fun i _=>64 - (intOf i).toNat)
 case atStart=>exact ⟨0,Nat.zero_le _,rfl,(Own.made _ _ 64 (by decide) hW.size).congr (fun j _=>by simp [padG2]),(Below.refl _ _).alloc (Nat.le_refl _) _⟩
 case round =>
  obtain ⟨k,hk,rfl,hown,hb⟩:=hrel
  by_cases hlt:k<64
  · have hrow:RowAt .u8 wr w.heap.size 0 64 (padG2 kv p k):=by
     rcases hown.form with ⟨h,_⟩ | ⟨g,cap,h,_,_,_,hr⟩
     · cases h
     · cases h;exact hr
    obtain ⟨rk,rf⟩:=hrow k hlt
    rw [Nat.zero_add] at rk rf
    have ek:padG2 kv p k k=0:=by simp [padG2]
    rw [ek] at rk
    have hki:(0:Int)≤(k:Int)∧(k:Int)<64:=by omega
    have hs1:=hown.stored k (p:Int) p rfl
    by_cases hkm:k<n
    · obtain ⟨bb,ob,hx,hbb,rc⟩:=hsrc k hkm
      cases hx
      have rc':wr.cell? ⟨bb,ob+k,none⟩=some (.int .u8 (kv k)):=by rw [hkv k hlt,if_pos hkm];exact (hb.cell (p:=⟨bb,ob+k,none⟩) hbb).trans rc
      have hne:bb≠w.heap.size:=by omega
      have hki2:(k:Int)<n:=by omega
      have hs2:=hs1.stored k (bits .xor .u8 (kv k:Int) (p:Int)) (kv k ^^^ p) (u8_xor_nat _ _ (hkvl k) hp)
      clear rc hsrc hown hrow hs1 hkv
      go_wp2
      go_roundw
      case rel =>
       exact ⟨k+1,by omega,by go_num,hs2.congr (fun j _=>by rw [←padG2_step];unfold upd;split <;> rfl),(hb.setCell (Nat.le_refl _) _).setCell (Nat.le_refl _) _⟩
      case measure=>simp [intOf];omega
    · have hki2:¬((k:Int)<n):=by omega
      have e0:kv k ^^^ p=p:=by rw [hkv k hlt,if_neg hkm];simp
      clear hsrc hown hrow hkv
      go_wp2
      go_roundw
      case rel =>
       exact ⟨k+1,by omega,by go_num,hs1.congr (fun j _=>by rw [←padG2_step,e0]),hb.setCell (Nat.le_refl _) _⟩
      case measure=>simp [intOf];omega
  · have hke:k=64:=by omega
    rw [hke] at hown
    go_wp2
    go_ret
    exact ⟨_,rfl,hown.congr (fun j hj=>by unfold padG2;rw [if_pos hj,hkk.out j]),hW.trans (hb.mono hW.size)⟩
set_option maxRecDepth 20000 in
set_option maxHeartbeats 2000000 in
theorem rpad_long_any (xo:Option Addr) (n cx p:Nat) (bs:Nat→Nat) (hbs:∀ j,bs j<256) (hp:p<256) (hnb:n<140737488355000) (w:World) (hv:BytesIn w (.slice xo n cx) n bs) (hn:¬n≤64) :
 Calls Tryd.prog 44 #[.slice xo n cx,.int .u8 p] w fun e w'=>∃ v',e = .returned v'∧Own w.heap.size w' v' 64 (fun j=>keyB n bs j ^^^ p)∧Below w.heap.size w w':=by
 obtain ⟨kv,hkv0⟩:∃ kv,kv=keyB n bs:=⟨_,rfl⟩
 have hkk:Hid (∀ j,kv j=keyB n bs j):=(fun j=>by rw [hkv0]:∀ j,kv j=keyB n bs j)
 have hkvl:∀ j,kv j<256:=fun j=>by rw [hkv0];exact keyB_lt hbs j
 have hs:=rSum256_any (.slice xo n cx) n bs hbs w hv hnb
 have hkv:∀ j,j<64→kv j=if j<32 then outB 32 (specS rn cubeK squareK n bs) j else 0:=fun j _=>by rw [hkv0];unfold keyB;rw [if_neg hn]
 obtain ⟨X,hX⟩:∃ X,X=outB 32 (specS rn cubeK squareK n bs):=⟨_,rfl⟩
 rw [←hX] at hs hkv
 have hni:64<(n:Int):=by omega
 clear hkv0 hv hX hn
 have hmk:=fun W=>make_bytes W 64 64 rfl (by decide)
 go_enter Tryd.func44,Tryd.ntmps44
 go_wp2_with (go_at_call 24;refine hs.mono ?_;clear hs;rintro e w1 ⟨vs,rfl,owns,hW⟩;(obtain ⟨gs,cs,hvs,hgs,hgsl,hcs,hrs⟩:∃ g cap,vs = .slice (some ⟨g,0,none⟩) 32 cap∧w.heap.size≤g∧g<w1.heap.size∧32≤cap∧RowAt .u8 w1 g 0 32 X:=owns.form.resolve_left (fun h=>by omega));subst hvs;clear owns)
 have hsrc:∀ k,k<32→∃ bb ob,some (⟨gs,0,none⟩:Addr)=some ⟨bb,ob,none⟩∧bb<w1.heap.size∧w1.cell? ⟨bb,ob+k,none⟩=some (.int .u8 (X k)):=fun k hk=>⟨gs,0,rfl,hgsl,(hrs k hk).1⟩
 go_loopw [7] (fun i wr=>∃ k:Nat,k≤64∧i = .int .i64 k∧Own w.heap.size wr (.slice (some ⟨w1.heap.size,0,none⟩) 64 64) 64 (padG2 kv p k)∧Below w1.heap.size w1 wr) (fun i _=>64 - (intOf i).toNat)
 case atStart=>exact ⟨0,Nat.zero_le _,rfl,(Own.made _ _ 64 (by decide) hW.size).congr (fun j _=>by simp [padG2]),(Below.refl _ _).alloc (Nat.le_refl _) _⟩
 case round =>
  obtain ⟨k,hk,rfl,hown,hb⟩:=hrel
  by_cases hlt:k<64
  · have hrow:RowAt .u8 wr w1.heap.size 0 64 (padG2 kv p k):=by
     rcases hown.form with ⟨h,_⟩ | ⟨g,cap,h,_,_,_,hr⟩
     · cases h
     · cases h;exact hr
    obtain ⟨rk,rf⟩:=hrow k hlt
    rw [Nat.zero_add] at rk rf
    have ek:padG2 kv p k k=0:=by simp [padG2]
    rw [ek] at rk
    have hki:(0:Int)≤(k:Int)∧(k:Int)<64:=by omega
    have hs1:=hown.stored k (p:Int) p rfl
    by_cases hkm:k<32
    · obtain ⟨bb,ob,hx,hbb,rc⟩:=hsrc k hkm
      have hx1:bb=gs:=by injection hx with hx;injection hx with h1 h2;exact h1.symm
      have hx2:ob=0:=by injection hx with hx;injection hx with h1 h2;exact h2.symm
      subst hx1;subst hx2
      rw [Nat.zero_add] at rc
      clear hx
      have rc':wr.cell? ⟨bb,k,none⟩=some (.int .u8 (kv k)):=by rw [hkv k hlt,if_pos hkm];exact (hb.cell (p:=⟨bb,k,none⟩) hbb).trans rc
      have hne:bb≠w1.heap.size:=by omega
      have hki2:(k:Int)<32:=by omega
      have hs2:=hs1.stored k (bits .xor .u8 (kv k:Int) (p:Int)) (kv k ^^^ p) (u8_xor_nat _ _ (hkvl k) hp)
      clear rc hsrc hown hrow hs1 hkv
      go_wp2
      go_roundw
      case rel =>
       exact ⟨k+1,by omega,by go_num,hs2.congr (fun j _=>by rw [←padG2_step];unfold upd;split <;> rfl),(hb.setCell (Nat.le_refl _) _).setCell (Nat.le_refl _) _⟩
      case measure=>simp [intOf];omega
    · have hki2:¬((k:Int)<32):=by omega
      have e0:kv k ^^^ p=p:=by rw [hkv k hlt,if_neg hkm];simp
      clear hsrc hown hrow hkv
      go_wp2
      go_roundw
      case rel =>
       exact ⟨k+1,by omega,by go_num,hs1.congr (fun j _=>by rw [←padG2_step,e0]),hb.setCell (Nat.le_refl _) _⟩
      case measure=>simp [intOf];omega
  · have hke:k=64:=by omega
    rw [hke] at hown
    go_wp2
    go_ret
    exact ⟨_,rfl,hown.congr (fun j hj=>by unfold padG2;rw [if_pos hj,hkk.out j]),hW.trans (hb.mono hW.size)⟩
theorem rpad_any (v:Value) (n p:Nat) (bs:Nat→Nat) (hbs:∀ j,bs j<256) (hp:p<256) (hnb:n<140737488355000) (w:World) (hv:BytesIn w v n bs) :
 Calls Tryd.prog 44 #[v,.int .u8 p] w fun e w'=>∃ v',e = .returned v'∧Own w.heap.size w' v' 64 (fun j=>keyB n bs j ^^^ p)∧Below w.heap.size w w':=by
 obtain ⟨xo,cx,rfl,_,_,_⟩:=hv.src
 by_cases hn:n≤64
 · exact rpad_short_any xo n cx p bs hbs hp w hv hn
 · exact rpad_long_any xo n cx p bs hbs hp hnb w hv hn
theorem Own.bytesIn {base:Nat} {w:World} {v:Value} {n:Nat} {X:Nat→Nat} (h:Own base w v n X):BytesIn w v n X:=by
 rcases h.form with ⟨rfl,h0⟩ | ⟨g,cap,rfl,_,hg,hc,hr⟩
 · exact .inl ⟨none,rfl,h0⟩
 · exact .inr ⟨g,0,cap,rfl,hg,hc,fun j hj=>(hr j hj).1⟩
theorem Own.lower {base base':Nat} {w:World} {v:Value} {n:Nat} {X:Nat→Nat} (h:Own base w v n X) (hb:base'≤base):Own base' w v n X:=World.ownsRow.mono h hb
theorem cat_xor_lt {kv t:Nat→Nat} {p:Nat} (hk:∀ j,kv j<256) (hp:p<256) (ht:∀ j,t j<256):∀ j,cat 64 (fun j=>kv j ^^^ p) t j<256:=cat_lt (fun j=>Nat.xor_lt_two_pow (n:=8) (hk j) hp) ht
set_option maxRecDepth 20000 in
set_option maxHeartbeats 2000000 in
theorem rHmac_any (v tv:Value) (n m:Nat) (bs t:Nat→Nat) (hbs:∀ j,bs j<256) (ht:∀ j,t j<256) (hnb:n<140737488355000) (hm:m+64<140737488355000) (w:World) (hv:BytesIn w v n bs) (htv:BytesIn w tv m t) :
 Calls Tryd.prog 32 #[v,tv] w fun e w'=>∃ v',e = .returned v'∧Own w.heap.size w' v' 32 (tagH (keyB n bs) m t)∧Below w.heap.size w w':=by
 obtain ⟨xt,ct,rfl,hxn,-,hsrc⟩:=htv.src
 have hp1:=rpad_any v n 54 bs hbs (by decide) hnb w hv
 have hp2:=fun W (h:Below w.heap.size w W)=>rpad_any v n 92 bs hbs (by decide) hnb W (hv.keep h)
 obtain ⟨kv,hkv⟩:∃ kv,kv=keyB n bs:=⟨_,rfl⟩
 have hkl:∀ j,kv j<256:=fun j=>by rw [hkv];exact keyB_lt hbs j
 rw [←hkv] at hp1 hp2 ⊢
 have hs1:=fun W v' (h:BytesIn W v' (64+m) (cat 64 (fun j=>kv j ^^^ 54) t))=>rSum256_any v' (64+m) _ (cat_xor_lt hkl (by decide) ht) W h (by omega)
 have hs2:=fun W v' (h:BytesIn W v' (64+32) (cat 64 (fun j=>kv j ^^^ 92) (padH kv 54 m t)))=>rSum256_any v' (64+32) _ (cat_xor_lt hkl (by decide) (padH_lt _ _ _ _)) W h (by decide)
 have hs1':∀ W v',BytesIn W v' (64+m) (cat 64 (fun j=>kv j ^^^ 54) t)→Calls Tryd.prog 24 #[v'] W fun e w'=>∃ v',e = .returned v'∧Own W.heap.size w' v' 32 (padH kv 54 m t)∧Below W.heap.size W w':=hs1
 have hs2':∀ W v',BytesIn W v' (64+32) (cat 64 (fun j=>kv j ^^^ 92) (padH kv 54 m t))→Calls Tryd.prog 24 #[v'] W fun e w'=>∃ v',e = .returned v'∧Own W.heap.size w' v' 32 (tagH kv m t)∧Below W.heap.size W w':=hs2
 obtain ⟨P,hP⟩:∃ P,P=padH kv 54 m t:=⟨_,rfl⟩
 obtain ⟨T,hT⟩:∃ T,T=tagH kv m t:=⟨_,rfl⟩
 rw [←hP] at hs1' hs2'
 rw [←hT] at hs2' ⊢
 clear hs1 hs2 hkv hv htv hP hT
 go_enter Tryd.func32,Tryd.ntmps32
 go_wp2_with (first
  | (go_at_call 44;refine hp1.mono ?_;clear hp1;rintro e w1 ⟨v1,rfl,own1,hb1⟩)
  | (at_builtin;refine wpList_append_bytes rfl (.tmp 7) (.tmp 8) rfl w.heap.size _ 64 _ rfl own1 xt m ct t rfl (hsrc _ hb1) hxn (by omega) hb1.size ?_;intro v2 w2 own2 hg2;have hb2:=Own.grown hb1 hg2 own1 (Nat.le_refl _) hb1.size;have hs:=hs1' w2 v2 own2.bytesIn;clear own1)
  | (go_at_call 24;refine hs.mono ?_;clear hs hs1' hsrc;rintro e w3 ⟨v3,rfl,own3,hb3⟩;have hb3':=hb2.trans (hb3.mono hb2.size);replace hp2:=hp2 w3 hb3';(obtain ⟨gs,cs,hvs,hgs,hgsl,hcs,hrs⟩:∃ g cap,v3 = .slice (some ⟨g,0,none⟩) 32 cap∧w2.heap.size≤g∧g<w3.heap.size∧32≤cap∧RowAt .u8 w3 g 0 32 P:=own3.form.resolve_left (fun h=>by omega));subst hvs;clear own3)
  | (go_at_call 44;refine hp2.mono ?_;clear hp2;rintro e w4 ⟨v4,rfl,own4,hb4⟩;have hb4':=hb3'.trans (hb4.mono hb3'.size))
  | (at_builtin;refine wpList_append_bytes rfl (.tmp 12) (.tmp 13) rfl w3.heap.size _ 64 _ rfl own4 (some ⟨gs,0,none⟩) 32 cs P rfl (.inr ⟨gs,0,rfl,fun j hj=>((hrs.below hb4 hgsl) j hj).1⟩) (fun h=>by cases h) (by omega) hb4.size ?_;intro v5 w5 own5 hg5;have hb5:=Own.grown hb4' hg5 own4 hb3'.size hb4'.size;have hs:=hs2' w5 v5 own5.bytesIn;clear own4)
  | (go_at_call 24;refine hs.mono ?_;clear hs hs2';rintro e w6 ⟨v6,rfl,own6,hb6⟩))
 go_ret
 exact ⟨v6,rfl,own6.lower hb5.size,hb5.trans (hb6.mono hb5.size)⟩
end Go.Proofs.YtibdhadbflfdpaaDoor
namespace Go.Proofs.YtibdhadbflfdpaaDoor
open Go.RowKit
theorem sliceToNil (W:World):(Instr.sliceAt 22 (.slice none 0 0) none (some (.int .i64 0)) none).run Tryd.prog W = .ok (.slice none 0 0) W:=by kernel_rfl
def allE (kv:Nat→Nat) (m:Nat) (info:Nat→Nat):Nat→Nat:=fun q=>tE kv m info (q / 32+1) (q%32)
set_option maxRecDepth 20000 in
set_option maxHeartbeats 2000000 in
theorem rExpand_any (v1 v2:Value) (n1 n2:Nat) (ks info:Nat→Nat) (hks:∀ j,ks j<256) (hinfo:∀ j,info j<256) (hn1:n1<140737488355000) (hn2:n2+97<140737488355000) (w:World) (hk:BytesIn w v1 n1 ks) (hi:BytesIn w v2 n2 info) (N:Nat) (hN:N≤8160) :
 Calls Tryd.prog 21 #[v1,v2,.int .i64 N] w fun e w'=>∃ v',e = .returned (.tuple #[v',.int .i64 0])∧BytesIn w' v' N (outF (keyB n1 ks) n2 info N)∧Below w.heap.size w w':=by
 obtain ⟨xi,ci,rfl,hxi,-,hsi⟩:=hi.src
 have hh:=fun W tv m t (ht:∀ j,t j<256) (hm:m+64<140737488355000) (h:Below w.heap.size w W) (htv:BytesIn W tv m t)=>rHmac_any v1 tv n1 m ks t hks ht hn1 hm W (hk.keep h) htv
 obtain ⟨kv,hkv⟩:∃ kv,kv=keyB n1 ks:=⟨_,rfl⟩
 rw [←hkv] at hh ⊢
 have hlo:¬((N:Int)<0):=by omega
 have hhi:¬(8160<(N:Int)):=by omega
 clear hk hi hkv
 go_enter Tryd.func21,Tryd.ntmps21
 go_wp2
 go_loopw [8,9,10] (fun o t i wr=>∃ k tl A:Nat,Hid (A=32*k)∧Hid (tl=if k=0 then 0 else 32)∧A<N+32∧i = .int .i64 ((k:Int)+1)∧(∃ xo co,o = .slice xo A co∧Own w.heap.size wr (.slice xo A co) A (allE kv n2 info))∧(∃ xt ct,t = .slice xt tl ct∧BytesIn wr (.slice xt tl ct) tl (tE kv n2 info k))∧Below w.heap.size w wr) (fun o _ _ _=>N+32 - lenV o)
 case atStart=>exact ⟨0,0,0,(rfl:0=32*0),(rfl:0=if 0=0 then 0 else 32),by omega,by go_num,⟨none,0,rfl,Own.nil _ _ _⟩,⟨none,0,rfl,.inl ⟨none,rfl,rfl⟩⟩,Below.refl _ _⟩
 case round =>
  obtain ⟨k,tl,A,HA,Htl,hA,rfl,⟨xo,co,rfl,own⟩,⟨xt,ct,rfl,hbt⟩,hb⟩:=hrel
  have htl:tl≤32:=by rw [Htl.out];split <;> omega
  by_cases hlt:A<N
  · have hk255:k+1<256:=by have:=HA.out;omega
    obtain ⟨F,hF⟩:∃ F,F=cat tl (tE kv n2 info k) (cat n2 info (fun _=>k+1)):=⟨_,rfl⟩
    have hFl:∀ j,F j<256:=by rw [hF];exact cat_lt (tE_lt _ _ _ _) (cat_lt hinfo (fun _=>hk255))
    have hFc:∀ j,j<tl+n2→cat tl (tE kv n2 info k) info j=F j:=fun j hj=>by
     rw [hF];unfold cat
     by_cases e:j<tl
     · rw [if_pos e,if_pos e]
     · rw [if_neg e,if_neg e,if_pos (by omega)]
    have HY:Hid (F (tl+n2)=k+1):=(by rw [hF,cat_right];unfold cat;simp:F (tl+n2)=k+1)
    have hT:tagH kv (tl+n2+1) F=tE kv n2 info (k+1):=by rw [hF,Htl.out];rfl
    have hh':∀ W v',Below w.heap.size w W→BytesIn W v' (tl+n2+1) F→Calls Tryd.prog 32 #[v1,v'] W fun e w'=>∃ v',e = .returned v'∧Own W.heap.size w' v' 32 (tE kv n2 info (k+1))∧Below W.heap.size W w':=fun W v' hW hv'=>by
     have:=hh W v' _ F hFl (by omega) hW hv'
     rw [hT] at this
     exact this
    obtain ⟨xt',ct',hte,hxt,-,hst⟩:=hbt.src
    cases hte
    have hst':=hst _ ((Below.refl wr.heap.size wr).alloc (Nat.le_refl _) (.cells #[] 5))
    have hAi:(A:Int)<N:=by omega
    obtain ⟨Tk,hTk⟩:∃ Tk,Tk=tE kv n2 info k:=⟨_,rfl⟩
    rw [←hTk] at hst' hFc
    have hwb:((k:Int)+1)%256=(k:Int)+1:=by omega
    clear hF hT hh hbt hst hTk
    go_wp2_with (first
     | (at_builtin;refine wpList_append_empty rfl (.tmp 24) (.tmp 25) rfl wr.heap.size Tk wr.heap.size rfl rfl xt tl ct rfl hst' hxt (by omega) (Nat.le_refl _) ?_;intro v3 w3 own3 hb3)
     | (at_builtin;refine wpList_append_bytes rfl (.tmp 26) (.tmp 27) rfl wr.heap.size _ tl _ rfl own3 xi n2 ci info rfl (hsi _ (hb.trans (hb3.mono hb.size))) hxi (by omega) hb3.size ?_;intro v4 w4 own4 hg4;have hb4:=Own.grown hb3 hg4 own3 (Nat.le_refl _) hb3.size;have own4':=own4.congr hFc;clear own3 own4)
     | (at_builtin;refine wpList_append_next rfl (.tmp 28) (.tmp 31) rfl wr.heap.size _ (tl+n2) F _ rfl own4' rfl (by rw [HY.out];simp;try omega) (by omega) hb4.size ?_;intro v5 w5 own5 hb5;have hb5':=hb4.trans hb5;have hw5:=hb.trans (hb5'.mono hb.size);have hh5:=hh' w5 v5 hw5 own5.bytesIn)
     | (go_at_call 32;refine hh5.mono ?_;clear hh5 hh';rintro e w6 ⟨v6,rfl,own6,hb6⟩;(obtain ⟨g6,c6,hv6,hg6,hgl6,hc6,hr6⟩:∃ g cap,v6 = .slice (some ⟨g,0,none⟩) 32 cap∧w5.heap.size≤g∧g<w6.heap.size∧32≤cap∧RowAt .u8 w6 g 0 32 (tE kv n2 info (k+1)):=own6.form.resolve_left (fun h=>by omega));subst hv6;have hb6':=hb5'.trans (hb6.mono hb5'.size);have own':=own.below hb6';have hw6:=hb.trans (hb6'.mono hb.size))
     | (at_builtin;refine wpList_append_bytes rfl (.tmp 34) (.tmp 35) rfl w.heap.size _ A _ rfl own' (some ⟨g6,0,none⟩) 32 c6 (tE kv n2 info (k+1)) rfl (.inr ⟨g6,0,rfl,fun j hj=>(hr6 j hj).1⟩) (fun h=>by cases h) (by omega) hw6.size ?_;intro v7 w7 own7 hg7;have hb7:=Own.grown hw6 hg7 own' (Nat.le_refl _) hw6.size))
    have hne:some g6≠(Value.slice xo A co).ownBlock:=fun h=>by
     have h1:=(World.ownsRow.lt own g6 h.symm).2
     have h2:=hb5'.size
     omega
    have hbt7:BytesIn w7 (.slice (some ⟨g6,0,none⟩) 32 c6) 32 (tE kv n2 info (k+1)) := .inr ⟨g6,0,c6,rfl,Nat.lt_of_lt_of_le hgl6 hg7.size,hc6,fun j hj=>hg7.cell (hr6 j hj).1 hne⟩
    have own8:Own w.heap.size w7 v7 (A+32) (allE kv n2 info):=own7.congr (fun q hq=>by
     unfold cat
     by_cases e:q<A
     · rw [if_pos e]
     · rw [if_neg e]
       unfold allE
       have:=HA.out
       rw [show q / 32=k by omega,show q%32=q - A by omega])
    obtain ⟨x7,c7,hv7⟩:∃ x c,v7 = .slice x (A+32) c:=by
     rcases own8.form with ⟨_,h0⟩ | ⟨g,c,h,_⟩
     · omega
     · exact ⟨_,c,h⟩
    subst hv7
    clear own own' own7 own5 own4' hr6 own6
    go_wp2
    go_roundw
    case rel =>
     exact ⟨k+1,32,A+32,(by have:=HA.out;omega:A+32=32*(k+1)),(by rw [if_neg (Nat.succ_ne_zero k)]:32=if k+1=0 then 0 else 32),by omega,by go_num,⟨x7,c7,rfl,own8⟩,⟨_,c6,rfl,hbt7⟩,hb7⟩
    case measure=>show N+32 - (A+32)<N+32 - A;omega
  · have hNA:N≤A:=by omega
    have hAi:¬((A:Int)<N):=by omega
    have hcg:∀ j,j<N→allE kv n2 info j=outF kv n2 info N j:=fun j hj=>by unfold allE outF;rw [if_pos hj]
    rcases own.form with ⟨hv,h0⟩ | ⟨g,c,hv,_,hgl,hcap,hr⟩
    · cases hv
      have hN0:N=0:=by omega
      subst hN0
      have hsl:=fun W=>sliceToNil W
      clear own hh hbt hcg hsi
      go_wp2
      go_ret2
      exact ⟨_,rfl,.inl ⟨none,rfl,rfl⟩,hb⟩
    · injection hv with hx1 _ hx2
      subst hx1;subst hx2
      have hsl:=fun W=>sliceTo W g A co N (by omega)
      have hNc:(N:Int)≤co:=by omega
      have hbf:BytesIn wr (.slice (some ⟨g,0,none⟩) N co) N (outF kv n2 info N) := .inr ⟨g,0,co,rfl,hgl,by omega,fun j hj=>by rw [(hr j (by omega)).1,hcg j hj]⟩
      clear own hh hbt hr hcg hsi
      go_wp2
      go_ret2
      exact ⟨_,rfl,hbf,hb⟩
end Go.Proofs.YtibdhadbflfdpaaDoor
namespace Go.Proofs.YtibdhadbflfdpaaDoor
open Go.RowKit
def strL (l:List Nat):ByteArray:=⟨(l.map UInt8.ofNat).toArray⟩
theorem litB_lt {l:List Nat} (h:∀ x,x∈l→x<256) (j:Nat):litB l j<256:=by
 unfold litB
 by_cases hj:j<l.length
 · rw [List.getD_eq_getElem?_getD,List.getElem?_eq_getElem hj];exact h _ (List.getElem_mem hj)
 · rw [List.getD_eq_getElem?_getD,List.getElem?_eq_none (by omega)];decide
theorem conv_label (w:World) (l:List Nat) (h:∀ x,x∈l→x<256):∃ c W,(convert 9 22 (.string (strL l))).run Tryd.prog w = .ok (.slice (some ⟨w.heap.size,0,none⟩) l.length c) W∧BytesIn W (.slice (some ⟨w.heap.size,0,none⟩) l.length c) l.length (litB l)∧Below w.heap.size w W:=by
 have hs:(strL l).size=l.length:=by simp [strL,ByteArray.size]
 have hr:=Lib.run_convert_string_bytes (P:=Tryd.prog) w 9 22 5 (strL l) Tryd.underlying9 Tryd.underlying22 Tryd.underlying5
 rw [hs] at hr
 refine ⟨_,_,hr,.inr ⟨w.heap.size,0,_,rfl,by rw [Lib.bytesWorld_size];exact Nat.lt_succ_self _,grownCap_ge _ _ _ _,fun j hj => ?_⟩,⟨by simp [Lib.bytesWorld,World.freeze,World.alloc,World.drew,-World.alloc_eq,-World.drew_eq],by simp [Lib.bytesWorld,World.freeze,World.alloc,World.drew,-World.alloc_eq,-World.drew_eq],by simp [Lib.bytesWorld,World.freeze,World.alloc,World.drew,-World.alloc_eq,-World.drew_eq],by rw [Lib.bytesWorld_size];exact Nat.le_succ _,fun k hk=>Lib.bytesWorld_at_old _ _ _ k hk⟩⟩
 have hx:=h _ (List.getElem_mem hj)
 have e:((strL l).data.toList.getD j 0).toNat=litB l j:=by simp [strL,litB,hj,Nat.mod_eq_of_lt hx]
 rw [Nat.zero_add,Lib.bytesWorld_cell w _ _ j (by rw [hs];exact hj),e]
end Go.Proofs.YtibdhadbflfdpaaDoor
