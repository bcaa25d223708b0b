/- What the proof stands on: LProd, Api, LNews, LClamp, LMul, Prime, PrimeUse, LCert. -/
import Derived.Test.YtcgkajlehdgpoaaGreatDoorLRungM
import Derived.Test.YtcgkajlehdgpoaaGreatDoorLentM
import Derived.Test.YtcgkajlehdgpoaaGreatDoorLimbsM
import Derived.Test.YtcgkajlehdgpoaaGreatDoorZAb2M
namespace Go.Proofs.YtcgkajlehdgpoaaGreatDoor
open Go.RowKit Go.Shelf
attribute [local go_sem] Oper.semAt_some
structure PInv (w:World) (l D g cb pb rb bb ob cap:Nat) (rec:Loop) (ks:Nat→Nat) (u j:Nat) (W:World):Prop where
 lp:W.heap[l]? = some (.loop rec)
 dfr:W.heap[D]? = some (.deferred (some []))
 cc:W.cell? ⟨cb,0,none⟩=some (.pointer (some ⟨g,0,none⟩))
 pc:W.cell? ⟨pb,0,none⟩=some (.slice (some ⟨bb,ob,none⟩) 32 cap)
 bs:∀ q,q<32→W.cell? ⟨bb,ob+q,none⟩=some (.int .u8 (ks q))
 low:RW W g 0 (c8 (climbL u ks j).xl (climbL u ks j).zl)
 high:RW W g 8 (c8 (climbL u ks j).xh (climbL u ks j).zh)
 un:RW W g 16 (c4 u)
 res:RW W rb 0 (c4 0)
 bel:Below w.heap.size w W
set_option maxRecDepth 100000 in
set_option maxHeartbeats 4000000 in
theorem product_in (n:Nat) (bb ob cap:Nat) (ks:Nat→Nat) (hks:∀ q,ks q<256) (u:Nat) (hu:u<pF) (w:World) (hc:∀ j,j<32→w.cell? ⟨bb,ob+j,none⟩=some (.int .u8 (ks j))) :
 CallsIn Fence.wide n Tryz.prog 76 #[.slice (some ⟨bb,ob,none⟩) 32 cap,numV u] w fun e w'=>e = .returned (numV (mulL ks u))∧Below w.heap.size w w':=by
 obtain ⟨N,hN⟩:∃ N,N=mulL ks u:=⟨_,rfl⟩
 rw [←hN]
 have HN:=Hid.mk' hN
 clear hN
 have hB:∀ W,Calls Tryz.prog 101 #[.agg #[.int .u64 (lw u 0),.int .u64 (lw u 1),.int .u64 (lw u 2),.int .u64 (lw u 3)]] W fun e w'=>∃ g,e = .returned (.pointer (some ⟨g,0,none⟩))∧W.heap.size≤g∧Below W.heap.size W w'∧RW w' g 0 (c8 1 0)∧RW w' g 8 (c8 u 1)∧RW w' g 16 (c4 u):=fun W=>begin_any u W
 have hD:=fun W=>bitsDown_any (some ⟨bb,ob,none⟩) 32 cap W
 rw [show numV u = .agg #[.int .u64 (lw u 0),.int .u64 (lw u 1),.int .u64 (lw u 2),.int .u64 (lw u 3)] from rfl]
 refine callsIn_of_wp_marks Tryz.func76 rfl trivial ?_ rfl
 simp only [Tryz.ntmps76,List.size_toArray,List.length_cons,List.length_nil,Nat.reduceAdd,Nat.reduceSub,Array.replicate_succ,Array.replicate_zero,List.push_toArray,List.append_toArray,List.nil_append,List.cons_append]
 gi_wp2_with (first
  | (refine ⟨trivial,(fun h=>by cases h),?_⟩;gi_at_call 101;refine (callsIn_wide.2 (hB _)).mono ?_;clear hB;rintro e w1 ⟨g,rfl,hg,hb1,r0,r8,r16⟩)
  | (refine ⟨trivial,(fun h=>by cases h),?_⟩;gi_at_call 102;refine (callsIn_wide.2 (hD _)).mono ?_;clear hD;rintro e w2 ⟨rfl,hw2⟩))
 obtain ⟨Z,hZ⟩:∃ Z,Z=(w.alloc (.cells #[.int .u64 (lw u 0),.int .u64 (lw u 1),.int .u64 (lw u 2),.int .u64 (lw u 3)] 88)).alloc (.cells #[.int .u64 0,.int .u64 0,.int .u64 0,.int .u64 0] 88):=⟨_,rfl⟩
 have hZs:Z.heap.size=w.heap.size+2:=by rw [hZ];simp
 have hZb:Below w.heap.size w Z:=by rw [hZ];exact ((Below.refl _ _).alloc (Nat.le_refl _) _).alloc (by simp) _
 have hZr:RW Z (w.heap.size+1) 0 (c4 0):=by
  have h:=fresh4' (w.alloc (.cells #[.int .u64 (lw u 0),.int .u64 (lw u 1),.int .u64 (lw u 2),.int .u64 (lw u 3)] 88))
  rw [World.size_alloc] at h
  rw [hZ];exact h
 rw [←hZ] at hg hb1
 rw [←hw2]
 have hw12:Below w1.heap.size w1 w2:=by rw [hw2];exact ((Below.refl _ _).alloc (Nat.le_refl _) _).alloc (by simp) _
 have hcc:w2.cell? ⟨w1.heap.size,0,none⟩=some (.pointer (some ⟨g,0,none⟩)):=by rw [hw2];simp
 have hpc:w2.cell? ⟨w1.heap.size+1,0,none⟩=some (.slice (some ⟨bb,ob,none⟩) 32 cap):=by rw [hw2];simp
 have hs2:w2.heap.size=w1.heap.size+2:=by rw [hw2];simp
 have hs1:=hb1.size
 have hbl:bb<w.heap.size:=block_lt_of_cell (hc 0 (by decide))
 have hb2:Below w.heap.size w w2:=(hZb.trans (hb1.mono (by omega))).trans (hw12.mono (by omega))
 have hr2:RW w2 (w.heap.size+1) 0 (c4 0):=(hZr.still hb1).still hw12
 have hcg:g<w1.heap.size:=r0.lt
 replace r0:=r0.still hw12
 replace r8:=r8.still hw12
 replace r16:=r16.still hw12
 clear hw2 hZ hZb hZr
 refine wpIn_range_with rfl (fun _=>trivial) (fun h=>by cases h) rfl (enters_of Tryz.func123 (by kernel_rfl) rfl) (fun q0 e1 e2 e4 e5 e6 e7 => ?_)
 obtain ⟨W1,hW1⟩:∃ W1,W1=(w2.alloc (.deferred (some []))).alloc (.loop q0):=⟨_,rfl⟩
 obtain ⟨l,hl⟩:∃ l,l=w2.heap.size+1:=⟨_,rfl⟩
 have hbl1:Below w2.heap.size w2 W1:=by rw [hW1];exact ((Below.refl _ _).alloc (Nat.le_refl _) _).alloc (by simp) _
 have hl1:W1.heap[l]? = some (.loop q0):=by
  rw [hW1,hl];have:=World.alloc_heap_new (w2.alloc (.deferred (some []))) (.loop q0);rwa [World.size_alloc] at this
 have hD1:W1.heap[w2.heap.size]? = some (.deferred (some [])):=by
  rw [hW1];exact (Below.heap_alloc _ _ _ (by simp)).trans (World.alloc_heap_new w2 _)
 rw [←hW1,←hl]
 obtain ⟨D,hD⟩:∃ D,D=w2.heap.size:=⟨_,rfl⟩
 have hDl:D<l:=by omega
 rw [←hD] at hD1 ⊢
 have hgc:g<w1.heap.size:=by omega
 have hDc:D=w1.heap.size+2:=by omega
 have hgw:w.heap.size+1<g:=by omega
 clear hW1 hl
 have hI0:PInv w l D g w1.heap.size (w1.heap.size+1) (w.heap.size+1) bb ob cap q0 ks u 0 W1:=⟨hl1,hD1,(hbl1.cell (block_lt_of_cell hcc)).trans hcc,(hbl1.cell (block_lt_of_cell hpc)).trans hpc,fun q hq=>((hb2.trans (hbl1.mono hb2.size)).cell (p:=⟨bb,ob+q,none⟩) hbl).trans (hc q hq),r0.still hbl1,r8.still hbl1,r16.still hbl1,hr2.still hbl1,hb2.trans (hbl1.mono hb2.size)⟩
 have hY:∀ j V,j<255→PInv w l D g w1.heap.size (w1.heap.size+1) (w.heap.size+1) bb ob cap q0 ks u j V→YieldAt Fence.wide (n - 1 - 1) Tryz.prog l #[.bool (bitN ks (254 - j))] V fun e W'=>e = .returned (.bool true)∧PInv w l D g w1.heap.size (w1.heap.size+1) (w.heap.size+1) bb ob cap q0 ks u (j+1) W':=by
  intro j V hj hI
  refine yield_round hI.lp (by rw [e5];rfl) ?_
  rw [e4,e5,e6,e7]
  obtain ⟨V2,hV2⟩:∃ V2,V2=V.putObj l (.loop { q0 with state := .busy }):=⟨_,rfl⟩
  have hbV:But (fun k=>k=l) V V2:=by rw [hV2];exact but_put _ _ _
  have hlV:V2.heap[l]? = some (.loop { q0 with state := .busy }):=by rw [hV2];exact World.putObj_heap_same (Array.getElem?_eq_some_iff.1 hI.lp).1
  have hDV:V2.heap[D]? = some (.deferred (some [])):=(hbV.block _ (Array.getElem?_eq_some_iff.1 hI.dfr).1 (by omega)).trans hI.dfr
  have hcV:=hbV.cell hI.cc (by omega)
  have hpV:=hbV.cell hI.pc (by omega)
  have hsV:=BytesIn.but hI.bs hbV (by omega)
  have hbeg:(Instr.beginRound l).run Tryz.prog V = .ok () V2:=by rw [hV2];exact run_beginRound hI.lp e1
  have hR:=rung_any u g hu (bitN ks (254 - j)) (climbL u ks j) (climbL_ok u hu ks j) V2 (hI.low.but hbV (by omega)) (hI.high.but hbV (by omega)) (hI.un.but hbV (by omega))
  have hrV:=hI.res.but hbV (by omega)
  have hBV:Below w.heap.size w V2:=hI.bel.trans (hbV.below hI.bel.size (by omega))
  have hfin:∀ V3:World,Out g 0 16 V2 V3→RW V3 g 0 (c8 (climbL u ks (j+1)).xl (climbL u ks (j+1)).zl)→RW V3 g 8 (c8 (climbL u ks (j+1)).xh (climbL u ks (j+1)).zh)→RW V3 g 16 (c4 u)→∃ v W',(Instr.endRound l none).run Tryz.prog V3 = .ok v W'∧(Ending.returned v = .returned (.bool true)∧PInv w l D g w1.heap.size (w1.heap.size+1) (w.heap.size+1) bb ob cap q0 ks u (j+1) W'):=by
   intro V3 hO x0 x8 x16
   have hb3:=hO.but
   have hl3:V3.heap[l]? = some (.loop { q0 with state := .busy }):=(hb3.block l (Array.getElem?_eq_some_iff.1 hlV).1 (by omega)).trans hlV
   have hrec:({ { q0 with state := .busy } with state := .ready,pending:=none }:Loop)=q0:=loop_back q0 e1 e2
   have hb5:=but_put V3 l (.loop q0)
   refine ⟨_,_,run_endRound none hl3,rfl,?_⟩
   simp only [Option.isNone_none,if_true,hrec]
   have hD3:=(hb3.block D (Array.getElem?_eq_some_iff.1 hDV).1 (by omega)).trans hDV
   exact ⟨World.putObj_heap_same (Array.getElem?_eq_some_iff.1 hl3).1,(hb5.block D (Array.getElem?_eq_some_iff.1 hD3).1 (by omega)).trans hD3,hb5.cell (hb3.cell hcV (by omega)) (by omega),hb5.cell (hb3.cell hpV (by omega)) (by omega),BytesIn.but (BytesIn.but hsV hb3 (by omega)) hb5 (by omega),x0.but hb5 (by omega),x8.but hb5 (by omega),x16.but hb5 (by omega),(hrV.but hb3 (by omega)).but hb5 (by omega),(hBV.trans (hb3.below hBV.size (by omega))).trans (hb5.below (Nat.le_trans hBV.size hb3.size) (by omega))⟩
  clear hV2 hI e1 e2 e4 e5 e6 e7 hI0 hbV hrV hBV hDV hlV hsV hpV
  gi_wp2
  try (refine ⟨V2,hbeg,?_⟩;gi_wp2_with (refine ⟨trivial,(fun h=>by cases h),?_⟩;gi_at_call 103;refine (callsIn_wide.2 hR).mono ?_;clear hR;rintro e V3 ⟨rfl,hO,x0,x8,x16⟩))
  exact hfin V3 hO x0 x8 x16
 refine (iter_in (n - 1) l (w1.heap.size+1) bb ob cap ks (PInv w l D g w1.heap.size (w1.heap.size+1) (w.heap.size+1) bb ob cap q0 ks u) (fun j W h=>h.pc) (fun j W h=>h.bs) hks hY W1 hI0).mono ?_
 rintro e W2 ⟨⟨v,rfl⟩,hF⟩
 obtain ⟨V,hV⟩:∃ V,V=W2.putObj l (.loop { q0 with state := .exhausted }):=⟨_,rfl⟩
 have hbV:But (fun k=>k=l) W2 V:=by rw [hV];exact but_put _ _ _
 have hDV:V.heap[D]? = some (.deferred (some [])):=(hbV.block _ (Array.getElem?_eq_some_iff.1 hF.dfr).1 (by omega)).trans hF.dfr
 have hcV:=hbV.cell hF.cc (by omega)
 have hBV:Below w.heap.size w V:=hF.bel.trans (hbV.below hF.bel.size (by omega))
 have hlow:=hF.low.but hbV (by omega)
 have hres:=hF.res.but hbV (by omega)
 have hok:=climbL_ok u hu ks 255
 have hval:=fun W=>value_any (climbL u ks 255).xl (climbL u ks 255).zl (finv (climbL u ks 255).zl) (mulL ks u) (fun W=>inverse_any _ hok.zl W) (fun W=>times_any _ _ hok.xl (finv_lt _) W) W
 refine ⟨none,V,?_,?_⟩
 · have h:=run_endLoop (P:=Tryz.prog) hF.lp (by rw [e1];simp)
   rw [←hV,e2] at h
   exact h
 clear hV hY hI0 e1 e2 e4 e5 e6 e7 hb1 hbl1 hl1 hD1 hF hok
 have rlow:=hlow.range
 have tres:=hres.there
 have hD':D<V.heap.size:=(Array.getElem?_eq_some_iff.1 hDV).1
 obtain ⟨xx,zz,hxx⟩:∃ xx zz,c8 (climbL u ks 255).xl (climbL u ks 255).zl=c8 xx zz∧ratV (climbL u ks 255).xl (climbL u ks 255).zl=ratV xx zz:=⟨_,_,rfl,rfl⟩
 rw [hxx.1] at rlow
 rw [hxx.2] at hval
 clear hxx hlow
 rw [←HN.out] at hval
 have hval':∀ W,Calls Tryz.prog 104 #[.agg (c8 xx zz).toArray] W fun e w'=>e = .returned (.agg (c4 N).toArray)∧Below W.heap.size W w':=hval
 clear hval HN
 gi_wp2_with (first
  | (refine wpListIn_load_mid rfl 146 _ rfl g 0 rfl (c8 xx zz) _ rlow Tryz.underlying146 rfl info8 ?_)
  | (refine ⟨trivial,(fun h=>by cases h),?_⟩;gi_at_call 104;refine (callsIn_wide.2 (hval' _)).mono ?_;clear hval' rlow;rintro e W3 ⟨rfl,hb3⟩;(have hres3:=hres.still hb3);(have t3:W3.there (w.heap.size+1) 0 (c4 N).toArray.size:=hres3.there))
  | (refine wpListIn_store_mid rfl 88 _ _ rfl (w.heap.size+1) 0 (c4 N).toArray rfl rfl t3 (info4a N) (one4 N) ?_))
 subst hDc
 dsimp only [Act.put]
 have hD3:W3.heap[w1.heap.size+2]? = some (.deferred (some [])):=(hb3.block (w1.heap.size+2) hD').trans hDV
 have hD4:(W3.setCells (w.heap.size+1) 0 (c4 N)).heap[w1.heap.size+2]? = some (.deferred (some [])):=(heap_setCells_other _ _ _ _ _ (by omega)).trans hD3
 have hr4:RW (W3.setCells (w.heap.size+1) 0 (c4 N)) (w.heap.size+1) 0 (c4 N):=hres3.stored (c4 N) rfl
 have hB4:Below w.heap.size w (W3.setCells (w.heap.size+1) 0 (c4 N)):=below_setCells (by omega) _ _ _ (hBV.trans (hb3.mono hBV.size))
 have hbV2:=but_put (W3.setCells (w.heap.size+1) 0 (c4 N)) (w1.heap.size+2) (.deferred none)
 have hr5:=hr4.but hbV2 (by omega)
 have hB5:=hB4.trans (hbV2.below hB4.size (by omega))
 refine ⟨by simp,.inl ⟨_,_,rfl,run_takeDeferred hD4,?_⟩⟩
 exact ⟨_,results_cell_mid Tryz.results76 _ _ (w.heap.size+1) 0 (c4 N) _ rfl hr5.range Tryz.underlying88 rfl info4,rfl,hB5⟩
theorem lproduct_any (bb ob cap:Nat) (ks:Nat→Nat) (hks:∀ q,ks q<256) (u:Nat) (hu:u<pF) (w:World) (hc:∀ j,j<32→w.cell? ⟨bb,ob+j,none⟩=some (.int .u8 (ks j))) :
 Calls Tryz.prog 76 #[.slice (some ⟨bb,ob,none⟩) 32 cap,numV u] w fun e w'=>e = .returned (numV (mulL ks u))∧Below w.heap.size w w' :=
 callsIn_wide.1 (product_in 9 bb ob cap ks hks u hu w hc)
end Go.Proofs.YtcgkajlehdgpoaaGreatDoor
namespace Go.Proofs.YtcgkajlehdgpoaaGreatDoor
open Go.RowKit
def NewB (w w':World) (v:Value) (n:Nat) (X:Nat→Nat):Prop:=∃ g,v = .slice (some ⟨g,0,none⟩) n n∧w.heap.size≤g∧RowAt .u8 w' g 0 n X
theorem NewB.bytes {w w':World} {v:Value} {n:Nat} {X:Nat→Nat} (h:NewB w w' v n X) (h0:0<n):BytesIn w' v n X:=by
 obtain ⟨g,rfl,-,hr⟩:=h
 exact .inr ⟨g,0,n,rfl,block_lt_of_cell (hr 0 h0).1,Nat.le_refl _,fun j hj=>(hr j hj).1⟩
end Go.Proofs.YtcgkajlehdgpoaaGreatDoor
namespace Go.Proofs.YtcgkajlehdgpoaaGreatDoor
open Go.RowKit
theorem byt_small (n j:Nat) (hn:n<256):(if j=0 then n else 0)=byt n j:=by
 unfold byt
 by_cases e:j=0
 · rw [if_pos e,e];simp;omega
 · have h:256≤256 ^ j:=by
    have:=Nat.pow_le_pow_right (n:=256) (by decide) (show 1≤j by omega)
    simpa using this
   rw [if_neg e,Nat.div_eq_of_lt (by omega)]
theorem NewB.still {w w' w2:World} {v:Value} {n:Nat} {X:Nat→Nat} (h:NewB w w' v n X) (h0:0<n) (hb:Below w'.heap.size w' w2):NewB w w2 v n X:=by
 obtain ⟨g,rfl,hg,hr⟩:=h
 exact ⟨g,rfl,hg,hr.below hb (block_lt_of_cell (hr 0 h0).1)⟩
theorem byt_all (n:Nat):∀ j,byt n j<256:=fun j=>byt_lt n j
theorem ofB_byt32 (n:Nat) (h:n<115792089237316195423570985008687907853269984665640564039457584007913129639936):ofB (byt n) 32=n:=by
 rw [ofB_byt,show (256:Nat) ^ 32=115792089237316195423570985008687907853269984665640564039457584007913129639936 from rfl,Nat.mod_eq_of_lt h]
theorem lent_bytes {W:World} {g cap n:Nat} {bs:Nat→Nat} (hr:RowAt .u8 W g 0 (n+2) (cat n bs room)) (hc:n+2≤cap):BytesIn W (.slice (some ⟨g,0,none⟩) n cap) n bs :=
 .inr ⟨g,0,cap,rfl,block_lt_of_cell (hr 0 (by omega)).1,by omega,fun j hj=>by have:=(hr j (by omega)).1;rwa [cat_left hj] at this⟩
theorem ans_str {W:World} {v:Value} {n:Nat} {X:Nat→Nat} (h:BytesIn W v n X) (hX:∀ j,X j<256):∃ xo c,v = .slice xo n c∧∀ W',Below W.heap.size W W'→(convert 22 9 v).run Tryz.prog W' = .ok (.string (strB n X)) W':=by
 have hc:=h.conv hX
 obtain ⟨xo,c,rfl,-⟩:=h.src
 exact ⟨xo,c,rfl,hc⟩
structure Str (W:World) (v:Value) (S:ByteArray):Prop where
 form:∃ xo n c,v = .slice xo n c
 conv:∀ W',Below W.heap.size W W'→(convert 22 9 v).run Tryz.prog W' = .ok (.string S) W'
theorem Str.of {W:World} {v:Value} {n:Nat} {X:Nat→Nat} (h:BytesIn W v n X) (hX:∀ j,X j<256):Str W v (strB n X):=by
 obtain ⟨xo,c,rfl,hc⟩:=ans_str h hX
 exact ⟨⟨xo,n,c,rfl⟩,hc⟩
theorem Str.still {W W2:World} {v:Value} {S:ByteArray} (h:Str W v S) (hb:Below W.heap.size W W2):Str W2 v S:=⟨h.form,fun W' h2=>h.conv W' (hb.trans (h2.mono hb.size))⟩
theorem Str.nil (W:World):Str W (.slice none 0 0) (strB 0 (fun _=>0)):=⟨⟨none,0,0,rfl⟩,fun W' _=>conv_nil W'⟩
theorem infoByte:(Tryz.prog.info? 5).map (·.size)=some 1:=by kernel_rfl
end Go.Proofs.YtcgkajlehdgpoaaGreatDoor
namespace Go.Proofs.YtcgkajlehdgpoaaGreatDoor
open Go.RowKit
def clB (bs:Nat→Nat) (j:Nat):Nat:=if j=0 then bs 0 / 8*8 else if j=31 then bs 31%64+64 else bs j
theorem clB_lt {bs:Nat→Nat} (h:∀ j,bs j<256) (j:Nat):clB bs j<256:=by
 unfold clB
 have:=h 0;have:=h 31;have:=h j
 split
 · omega
 · split
   · omega
   · exact h j
def loB (bs:Nat→Nat) (j:Nat):Nat:=if j=31 then bs 31%128 else bs j
theorem loB_lt {bs:Nat→Nat} (h:∀ j,bs j<256) (j:Nat):loB bs j<256:=by
 unfold loB
 have:=h 31
 split
 · omega
 · exact h j
theorem and_not7:∀ b:Nat,b<256→bits .andNot .u8 (b:Int) 7=((b / 8*8:Nat):Int):=by decide +kernel
theorem and_not128:∀ b:Nat,b<256→bits .andNot .u8 (b:Int) 128=((b%128:Nat):Int):=by decide +kernel
theorem or_64:∀ b:Nat,b<128→bits .or .u8 (b:Int) 64=((b%64+64:Nat):Int):=by decide +kernel
set_option maxRecDepth 20000 in
set_option maxHeartbeats 2000000 in
theorem clamp_bad (v:Value) (n:Nat) (bs:Nat→Nat) (w:World) (hv:BytesIn w v n bs) (hn:n≠32):Calls Tryz.prog 74 #[v] w fun e w'=>e = .returned (.tuple #[.slice none 0 0,.int .i64 1])∧w'=w:=by
 obtain ⟨xo,c,rfl,hxn,hnc,hsrc⟩:=hv.src
 have h1:¬((n:Int)=32):=by omega
 clear hv hsrc
 go_enter Tryz.func74,Tryz.ntmps74
 go_wp2
 exact bodyPost_ret (results_tmp2 rfl _ _ _) rfl ⟨rfl,rfl⟩
set_option maxRecDepth 20000 in
set_option maxHeartbeats 2000000 in
theorem clamp_good (v:Value) (bs:Nat→Nat) (hbs:∀ j,bs j<256) (w:World) (hv:BytesIn w v 32 bs):Calls Tryz.prog 74 #[v] w fun e w'=>∃ s,e = .returned (.tuple #[s,.int .i64 0])∧NewB w w' s 32 (clB bs)∧Below w.heap.size w w':=by
 have hmk:=make_bytes w 32 32 rfl (by decide)
 obtain ⟨W,hW⟩:∃ W,W=w.alloc (.cells (zb 32) 5):=⟨_,rfl⟩
 have hrow:RowAt .u8 W w.heap.size 0 32 (fun _=>0):=by rw [hW];exact RowAt.fresh (fun j hj=>zb_at 32 j hj)
 have hb:Below w.heap.size w W:=by rw [hW];exact (Below.refl _ _).alloc (Nat.le_refl _) _
 obtain ⟨xo,c,rfl,hxn,hnc,hsrc⟩:=hv.src
 have src:=hsrc W hb
 have hth:=hrow.there
 have hsp:=hrow.splice 0 32 bs (by decide)
 rw [←hW] at hmk
 have hb2:Below w.heap.size w (W.setCells w.heap.size 0 (ints .u8 32 bs)):=below_setCells (Nat.le_refl _) _ _ _ hb
 replace hsp:RowAt .u8 (W.setCells w.heap.size 0 (ints .u8 32 bs)) w.heap.size 0 32 bs:=hsp.congr (fun j hj=>by unfold over;rw [if_pos ⟨Nat.zero_le _,by omega⟩,Nat.sub_zero])
 obtain ⟨V,hV⟩:∃ V,V=W.setCells w.heap.size 0 (ints .u8 32 bs):=⟨_,rfl⟩
 rw [←hV] at hsp hb2
 have HV:=Hid.mk' hV
 clear hW hv hsrc hV hrow
 have c0:=(hsp 0 (by decide)).1
 have f0:=(hsp 0 (by decide)).2
 have c1:=(hsp 31 (by decide)).1
 have f1:=(hsp 31 (by decide)).2
 rw [Nat.zero_add] at c0 f0 c1 f1
 have e1:=and_not7 (bs 0) (hbs 0)
 have e2:=and_not128 (bs 31) (hbs 31)
 have e3:=or_64 (bs 31%128) (by omega)
 have r1:=hsp.set (i:=0) (by decide) (v:=((bs 0 / 8*8:Nat):Int)) rfl
 rw [Nat.zero_add] at r1
 have r2:=r1.set (i:=31) (by decide) (v:=((bs 31%128:Nat):Int)) rfl
 rw [Nat.zero_add] at r2
 have r3:=r2.set (i:=31) (by decide) (v:=((bs 31%128%64+64:Nat):Int)) rfl
 rw [Nat.zero_add] at r3
 generalize ((bs 0 / 8*8:Nat):Int)=b0 at *
 generalize hb1:((bs 31%128:Nat):Int)=b1 at *
 generalize ((bs 31%128%64+64:Nat):Int)=b3 at *
 clear hb1
 go_enter Tryz.func74,Tryz.ntmps74
 go_wp2_with (first
  | rw [hmk]
  | (refine wpList_copy_bytes rfl _ _ 22 22 rfl 5 Tryz.underlying22 infoByte w.heap.size 0 32 32 xo 32 c rfl rfl 32 bs src rfl hth ?_;rw [←HV.out];clear src hth HV hmk))
 refine bodyPost_ret (results_tmp2 rfl _ _ _) rfl ⟨_,rfl,⟨w.heap.size,rfl,Nat.le_refl _,r3.congr (fun j hj => ?_)⟩,?_⟩
 · unfold upd clB
   by_cases h31:j=31
   · rw [if_pos h31,if_neg (by omega),if_pos h31];omega
   · simp only [if_neg h31]
 · exact below_setCells (Nat.le_refl _) [_] 31 _ (below_setCells (Nat.le_refl _) [_] 31 _ (below_setCells (Nat.le_refl _) [_] 0 _ hb2))
set_option maxRecDepth 20000 in
set_option maxHeartbeats 2000000 in
theorem pointOf_bad (v:Value) (n:Nat) (bs:Nat→Nat) (w:World) (hv:BytesIn w v n bs) (hn:n≠32):Calls Tryz.prog 75 #[v] w fun e w'=>e = .returned (.tuple #[numV 0,.int .i64 1])∧Below w.heap.size w w':=by
 obtain ⟨xo,c,rfl,hxn,hnc,hsrc⟩:=hv.src
 have h1:¬((n:Int)=32):=by omega
 have hr:=fresh4' w
 clear hv hsrc
 go_enter Tryz.func75,Tryz.ntmps75
 go_wp2
 exact bodyPost_ret (results_cell_tmp Tryz.results75 _ _ w.heap.size 0 (c4 0) _ rfl hr.range Tryz.underlying88 rfl info4) rfl ⟨rfl,(Below.refl _ _).alloc (Nat.le_refl _) _⟩
set_option maxRecDepth 20000 in
set_option maxHeartbeats 2000000 in
theorem pointOf_good (v:Value) (bs:Nat→Nat) (hbs:∀ j,bs j<256) (w:World) (hv:BytesIn w v 32 bs):Calls Tryz.prog 75 #[v] w fun e w'=>e = .returned (.tuple #[numV (ofB (loB bs) 32%pF),.int .i64 0])∧Below w.heap.size w w':=by
 obtain ⟨Z,hZ⟩:∃ Z,Z=w.alloc (.cells #[.int .u64 0,.int .u64 0,.int .u64 0,.int .u64 0] 88):=⟨_,rfl⟩
 have hZr:RW Z w.heap.size 0 (c4 0):=by rw [hZ];exact fresh4' w
 have hZb:Below w.heap.size w Z:=by rw [hZ];exact (Below.refl _ _).alloc (Nat.le_refl _) _
 have HZ:=Hid.mk' hZ
 clear hZ
 have hmk:=make_bytes Z 32 32 rfl (by decide)
 obtain ⟨W,hW⟩:∃ W,W=Z.alloc (.cells (zb 32) 5):=⟨_,rfl⟩
 have hrow:RowAt .u8 W Z.heap.size 0 32 (fun _=>0):=by rw [hW];exact RowAt.fresh (fun j hj=>zb_at 32 j hj)
 have hb:Below Z.heap.size Z W:=by rw [hW];exact (Below.refl _ _).alloc (Nat.le_refl _) _
 obtain ⟨xo,c,rfl,hxn,hnc,hsrc⟩:=hv.src
 have src:=hsrc W (below_next hZb hb)
 have hth:=hrow.there
 have hsp:=hrow.splice 0 32 bs (by decide)
 rw [←hW] at hmk
 have hb2:Below Z.heap.size Z (W.setCells Z.heap.size 0 (ints .u8 32 bs)):=below_setCells (Nat.le_refl _) _ _ _ hb
 replace hsp:RowAt .u8 (W.setCells Z.heap.size 0 (ints .u8 32 bs)) Z.heap.size 0 32 bs:=hsp.congr (fun j hj=>by unfold over;rw [if_pos ⟨Nat.zero_le _,by omega⟩,Nat.sub_zero])
 obtain ⟨V,hV⟩:∃ V,V=W.setCells Z.heap.size 0 (ints .u8 32 bs):=⟨_,rfl⟩
 rw [←hV] at hsp hb2
 have HV:=Hid.mk' hV
 clear hW hv hsrc hV hrow
 have c1:=(hsp 31 (by decide)).1
 have f1:=(hsp 31 (by decide)).2
 rw [Nat.zero_add] at c1 f1
 have e2:=and_not128 (bs 31) (hbs 31)
 have r2:=hsp.set (i:=31) (by decide) (v:=((bs 31%128:Nat):Int)) rfl
 rw [Nat.zero_add] at r2
 generalize ((bs 31%128:Nat):Int)=b1 at *
 replace r2:=r2.congr (Y:=loB bs) (fun j hj=>by unfold upd loB;rfl)
 obtain ⟨V2,hV2⟩:∃ V2,V2=V.setCell ⟨Z.heap.size,31,none⟩ (.int .u8 b1):=⟨_,rfl⟩
 rw [←hV2] at r2
 have hb3:Below Z.heap.size Z V2:=by rw [hV2];exact below_setCells (Nat.le_refl _) [_] 31 _ hb2
 have HV2:=Hid.mk' hV2
 clear hV2
 have hF:=from_any (.slice (some ⟨Z.heap.size,0,none⟩) 32 32) 32 (loB bs) (loB_lt hbs) V2 (.inr ⟨Z.heap.size,0,32,rfl,block_lt_of_cell (r2 0 (by decide)).1,Nat.le_refl _,fun j hj=>(r2 j hj).1⟩)
 obtain ⟨N,hN⟩:∃ N,N=ofB (loB bs) 32%pF:=⟨_,rfl⟩
 rw [show fromN 32 (loB bs)=N from hN.symm,show fromE 32=0 from rfl] at hF
 rw [←hN]
 clear hN
 have hF':Calls Tryz.prog 100 #[.slice (some ⟨Z.heap.size,0,none⟩) 32 32] V2 fun e w'=>e = .returned (.tuple #[.agg (c4 N).toArray,.int .i64 0])∧Below V2.heap.size V2 w':=hF
 clear hF
 have hZr2:=hZr.still hb3
 have hbw:Below w.heap.size w V2:=below_next hZb hb3
 clear hb hb2 hb3 hZr r2
 go_enter Tryz.func75,Tryz.ntmps75
 go_wp2_with (first
  | (rw [←HZ.out];rw [hmk])
  | (refine wpList_copy_bytes rfl _ _ 22 22 rfl 5 Tryz.underlying22 infoByte Z.heap.size 0 32 32 xo 32 c rfl rfl 32 bs src rfl hth ?_;rw [←HV.out];clear src hth HV hmk)
  | (go_at_call 100;rw [←HV2.out];refine hF'.mono ?_;clear hF' HV2;rintro e w3 ⟨rfl,hb3⟩;(have hZr3:=hZr2.still hb3);(have t3:w3.there w.heap.size 0 (c4 N).toArray.size:=hZr3.there))
  | (with_reducible (refine id (?_:wpList _ _ _ _ _ _));refine wpList_store_mid rfl 88 _ _ rfl w.heap.size 0 (c4 N).toArray rfl rfl t3 (info4a N) (one4 N) ?_))
 exact bodyPost_ret (results_cell_tmp Tryz.results75 _ _ w.heap.size 0 (c4 N) _ rfl (hZr3.stored (c4 N) rfl).range Tryz.underlying88 rfl info4) rfl ⟨rfl,below_setCells (Nat.le_refl _) _ _ _ (below_next hbw hb3)⟩
end Go.Proofs.YtcgkajlehdgpoaaGreatDoor
namespace Go.Proofs.YtcgkajlehdgpoaaGreatDoor
open Go.RowKit
set_option maxRecDepth 20000 in
set_option maxHeartbeats 2000000 in
theorem lmul_key (v u:Value) (n:Nat) (bs:Nat→Nat) (w:World) (hv:BytesIn w v n bs) (hn:n≠32):Calls Tryz.prog 53 #[v,u] w fun e w'=>e = .returned (.tuple #[.slice none 0 0,.int .i64 1])∧Below w.heap.size w w':=by
 have hC:=clamp_bad v n bs w hv hn
 go_enter Tryz.func53,Tryz.ntmps53
 go_wp2_with (go_at_call 74;refine hC.mono ?_;clear hC;rintro e w1 ⟨rfl,rfl⟩)
 exact bodyPost_ret (results_tmp2 rfl _ _ _) rfl ⟨rfl,Below.refl _ _⟩
set_option maxRecDepth 20000 in
set_option maxHeartbeats 2000000 in
theorem lmul_point (v u:Value) (m:Nat) (bs cs:Nat→Nat) (hbs:∀ j,bs j<256) (w:World) (hv:BytesIn w v 32 bs) (hu:BytesIn w u m cs) (hm:m≠32):Calls Tryz.prog 53 #[v,u] w fun e w'=>e = .returned (.tuple #[.slice none 0 0,.int .i64 1])∧Below w.heap.size w w':=by
 have hC:=clamp_good v bs hbs w hv
 have hP:∀ W,BytesIn W u m cs→Calls Tryz.prog 75 #[u] W fun e w'=>e = .returned (.tuple #[.agg #[.int .u64 0,.int .u64 0,.int .u64 0,.int .u64 0],.int .i64 1])∧Below W.heap.size W w':=fun W h=>by
  have:=pointOf_bad u m cs W h hm
  rw [numV_zero] at this;exact this
 go_enter Tryz.func53,Tryz.ntmps53
 go_wp2_with (first
  | (go_at_call 74;refine hC.mono ?_;clear hC;rintro e w1 ⟨s,rfl,hs,hb1⟩)
  | (go_at_call 75;refine (hP _ (hu.still hb1)).mono ?_;clear hP;rintro e w2 ⟨rfl,hb2⟩))
 exact bodyPost_ret (results_tmp2 rfl _ _ _) rfl ⟨rfl,by first | exact below_next hb1 (hb2.alloc hb2.size _) | exact below_next hb1 hb2⟩
set_option maxRecDepth 20000 in
set_option maxHeartbeats 2000000 in
theorem lmul_good (v u:Value) (bs cs:Nat→Nat) (hbs:∀ j,bs j<256) (hcs:∀ j,cs j<256) (w:World) (hv:BytesIn w v 32 bs) (hu:BytesIn w u 32 cs):Calls Tryz.prog 53 #[v,u] w fun e w'=>∃ s,e = .returned (.tuple #[s,.int .i64 0])∧NewB w w' s 32 (byt (mulL (clB bs) (ofB (loB cs) 32%pF)))∧Below w.heap.size w w':=by
 have hC:=clamp_good v bs hbs w hv
 obtain ⟨N,hN⟩:∃ N,N=ofB (loB cs) 32%pF:=⟨_,rfl⟩
 have hNl:N<pF:=by rw [hN];exact Nat.mod_lt _ (by decide)
 have hP:∀ W,BytesIn W u 32 cs→Calls Tryz.prog 75 #[u] W fun e w'=>e = .returned (.tuple #[.agg (c4 N).toArray,.int .i64 0])∧Below W.heap.size W w':=fun W h=>by
  have:=pointOf_good u cs hcs W h
  rw [←hN] at this;exact this
 rw [←hN]
 clear hN
 obtain ⟨M,hM⟩:∃ M,M=mulL (clB bs) N:=⟨_,rfl⟩
 rw [←hM]
 have hQ:∀ g W,RowAt .u8 W g 0 32 (clB bs)→Calls Tryz.prog 76 #[.slice (some ⟨g,0,none⟩) 32 32,.agg (c4 N).toArray] W fun e w'=>e = .returned (numV M)∧Below W.heap.size W w':=fun g W h=>by
  have:=lproduct_any g 0 32 (clB bs) (clB_lt hbs) N hNl W (fun j hj=>(h j hj).1)
  rw [←hM] at this;exact this
 have hB:=fun W=>bytes_any M W
 clear hM
 go_enter Tryz.func53,Tryz.ntmps53
 go_wp2_with (first
  | (go_at_call 74;refine hC.mono ?_;clear hC;rintro e w1 ⟨s,rfl,⟨g,rfl,hg,hr⟩,hb1⟩)
  | (go_at_call 75;refine (hP _ (hu.still hb1)).mono ?_;clear hP;rintro e w2 ⟨rfl,hb2⟩;(have t2:=fresh4t w2 N);(have z2:=fresh4' w2);(obtain ⟨V,hV⟩:∃ V,V=(w2.alloc (.cells #[.int .u64 0,.int .u64 0,.int .u64 0,.int .u64 0] 88)).setCells w2.heap.size 0 (c4 N):=⟨_,rfl⟩);(have rN:RW V w2.heap.size 0 (c4 N):=by rw [hV];exact z2.stored (c4 N) rfl);(have bV:Below w2.heap.size w2 V:=by rw [hV];exact below_setCells (Nat.le_refl _) _ _ _ ((Below.refl _ _).alloc (Nat.le_refl _) _));(have HV:=Hid.mk' hV);clear hV z2)
  | (with_reducible (refine id (?_:wpList _ _ _ _ _ _));refine wpList_store_mid rfl 88 _ _ rfl w2.heap.size 0 (c4 N).toArray rfl rfl t2 (info4a N) (one4 N) ?_;rw [List.toList_toArray,←HV.out];clear t2 HV)
  | (refine wpList_load_mid rfl 88 _ rfl w2.heap.size 0 rfl (c4 N) _ rN.range Tryz.underlying88 rfl info4 ?_)
  | (go_at_call 76;refine (hQ g _ ((hr.below hb2 (block_lt_of_cell (hr 0 (by decide)).1)).below bV (Nat.lt_of_lt_of_le (block_lt_of_cell (hr 0 (by decide)).1) hb2.size))).mono ?_;clear hQ;rintro e w3 ⟨rfl,hb3⟩)
  | (go_at_call 55;refine (hB _).mono ?_;clear hB;rintro e w4 ⟨g4,rfl,hg4,hr4,hb4⟩))
 have s1:=hb1.size
 have s2:=hb2.size
 have s3:=bV.size
 have s4:=hb3.size
 exact bodyPost_ret (results_tmp2 rfl _ _ _) rfl ⟨_,rfl,⟨g4,rfl,by omega,hr4⟩,(((hb1.trans (hb2.mono s1)).trans (bV.mono (by omega))).trans (hb3.mono (by omega))).trans (hb4.mono (by omega))⟩
end Go.Proofs.YtcgkajlehdgpoaaGreatDoor
namespace Go.Proofs.YtcgkajlehdgpoaaGreatDoor
def Prm (n:Nat):Prop:=2≤n∧∀ d,d ∣ n→d=1∨d=n
theorem Prm.pos {n:Nat} (h:Prm n):0<n:=Nat.lt_of_lt_of_le (by decide) h.1
theorem prime_factor:∀ n,2≤n→∃ q,Prm q∧q ∣ n:=by
 intro n
 induction n using Nat.strongRecOn with
 | _ n ih =>
  intro hn
  by_cases h:Prm n
  · exact ⟨n,h,Nat.dvd_refl n⟩
  · have:∃ d,d ∣ n∧d≠1∧d≠n:=by
     apply Classical.byContradiction
     intro hc
     refine h ⟨hn,fun d hd => ?_⟩
     by_cases e1:d=1
     · exact .inl e1
     · by_cases e2:d=n
       · exact .inr e2
       · exact absurd ⟨d,hd,e1,e2⟩ hc
    obtain ⟨d,hd,h1,h2⟩:=this
    have hle:=Nat.le_of_dvd (by omega) hd
    have h0:d≠0:=fun e=>by rw [e] at hd;have:=Nat.eq_zero_of_zero_dvd hd;omega
    obtain ⟨q,hq,hqd⟩:=ih d (by omega) (by omega)
    exact ⟨q,hq,Nat.dvd_trans hqd hd⟩
theorem Prm.gcd {p:Nat} (h:Prm p) {a:Nat} (ha:¬p ∣ a):Nat.gcd p a=1:=by
 rcases h.2 _ (Nat.gcd_dvd_left p a) with e | e
 · exact e
 · exact absurd (e ▸ Nat.gcd_dvd_right p a) ha
theorem Prm.euclid {p:Nat} (h:Prm p) {a b:Nat} (hab:p ∣ a*b):p ∣ a∨p ∣ b:=by
 by_cases ha:p ∣ a
 · exact .inl ha
 · exact .inr (Nat.Coprime.dvd_of_dvd_mul_left (h.gcd ha) hab)
def cho:Nat→Nat→Nat
 | _,0=>1
 | 0,_+1=>0
 | n+1,k+1=>cho n k+cho n (k+1)
theorem cho_zero (n:Nat):cho n 0=1:=by cases n <;> rfl
theorem cho_big:∀ n k,n<k→cho n k=0
 | 0,k+1,_=>rfl
 | n+1,k+1,h=>by rw [cho,cho_big n k (by omega),cho_big n (k+1) (by omega)]
theorem cho_self:∀ n,cho n n=1
 | 0=>rfl
 | n+1=>by rw [cho,cho_self n,cho_big n (n+1) (by omega)]
theorem cho_mul:∀ n k,(k+1)*cho (n+1) (k+1)=(n+1)*cho n k
 | 0,0=>rfl
 | 0,k+1=>by rw [cho,cho,cho];rfl
 | n+1,0=>by
  have h:=cho_mul n 0
  rw [cho_zero] at h ⊢
  rw [cho,cho_zero]
  omega
 | n+1,k+1=>by
  have h1:=cho_mul n k
  have h2:=cho_mul n (k+1)
  have e1:cho (n+2) (k+2)=cho (n+1) (k+1)+cho (n+1) (k+2):=rfl
  have e2:cho (n+1) (k+1)=cho n k+cho n (k+1):=rfl
  rw [show n+1+1=n+2 from rfl,show k+1+1=k+2 from rfl] at *
  have e3:(k+2)*cho (n+1) (k+1)=(n+1)*cho n k+cho (n+1) (k+1):=by
   rw [show k+2=(k+1)+1 from rfl,Nat.succ_mul,h1]
  have e4:(n+1)*cho (n+1) (k+1)=(n+1)*cho n k+(n+1)*cho n (k+1):=by rw [e2,Nat.mul_add]
  have e5:(n+2)*cho (n+1) (k+1)=(n+1)*cho (n+1) (k+1)+cho (n+1) (k+1):=Nat.succ_mul _ _
  rw [e1,Nat.mul_add,h2,e3,e5,e4]
  omega
def bin (a n:Nat):Nat→Nat
 | 0=>0
 | m+1=>bin a n m+cho n m*a ^ m
theorem bin_step (a n:Nat):∀ m,bin a (n+1) (m+1)=bin a n (m+1)+a*bin a n m
 | 0=>by simp [bin,cho_zero]
 | m+1=>by
  rw [bin,bin_step a n m]
  have e:cho (n+1) (m+1)=cho n m+cho n (m+1):=rfl
  rw [e,Nat.add_mul]
  have h1:bin a n (m+1+1)=bin a n (m+1)+cho n (m+1)*a ^ (m+1):=rfl
  have h2:bin a n (m+1)=bin a n m+cho n m*a ^ m:=rfl
  rw [h1,h2,Nat.mul_add,Nat.pow_succ]
  have e2:a*(cho n m*a ^ m)=cho n m*(a ^ m*a):=by rw [Nat.mul_comm a,Nat.mul_assoc]
  rw [e2];omega
theorem bin_pow (a:Nat):∀ n,bin a n (n+1)=(a+1) ^ n
 | 0=>by simp [bin,cho_zero]
 | n+1=>by
  rw [bin_step]
  have h1:bin a n (n+1+1)=bin a n (n+1)+cho n (n+1)*a ^ (n+1):=rfl
  rw [h1,cho_big n (n+1) (by omega),Nat.zero_mul,Nat.add_zero,bin_pow a n,Nat.pow_succ,Nat.mul_comm _ (a+1),Nat.succ_mul,Nat.add_comm]
theorem bin_mod {p:Nat} (h:Prm p) (a:Nat):∀ m,m+1≤p→bin a p (m+1)%p=1%p
 | 0,_=>by simp [bin,cho_zero]
 | m+1,hm=>by
  have ih:=bin_mod h a m (by omega)
  have hd:p ∣ cho p (m+1):=by
   obtain ⟨n,rfl⟩:∃ n,p=n+1:=⟨p - 1,by have:=h.pos;omega⟩
   have e:=cho_mul n m
   have:n+1 ∣ (m+1)*cho (n+1) (m+1):=⟨_,e⟩
   rcases h.euclid this with h1 | h1
   · have:=Nat.le_of_dvd (by omega) h1;omega
   · exact h1
  have e:bin a p (m+1+1)=bin a p (m+1)+cho p (m+1)*a ^ (m+1):=rfl
  obtain ⟨c,hc⟩:=hd
  rw [e,hc,Nat.mul_assoc,Nat.add_mul_mod_self_left,ih]
theorem Prm.fermat {p:Nat} (h:Prm p):∀ a,a ^ p%p=a%p
 | 0=>by rw [Nat.zero_pow h.pos]
 | a+1=>by
  have e1:=bin_pow a p
  have e2:bin a p (p+1)=bin a p p+cho p p*a ^ p:=rfl
  obtain ⟨n,hn⟩:∃ n,p=n+1:=⟨p - 1,by have:=h.pos;omega⟩
  have e3:=bin_mod h a n (by omega)
  rw [←hn] at e3
  rw [←e1,e2,cho_self,Nat.one_mul,Nat.add_mod,e3,h.fermat a,←Nat.add_mod,Nat.add_comm]
theorem Prm.fermat1 {p:Nat} (h:Prm p) {a:Nat} (ha:¬p ∣ a):a ^ (p - 1)%p=1%p:=by
 have h1:=h.fermat a
 have hp:=h.pos
 obtain ⟨n,rfl⟩:∃ n,p=n+1:=⟨p - 1,by omega⟩
 rw [Nat.pow_succ] at h1
 rw [Nat.add_sub_cancel]
 have key:∀ x,(x*a)%(n+1)=a%(n+1)→x%(n+1)=1%(n+1):=by
  intro x hx
  have hd:n+1 ∣ ((x:Int)*a - a).natAbs:=by
   have:((n+1:Nat):Int) ∣ (x:Int)*a - a:=by
    apply Int.dvd_of_emod_eq_zero
    rw [Int.sub_emod,←Int.natCast_mul,←Int.natCast_emod,←Int.natCast_emod,hx,Int.sub_self,Int.zero_emod]
   exact Int.ofNat_dvd_left.1 this
  have e:((x:Int)*a - a)=((x:Int) - 1)*a:=by rw [Int.sub_mul,Int.one_mul]
  rw [e,Int.natAbs_mul,Int.natAbs_natCast] at hd
  rcases h.euclid hd with h2 | h2
  · have h3:((n+1:Nat):Int) ∣ (x:Int) - 1:=Int.ofNat_dvd_left.2 h2
    have h4:=Int.emod_eq_zero_of_dvd h3
    have h5:=(Int.emod_eq_emod_iff_emod_sub_eq_zero (m:=(x:Int)) (n:=((n+1:Nat):Int)) (k:=1)).2 h4
    have h6:(((x%(n+1):Nat):Int))=((1%(n+1):Nat):Int):=by
     rw [Int.natCast_emod,Int.natCast_emod];exact h5
    exact Int.ofNat_inj.1 h6
  · exact absurd h2 ha
 exact key _ h1
def pm (N a:Nat):Nat→Nat→Nat
 | 0,_=>1%N
 | k+1,e=>pm N a k (e / 2) ^ 2%N*a ^ (e%2)%N
theorem pm_eq (N a:Nat):∀ k e,e<2 ^ k→pm N a k e=a ^ e%N
 | 0,e,h=>by
  have:e=0:=by simpa using h
  rw [this,pm,Nat.pow_zero]
 | k+1,e,h=>by
  rw [pm,pm_eq N a k (e / 2) (by rw [Nat.pow_succ] at h;omega),←Nat.pow_mod,←Nat.pow_mul,Nat.mul_mod,Nat.mod_mod,←Nat.mul_mod,←Nat.pow_add]
  congr 2;omega
theorem pow_gcd (a s:Nat) (m n:Nat):a ^ m%s=1%s→a ^ n%s=1%s→a ^ (Nat.gcd m n)%s=1%s:=by
 induction m,n using Nat.gcd.induction with
 | H0 n=>intro _ h;rw [Nat.gcd_zero_left];exact h
 | H1 m n hm ih =>
  intro h1 h2
  rw [Nat.gcd_rec]
  refine ih ?_ h1
  have e:a ^ n=(a ^ m) ^ (n / m)*a ^ (n%m):=by rw [←Nat.pow_mul,←Nat.pow_add,Nat.div_add_mod]
  rw [e,Nat.mul_mod,Nat.pow_mod,h1,←Nat.pow_mod,Nat.one_pow,←Nat.mul_mod,Nat.one_mul] at h2
  exact h2
theorem pock {N f Q a:Nat} (hf:Prm f) (hN:N=f*Q+1) (hQ:0<Q) (h1:a ^ (N - 1)%N=1) (h2:Nat.gcd (a ^ Q%N+N - 1) N=1) (hs:Q / f+1<Q%f):Prm N:=by
 have hfp:=hf.pos
 have hf2:=hf.1
 have hNp:2≤N:=by
  have:1≤f*Q:=Nat.mul_pos hfp hQ
  omega
 have hN1:N - 1=f*Q:=by omega
 have step:∀ q,Prm q→q ∣ N→f ∣ q - 1:=fun q hq hqN=>by
  apply Classical.byContradiction
  intro hnd
  have hq1:1%q=1:=Nat.mod_eq_of_lt hq.1
  have e1:a ^ (N - 1)%q=1%q:=by rw [←Nat.mod_mod_of_dvd (a ^ (N - 1)) hqN,h1]
  have hqa:¬q ∣ a:=fun hd=>by
   have hd2:q ∣ a ^ (N - 1):=Nat.dvd_trans hd (by
    obtain ⟨k,hk⟩:∃ k,N - 1=k+1:=⟨N - 2,by omega⟩
    rw [hk,Nat.pow_succ];exact Nat.dvd_mul_left _ _)
   rw [Nat.mod_eq_zero_of_dvd hd2,hq1] at e1
   omega
  have e2:=hq.fermat1 hqa
  have e3:=pow_gcd a q _ _ e1 e2
  have hg1:=Nat.gcd_dvd_left (N - 1) (q - 1)
  have hg2:=Nat.gcd_dvd_right (N - 1) (q - 1)
  generalize Nat.gcd (N - 1) (q - 1)=g at *
  have hfg:¬f ∣ g:=fun h=>hnd (Nat.dvd_trans h hg2)
  rw [hN1] at hg1
  have hgQ:g ∣ Q:=Nat.Coprime.dvd_of_dvd_mul_left (Nat.Coprime.symm (hf.gcd hfg)) hg1
  obtain ⟨c,hc⟩:=hgQ
  have e4:a ^ Q%q=1:=by rw [hc,Nat.pow_mul,Nat.pow_mod,e3,←Nat.pow_mod,Nat.one_pow,hq1]
  have e5:a ^ Q%N%q=1:=by rw [Nat.mod_mod_of_dvd _ hqN,e4]
  have hd:q ∣ a ^ Q%N+N - 1:=by
   generalize a ^ Q%N=y at e5
   obtain ⟨n,hn⟩:=hqN
   have hy:y=q*(y / q)+1:=by have:=Nat.div_add_mod y q;omega
   refine ⟨y / q+n,?_⟩
   rw [Nat.mul_add,←hn]
   omega
  have:=Nat.dvd_gcd hd hqN
  rw [h2] at this
  have:=Nat.le_of_dvd (by decide) this
  have:=hq.1
  omega
 obtain ⟨q,hq,hqN⟩:=prime_factor N hNp
 by_cases e:q=N
 · rw [←e];exact hq
 · exfalso
   obtain ⟨t,ht⟩:=hqN
   obtain ⟨x,hx⟩:=step q hq ⟨t,ht⟩
   have hq2:=hq.1
   have hqe:q=f*x+1:=by omega
   have hx0:0<x:=by
    apply Nat.pos_of_ne_zero
    intro h0;rw [h0,Nat.mul_zero] at hqe;omega
   have e1:f*Q+1=(f*x+1)*t:=by rw [←hqe,←ht,hN]
   have e2:f*Q+1=f*(x*t)+t:=by rw [e1,Nat.add_mul,Nat.one_mul,Nat.mul_assoc]
   have ht0:0<t:=by
    apply Nat.pos_of_ne_zero
    intro h0;rw [h0,Nat.mul_zero] at ht;omega
   have hft:f ∣ t - 1:=by
    have h3:f*Q=f*(x*t)+(t - 1):=by omega
    have:f ∣ f*(x*t)+(t - 1):=⟨Q,h3.symm⟩
    exact (Nat.dvd_add_right (Nat.dvd_mul_right f _)).1 this
   obtain ⟨y,hy⟩:=hft
   have hte:t=f*y+1:=by omega
   have hy0:0<y:=by
    apply Nat.pos_of_ne_zero
    intro h0;rw [h0,Nat.mul_zero] at hte
    rw [hte,Nat.mul_one] at ht
    exact e ht.symm
   have h3:f*Q=f*(x*t)+f*y:=by omega
   have h4:Q=x*t+y:=Nat.eq_of_mul_eq_mul_left hfp (by rw [h3,Nat.mul_add])
   have h5:Q=f*(x*y)+(x+y):=by
    rw [h4,hte,Nat.mul_add,Nat.mul_one,Nat.mul_left_comm,Nat.add_assoc]
   have h6:x+y≤x*y+1:=by
    obtain ⟨u,rfl⟩:∃ u,x=u+1:=⟨x - 1,by omega⟩
    obtain ⟨v,rfl⟩:∃ v,y=v+1:=⟨y - 1,by omega⟩
    rw [Nat.add_mul,Nat.mul_add]
    omega
   have h7:x*y≤Q / f:=by
    rw [Nat.le_div_iff_mul_le hfp,Nat.mul_comm,h5]
    exact Nat.le_add_right _ _
   have h8:Q%f<f:=Nat.mod_lt _ hfp
   have h9:Q%f=x+y:=by
    rw [h5,Nat.mul_add_mod,Nat.mod_eq_of_lt (by omega)]
   omega
theorem prime_trial (n k:Nat) (hn:2≤n) (hk:n<k*k) (h:(List.range k).all (fun d=>decide (d<2) || decide (n%d≠0))=true):Prm n:=by
 obtain ⟨q,hq,hqn⟩:=prime_factor n hn
 have hno:∀ d,2≤d→d<k→¬d ∣ n:=fun d h2 hdk hd=>by
  have:=List.all_eq_true.1 h d (List.mem_range.2 hdk)
  rw [Bool.or_eq_true,decide_eq_true_eq,decide_eq_true_eq] at this
  rcases this with h3 | h3
  · omega
  · exact h3 (Nat.mod_eq_zero_of_dvd hd)
 by_cases e:q=n
 · rw [←e];exact hq
 · exfalso
   obtain ⟨t,ht⟩:=hqn
   have hq2:=hq.1
   have hqk:k≤q:=Nat.le_of_not_lt (fun hlt=>hno q hq2 hlt ⟨t,ht⟩)
   have ht0:t≠0:=fun h0=>by rw [h0,Nat.mul_zero] at ht;omega
   have ht1:t≠1:=fun h1=>by rw [h1,Nat.mul_one] at ht;exact e ht.symm
   have htk:k≤t:=Nat.le_of_not_lt (fun hlt=>hno t (by omega) hlt ⟨q,by rw [Nat.mul_comm];exact ht⟩)
   have:=Nat.mul_le_mul hqk htk
   omega
theorem prime0:Prm 8574133:=prime_trial 8574133 2929 (by decide) (by decide) (by kernel_rfl)
theorem prime1:Prm 1919519569386763 :=
 pock (f:=8574133) (Q:=223873314) (a:=2) prime0 (by decide) (by decide)
  (by rw [←pm_eq 1919519569386763 2 256 (1919519569386763 - 1) (by decide)];kernel_rfl)
  (by rw [←pm_eq 1919519569386763 2 256 223873314 (by decide)];kernel_rfl) (by decide)
theorem prime2:Prm 75445702479781427272750846543864801 :=
 pock (f:=1919519569386763) (Q:=39304471641247389600) (a:=2) prime1 (by decide) (by decide)
  (by rw [←pm_eq 75445702479781427272750846543864801 2 256 (75445702479781427272750846543864801 - 1) (by decide)];kernel_rfl)
  (by rw [←pm_eq 75445702479781427272750846543864801 2 256 39304471641247389600 (by decide)];kernel_rfl) (by decide)
theorem prime3:Prm 74058212732561358302231226437062788676166966415465897661863160754340907 :=
 pock (f:=75445702479781427272750846543864801) (Q:=981609426360740691344999861639072106) (a:=2) prime2 (by decide) (by decide)
  (by rw [←pm_eq 74058212732561358302231226437062788676166966415465897661863160754340907 2 256 (74058212732561358302231226437062788676166966415465897661863160754340907 - 1) (by decide)];kernel_rfl)
  (by rw [←pm_eq 74058212732561358302231226437062788676166966415465897661863160754340907 2 256 981609426360740691344999861639072106 (by decide)];kernel_rfl) (by decide)
theorem prime4:Prm 57896044618658097711785492504343953926634992332820282019728792003956564819949 :=
 pock (f:=74058212732561358302231226437062788676166966415465897661863160754340907) (Q:=781764) (a:=2) prime3 (by decide) (by decide)
  (by rw [←pm_eq 57896044618658097711785492504343953926634992332820282019728792003956564819949 2 256 (57896044618658097711785492504343953926634992332820282019728792003956564819949 - 1) (by decide)];kernel_rfl)
  (by rw [←pm_eq 57896044618658097711785492504343953926634992332820282019728792003956564819949 2 256 781764 (by decide)];kernel_rfl) (by decide)
theorem prime_p:Prm pF:=prime4
end Go.Proofs.YtcgkajlehdgpoaaGreatDoor
namespace Go.Proofs.YtcgkajlehdgpoaaGreatDoor
theorem not_dvd {x:Nat} (h0:x≠0) (hx:x<pF):¬pF ∣ x:=fun h=>by have:=Nat.le_of_dvd (Nat.pos_of_ne_zero h0) h;omega
theorem pF_one:1%pF=1:=by decide
theorem inv_mul {x:Nat} (h0:x≠0) (hx:x<pF):x*(x ^ (pF - 2)%pF)%pF=1:=by
 have h:=prime_p.fermat1 (not_dvd h0 hx)
 have e:pF - 1=(pF - 2).succ:=by decide
 rw [Nat.mul_mod,Nat.mod_mod,←Nat.mul_mod,Nat.mul_comm,←Nat.pow_succ,←e,h,pF_one]
end Go.Proofs.YtcgkajlehdgpoaaGreatDoor
namespace Go.Proofs.YtcgkajlehdgpoaaGreatDoor
open Go.RowKit
theorem quot_of {x z k:Nat} (hk:k<pF) (hz0:z≠0) (hz:z<pF) (h:k*z%pF=x):fmul x (finv z)=k:=by
 have hi:=inv_mul hz0 hz
 unfold fmul finv
 rw [←h,Nat.mod_mul_mod,Nat.mul_assoc,Nat.mul_mod,hi,Nat.mul_one,Nat.mod_mod,Nat.mod_eq_of_lt hk]
theorem nine_of:ofB (loB (byt 9)) 32%pF=9:=by kernel_rfl
end Go.Proofs.YtcgkajlehdgpoaaGreatDoor
