/- What the proof stands on: LProd, LNews, LClamp, LMul, LCert, LPub, LShare, LClamps, LIgnores. -/
import Derived.Test.YtibdhadbflfdpaaGreatDoorLRungM
import Derived.Test.YtibdhadbflfdpaaGreatDoorLentM
import Derived.Test.YtibdhadbflfdpaaGreatDoorPNumM
namespace Go.Proofs.YtibdhadbflfdpaaGreatDoor
open Go.RowKit Go.Shelf
attribute [local go_sem] Oper.semAt_some
structure PInv (w:World) (l D g cb pb rb bb ob cap:Nat) (rec:Loop) (ks:Nat→Nat) (u j:Nat) (W:World):Prop where
 lp:W.heap[l]? = some (.loop rec)
 dfr:W.heap[D]? = some (.deferred (some []))
 cc:W.cell? ⟨cb,0,none⟩=some (.pointer (some ⟨g,0,none⟩))
 pc:W.cell? ⟨pb,0,none⟩=some (.slice (some ⟨bb,ob,none⟩) 32 cap)
 bs:∀ q,q<32→W.cell? ⟨bb,ob+q,none⟩=some (.int .u8 (ks q))
 low:RW W g 0 (c8 (climbL u ks j).xl (climbL u ks j).zl)
 high:RW W g 8 (c8 (climbL u ks j).xh (climbL u ks j).zh)
 un:RW W g 16 (c4 u)
 res:RW W rb 0 (c4 0)
 bel:Below w.heap.size w W
set_option maxRecDepth 100000 in
set_option maxHeartbeats 4000000 in
theorem product_in (n:Nat) (bb ob cap:Nat) (ks:Nat→Nat) (hks:∀ q,ks q<256) (u:Nat) (hu:u<pF) (w:World) (hc:∀ j,j<32→w.cell? ⟨bb,ob+j,none⟩=some (.int .u8 (ks j))) :
 CallsIn Fence.wide n Tryz.prog 229 #[.slice (some ⟨bb,ob,none⟩) 32 cap,numV u] w fun e w'=>e = .returned (numV (mulL ks u))∧Below w.heap.size w w':=by
 obtain ⟨N,hN⟩:∃ N,N=mulL ks u:=⟨_,rfl⟩
 rw [←hN]
 have HN:=Hid.mk' hN
 clear hN
 have hB:∀ W,Calls Tryz.prog 255 #[.agg #[.int .u64 (lw u 0),.int .u64 (lw u 1),.int .u64 (lw u 2),.int .u64 (lw u 3)]] W fun e w'=>∃ g,e = .returned (.pointer (some ⟨g,0,none⟩))∧W.heap.size≤g∧Below W.heap.size W w'∧RW w' g 0 (c8 1 0)∧RW w' g 8 (c8 u 1)∧RW w' g 16 (c4 u):=fun W=>begin_any u W
 have hD:=fun W=>bitsDown_any (some ⟨bb,ob,none⟩) 32 cap W
 rw [show numV u = .agg #[.int .u64 (lw u 0),.int .u64 (lw u 1),.int .u64 (lw u 2),.int .u64 (lw u 3)] from rfl]
 refine callsIn_of_wp_marks Tryz.func229 rfl trivial ?_ rfl
 simp only [Tryz.ntmps229,List.size_toArray,List.length_cons,List.length_nil,Nat.reduceAdd,Nat.reduceSub,Array.replicate_succ,Array.replicate_zero,List.push_toArray,List.append_toArray,List.nil_append,List.cons_append]
 gi_wp2_with (first
  | (refine ⟨trivial,(fun h=>by cases h),?_⟩;gi_at_call 255;refine (callsIn_wide.2 (hB _)).mono ?_;clear hB;rintro e w1 ⟨g,rfl,hg,hb1,r0,r8,r16⟩)
  | (refine ⟨trivial,(fun h=>by cases h),?_⟩;gi_at_call 256;refine (callsIn_wide.2 (hD _)).mono ?_;clear hD;rintro e w2 ⟨rfl,hw2⟩))
 obtain ⟨Z,hZ⟩:∃ Z,Z=(w.alloc (.cells #[.int .u64 (lw u 0),.int .u64 (lw u 1),.int .u64 (lw u 2),.int .u64 (lw u 3)] 75)).alloc (.cells #[.int .u64 0,.int .u64 0,.int .u64 0,.int .u64 0] 75):=⟨_,rfl⟩
 have hZs:Z.heap.size=w.heap.size+2:=by rw [hZ];simp
 have hZb:Below w.heap.size w Z:=by rw [hZ];exact ((Below.refl _ _).alloc (Nat.le_refl _) _).alloc (by simp) _
 have hZr:RW Z (w.heap.size+1) 0 (c4 0):=by
  have h:=fresh4' (w.alloc (.cells #[.int .u64 (lw u 0),.int .u64 (lw u 1),.int .u64 (lw u 2),.int .u64 (lw u 3)] 75))
  rw [World.size_alloc] at h
  rw [hZ];exact h
 rw [←hZ] at hg hb1
 rw [←hw2]
 have hw12:Below w1.heap.size w1 w2:=by rw [hw2];exact ((Below.refl _ _).alloc (Nat.le_refl _) _).alloc (by simp) _
 have hcc:w2.cell? ⟨w1.heap.size,0,none⟩=some (.pointer (some ⟨g,0,none⟩)):=by rw [hw2];simp
 have hpc:w2.cell? ⟨w1.heap.size+1,0,none⟩=some (.slice (some ⟨bb,ob,none⟩) 32 cap):=by rw [hw2];simp
 have hs2:w2.heap.size=w1.heap.size+2:=by rw [hw2];simp
 have hs1:=hb1.size
 have hbl:bb<w.heap.size:=block_lt_of_cell (hc 0 (by decide))
 have hb2:Below w.heap.size w w2:=(hZb.trans (hb1.mono (by omega))).trans (hw12.mono (by omega))
 have hr2:RW w2 (w.heap.size+1) 0 (c4 0):=(hZr.still hb1).still hw12
 have hcg:g<w1.heap.size:=r0.lt
 replace r0:=r0.still hw12
 replace r8:=r8.still hw12
 replace r16:=r16.still hw12
 clear hw2 hZ hZb hZr
 refine wpIn_range_with rfl (fun _=>trivial) (fun h=>by cases h) rfl (enters_of Tryz.func273 (by kernel_rfl) rfl) (fun q0 e1 e2 e4 e5 e6 e7 => ?_)
 obtain ⟨W1,hW1⟩:∃ W1,W1=(w2.alloc (.deferred (some []))).alloc (.loop q0):=⟨_,rfl⟩
 obtain ⟨l,hl⟩:∃ l,l=w2.heap.size+1:=⟨_,rfl⟩
 have hbl1:Below w2.heap.size w2 W1:=by rw [hW1];exact ((Below.refl _ _).alloc (Nat.le_refl _) _).alloc (by simp) _
 have hl1:W1.heap[l]? = some (.loop q0):=by
  rw [hW1,hl];have:=World.alloc_heap_new (w2.alloc (.deferred (some []))) (.loop q0);rwa [World.size_alloc] at this
 have hD1:W1.heap[w2.heap.size]? = some (.deferred (some [])):=by
  rw [hW1];exact (Below.heap_alloc _ _ _ (by simp)).trans (World.alloc_heap_new w2 _)
 rw [←hW1,←hl]
 obtain ⟨D,hD⟩:∃ D,D=w2.heap.size:=⟨_,rfl⟩
 have hDl:D<l:=by omega
 rw [←hD] at hD1 ⊢
 have hgc:g<w1.heap.size:=by omega
 have hDc:D=w1.heap.size+2:=by omega
 have hgw:w.heap.size+1<g:=by omega
 clear hW1 hl
 have hI0:PInv w l D g w1.heap.size (w1.heap.size+1) (w.heap.size+1) bb ob cap q0 ks u 0 W1:=⟨hl1,hD1,(hbl1.cell (block_lt_of_cell hcc)).trans hcc,(hbl1.cell (block_lt_of_cell hpc)).trans hpc,fun q hq=>((hb2.trans (hbl1.mono hb2.size)).cell (p:=⟨bb,ob+q,none⟩) hbl).trans (hc q hq),r0.still hbl1,r8.still hbl1,r16.still hbl1,hr2.still hbl1,hb2.trans (hbl1.mono hb2.size)⟩
 have hY:∀ j V,j<255→PInv w l D g w1.heap.size (w1.heap.size+1) (w.heap.size+1) bb ob cap q0 ks u j V→YieldAt Fence.wide (n - 1 - 1) Tryz.prog l #[.bool (bitN ks (254 - j))] V fun e W'=>e = .returned (.bool true)∧PInv w l D g w1.heap.size (w1.heap.size+1) (w.heap.size+1) bb ob cap q0 ks u (j+1) W':=by
  intro j V hj hI
  refine yield_round hI.lp (by rw [e5];rfl) ?_
  rw [e4,e5,e6,e7]
  obtain ⟨V2,hV2⟩:∃ V2,V2=V.putObj l (.loop { q0 with state := .busy }):=⟨_,rfl⟩
  have hbV:But (fun k=>k=l) V V2:=by rw [hV2];exact but_put _ _ _
  have hlV:V2.heap[l]? = some (.loop { q0 with state := .busy }):=by rw [hV2];exact World.putObj_heap_same (Array.getElem?_eq_some_iff.1 hI.lp).1
  have hDV:V2.heap[D]? = some (.deferred (some [])):=(hbV.block _ (Array.getElem?_eq_some_iff.1 hI.dfr).1 (by omega)).trans hI.dfr
  have hcV:=hbV.cell hI.cc (by omega)
  have hpV:=hbV.cell hI.pc (by omega)
  have hsV:=BytesIn.but hI.bs hbV (by omega)
  have hbeg:(Instr.beginRound l).run Tryz.prog V = .ok () V2:=by rw [hV2];exact run_beginRound hI.lp e1
  have hR:=rung_any u g hu (bitN ks (254 - j)) (climbL u ks j) (climbL_ok u hu ks j) V2 (hI.low.but hbV (by omega)) (hI.high.but hbV (by omega)) (hI.un.but hbV (by omega))
  have hrV:=hI.res.but hbV (by omega)
  have hBV:Below w.heap.size w V2:=hI.bel.trans (hbV.below hI.bel.size (by omega))
  have hfin:∀ V3:World,Out g 0 16 V2 V3→RW V3 g 0 (c8 (climbL u ks (j+1)).xl (climbL u ks (j+1)).zl)→RW V3 g 8 (c8 (climbL u ks (j+1)).xh (climbL u ks (j+1)).zh)→RW V3 g 16 (c4 u)→∃ v W',(Instr.endRound l none).run Tryz.prog V3 = .ok v W'∧(Ending.returned v = .returned (.bool true)∧PInv w l D g w1.heap.size (w1.heap.size+1) (w.heap.size+1) bb ob cap q0 ks u (j+1) W'):=by
   intro V3 hO x0 x8 x16
   have hb3:=hO.but
   have hl3:V3.heap[l]? = some (.loop { q0 with state := .busy }):=(hb3.block l (Array.getElem?_eq_some_iff.1 hlV).1 (by omega)).trans hlV
   have hrec:({ { q0 with state := .busy } with state := .ready,pending:=none }:Loop)=q0:=loop_back q0 e1 e2
   have hb5:=but_put V3 l (.loop q0)
   refine ⟨_,_,run_endRound none hl3,rfl,?_⟩
   simp only [Option.isNone_none,if_true,hrec]
   have hD3:=(hb3.block D (Array.getElem?_eq_some_iff.1 hDV).1 (by omega)).trans hDV
   exact ⟨World.putObj_heap_same (Array.getElem?_eq_some_iff.1 hl3).1,(hb5.block D (Array.getElem?_eq_some_iff.1 hD3).1 (by omega)).trans hD3,hb5.cell (hb3.cell hcV (by omega)) (by omega),hb5.cell (hb3.cell hpV (by omega)) (by omega),BytesIn.but (BytesIn.but hsV hb3 (by omega)) hb5 (by omega),x0.but hb5 (by omega),x8.but hb5 (by omega),x16.but hb5 (by omega),(hrV.but hb3 (by omega)).but hb5 (by omega),(hBV.trans (hb3.below hBV.size (by omega))).trans (hb5.below (Nat.le_trans hBV.size hb3.size) (by omega))⟩
  clear hV2 hI e1 e2 e4 e5 e6 e7 hI0 hbV hrV hBV hDV hlV hsV hpV
  gi_wp2
  try (refine ⟨V2,hbeg,?_⟩;gi_wp2_with (refine ⟨trivial,(fun h=>by cases h),?_⟩;gi_at_call 257;refine (callsIn_wide.2 hR).mono ?_;clear hR;rintro e V3 ⟨rfl,hO,x0,x8,x16⟩))
  exact hfin V3 hO x0 x8 x16
 refine (iter_in (n - 1) l (w1.heap.size+1) bb ob cap ks (PInv w l D g w1.heap.size (w1.heap.size+1) (w.heap.size+1) bb ob cap q0 ks u) (fun j W h=>h.pc) (fun j W h=>h.bs) hks hY W1 hI0).mono ?_
 rintro e W2 ⟨⟨v,rfl⟩,hF⟩
 obtain ⟨V,hV⟩:∃ V,V=W2.putObj l (.loop { q0 with state := .exhausted }):=⟨_,rfl⟩
 have hbV:But (fun k=>k=l) W2 V:=by rw [hV];exact but_put _ _ _
 have hDV:V.heap[D]? = some (.deferred (some [])):=(hbV.block _ (Array.getElem?_eq_some_iff.1 hF.dfr).1 (by omega)).trans hF.dfr
 have hcV:=hbV.cell hF.cc (by omega)
 have hBV:Below w.heap.size w V:=hF.bel.trans (hbV.below hF.bel.size (by omega))
 have hlow:=hF.low.but hbV (by omega)
 have hres:=hF.res.but hbV (by omega)
 have hok:=climbL_ok u hu ks 255
 have hval:=fun W=>value_any (climbL u ks 255).xl (climbL u ks 255).zl (finv (climbL u ks 255).zl) (mulL ks u) (fun W=>inverse_any _ hok.zl W) (fun W=>times_any _ _ hok.xl (finv_lt _) W) W
 refine ⟨none,V,?_,?_⟩
 · have h:=run_endLoop (P:=Tryz.prog) hF.lp (by rw [e1];simp)
   rw [←hV,e2] at h
   exact h
 clear hV hY hI0 e1 e2 e4 e5 e6 e7 hb1 hbl1 hl1 hD1 hF hok
 have rlow:=hlow.range
 have tres:=hres.there
 have hD':D<V.heap.size:=(Array.getElem?_eq_some_iff.1 hDV).1
 obtain ⟨xx,zz,hxx⟩:∃ xx zz,c8 (climbL u ks 255).xl (climbL u ks 255).zl=c8 xx zz∧ratV (climbL u ks 255).xl (climbL u ks 255).zl=ratV xx zz:=⟨_,_,rfl,rfl⟩
 rw [hxx.1] at rlow
 rw [hxx.2] at hval
 clear hxx hlow
 rw [←HN.out] at hval
 have hval':∀ W,Calls Tryz.prog 258 #[.agg (c8 xx zz).toArray] W fun e w'=>e = .returned (.agg (c4 N).toArray)∧Below W.heap.size W w':=hval
 clear hval HN
 gi_wp2_with (first
  | (refine wpListIn_load_mid rfl 277 _ rfl g 0 rfl (c8 xx zz) _ rlow Tryz.underlying277 rfl info8 ?_)
  | (refine ⟨trivial,(fun h=>by cases h),?_⟩;gi_at_call 258;refine (callsIn_wide.2 (hval' _)).mono ?_;clear hval' rlow;rintro e W3 ⟨rfl,hb3⟩;(have hres3:=hres.still hb3);(have t3:W3.there (w.heap.size+1) 0 (c4 N).toArray.size:=hres3.there))
  | (refine wpListIn_store_mid rfl 75 _ _ rfl (w.heap.size+1) 0 (c4 N).toArray rfl rfl t3 (info4a N) (one4 N) ?_))
 subst hDc
 dsimp only [Act.put]
 have hD3:W3.heap[w1.heap.size+2]? = some (.deferred (some [])):=(hb3.block (w1.heap.size+2) hD').trans hDV
 have hD4:(W3.setCells (w.heap.size+1) 0 (c4 N)).heap[w1.heap.size+2]? = some (.deferred (some [])):=(heap_setCells_other _ _ _ _ _ (by omega)).trans hD3
 have hr4:RW (W3.setCells (w.heap.size+1) 0 (c4 N)) (w.heap.size+1) 0 (c4 N):=hres3.stored (c4 N) rfl
 have hB4:Below w.heap.size w (W3.setCells (w.heap.size+1) 0 (c4 N)):=below_setCells (by omega) _ _ _ (hBV.trans (hb3.mono hBV.size))
 have hbV2:=but_put (W3.setCells (w.heap.size+1) 0 (c4 N)) (w1.heap.size+2) (.deferred none)
 have hr5:=hr4.but hbV2 (by omega)
 have hB5:=hB4.trans (hbV2.below hB4.size (by omega))
 refine ⟨by simp,.inl ⟨_,_,rfl,run_takeDeferred hD4,?_⟩⟩
 exact ⟨_,results_cell_mid Tryz.results229 _ _ (w.heap.size+1) 0 (c4 N) _ rfl hr5.range Tryz.underlying75 rfl info4,rfl,hB5⟩
theorem lproduct_any (bb ob cap:Nat) (ks:Nat→Nat) (hks:∀ q,ks q<256) (u:Nat) (hu:u<pF) (w:World) (hc:∀ j,j<32→w.cell? ⟨bb,ob+j,none⟩=some (.int .u8 (ks j))) :
 Calls Tryz.prog 229 #[.slice (some ⟨bb,ob,none⟩) 32 cap,numV u] w fun e w'=>e = .returned (numV (mulL ks u))∧Below w.heap.size w w' :=
 callsIn_wide.1 (product_in 9 bb ob cap ks hks u hu w hc)
end Go.Proofs.YtibdhadbflfdpaaGreatDoor
namespace Go.Proofs.YtibdhadbflfdpaaGreatDoor
open Go.RowKit
theorem byt_small (n j:Nat) (hn:n<256):(if j=0 then n else 0)=byt n j:=by
 unfold byt
 by_cases e:j=0
 · rw [if_pos e,e];simp;omega
 · have h:256≤256 ^ j:=by
    have:=Nat.pow_le_pow_right (n:=256) (by decide) (show 1≤j by omega)
    simpa using this
   rw [if_neg e,Nat.div_eq_of_lt (by omega)]
theorem NewB.still {w w' w2:World} {v:Value} {n:Nat} {X:Nat→Nat} (h:NewB w w' v n X) (h0:0<n) (hb:Below w'.heap.size w' w2):NewB w w2 v n X:=by
 obtain ⟨g,rfl,hg,hr⟩:=h
 exact ⟨g,rfl,hg,hr.below hb (block_lt_of_cell (hr 0 h0).1)⟩
theorem byt_all (n:Nat):∀ j,byt n j<256:=fun j=>byt_lt n j
theorem ofB_byt32 (n:Nat) (h:n<115792089237316195423570985008687907853269984665640564039457584007913129639936):ofB (byt n) 32=n:=by
 rw [ofB_byt,show (256:Nat) ^ 32=115792089237316195423570985008687907853269984665640564039457584007913129639936 from rfl,Nat.mod_eq_of_lt h]
theorem ans_str {W:World} {v:Value} {n:Nat} {X:Nat→Nat} (h:BytesIn W v n X) (hX:∀ j,X j<256):∃ xo c,v = .slice xo n c∧∀ W',Below W.heap.size W W'→(convert 22 9 v).run Tryz.prog W' = .ok (.string (strB n X)) W':=by
 have hc:=h.conv hX
 obtain ⟨xo,c,rfl,-⟩:=h.src
 exact ⟨xo,c,rfl,hc⟩
structure Str (W:World) (v:Value) (S:ByteArray):Prop where
 form:∃ xo n c,v = .slice xo n c
 conv:∀ W',Below W.heap.size W W'→(convert 22 9 v).run Tryz.prog W' = .ok (.string S) W'
theorem Str.of {W:World} {v:Value} {n:Nat} {X:Nat→Nat} (h:BytesIn W v n X) (hX:∀ j,X j<256):Str W v (strB n X):=by
 obtain ⟨xo,c,rfl,hc⟩:=ans_str h hX
 exact ⟨⟨xo,n,c,rfl⟩,hc⟩
theorem Str.still {W W2:World} {v:Value} {S:ByteArray} (h:Str W v S) (hb:Below W.heap.size W W2):Str W2 v S:=⟨h.form,fun W' h2=>h.conv W' (hb.trans (h2.mono hb.size))⟩
theorem Str.nil (W:World):Str W (.slice none 0 0) (strB 0 (fun _=>0)):=⟨⟨none,0,0,rfl⟩,fun W' _=>conv_nil W'⟩
theorem infoByte:(Tryz.prog.info? 5).map (·.size)=some 1:=by kernel_rfl
end Go.Proofs.YtibdhadbflfdpaaGreatDoor
namespace Go.Proofs.YtibdhadbflfdpaaGreatDoor
open Go.RowKit
def clB (bs:Nat→Nat) (j:Nat):Nat:=if j=0 then bs 0 / 8*8 else if j=31 then bs 31%64+64 else bs j
theorem clB_lt {bs:Nat→Nat} (h:∀ j,bs j<256) (j:Nat):clB bs j<256:=by
 unfold clB
 have:=h 0;have:=h 31;have:=h j
 split
 · omega
 · split
   · omega
   · exact h j
def loB (bs:Nat→Nat) (j:Nat):Nat:=if j=31 then bs 31%128 else bs j
theorem loB_lt {bs:Nat→Nat} (h:∀ j,bs j<256) (j:Nat):loB bs j<256:=by
 unfold loB
 have:=h 31
 split
 · omega
 · exact h j
theorem and_not7:∀ b:Nat,b<256→bits .andNot .u8 (b:Int) 7=((b / 8*8:Nat):Int):=by decide +kernel
theorem and_not128:∀ b:Nat,b<256→bits .andNot .u8 (b:Int) 128=((b%128:Nat):Int):=by decide +kernel
theorem or_64:∀ b:Nat,b<128→bits .or .u8 (b:Int) 64=((b%64+64:Nat):Int):=by decide +kernel
set_option maxRecDepth 20000 in
set_option maxHeartbeats 2000000 in
theorem clamp_bad (v:Value) (n:Nat) (bs:Nat→Nat) (w:World) (hv:BytesIn w v n bs) (hn:n≠32):Calls Tryz.prog 84 #[v] w fun e w'=>e = .returned (.tuple #[.slice none 0 0,.int .i64 1])∧w'=w:=by
 obtain ⟨xo,c,rfl,hxn,hnc,hsrc⟩:=hv.src
 have h1:¬((n:Int)=32):=by omega
 clear hv hsrc
 go_enter Tryz.func84,Tryz.ntmps84
 go_wp2
 exact bodyPost_ret (results_tmp2 rfl _ _ _) rfl ⟨rfl,rfl⟩
set_option maxRecDepth 20000 in
set_option maxHeartbeats 2000000 in
theorem clamp_good (v:Value) (bs:Nat→Nat) (hbs:∀ j,bs j<256) (w:World) (hv:BytesIn w v 32 bs):Calls Tryz.prog 84 #[v] w fun e w'=>∃ s,e = .returned (.tuple #[s,.int .i64 0])∧NewB w w' s 32 (clB bs)∧Below w.heap.size w w':=by
 have hmk:=make_bytes w 32 32 rfl (by decide)
 obtain ⟨W,hW⟩:∃ W,W=w.alloc (.cells (zb 32) 5):=⟨_,rfl⟩
 have hrow:RowAt .u8 W w.heap.size 0 32 (fun _=>0):=by rw [hW];exact RowAt.fresh (fun j hj=>zb_at 32 j hj)
 have hb:Below w.heap.size w W:=by rw [hW];exact (Below.refl _ _).alloc (Nat.le_refl _) _
 obtain ⟨xo,c,rfl,hxn,hnc,hsrc⟩:=hv.src
 have src:=hsrc W hb
 have hth:=hrow.there
 have hsp:=hrow.splice 0 32 bs (by decide)
 rw [←hW] at hmk
 have hb2:Below w.heap.size w (W.setCells w.heap.size 0 (ints .u8 32 bs)):=below_setCells (Nat.le_refl _) _ _ _ hb
 replace hsp:RowAt .u8 (W.setCells w.heap.size 0 (ints .u8 32 bs)) w.heap.size 0 32 bs:=hsp.congr (fun j hj=>by unfold over;rw [if_pos ⟨Nat.zero_le _,by omega⟩,Nat.sub_zero])
 obtain ⟨V,hV⟩:∃ V,V=W.setCells w.heap.size 0 (ints .u8 32 bs):=⟨_,rfl⟩
 rw [←hV] at hsp hb2
 have HV:=Hid.mk' hV
 clear hW hv hsrc hV hrow
 have c0:=(hsp 0 (by decide)).1
 have f0:=(hsp 0 (by decide)).2
 have c1:=(hsp 31 (by decide)).1
 have f1:=(hsp 31 (by decide)).2
 rw [Nat.zero_add] at c0 f0 c1 f1
 have e1:=and_not7 (bs 0) (hbs 0)
 have e2:=and_not128 (bs 31) (hbs 31)
 have e3:=or_64 (bs 31%128) (by omega)
 have r1:=hsp.set (i:=0) (by decide) (v:=((bs 0 / 8*8:Nat):Int)) rfl
 rw [Nat.zero_add] at r1
 have r2:=r1.set (i:=31) (by decide) (v:=((bs 31%128:Nat):Int)) rfl
 rw [Nat.zero_add] at r2
 have r3:=r2.set (i:=31) (by decide) (v:=((bs 31%128%64+64:Nat):Int)) rfl
 rw [Nat.zero_add] at r3
 generalize ((bs 0 / 8*8:Nat):Int)=b0 at *
 generalize hb1:((bs 31%128:Nat):Int)=b1 at *
 generalize ((bs 31%128%64+64:Nat):Int)=b3 at *
 clear hb1
 go_enter Tryz.func84,Tryz.ntmps84
 go_wp2_with (first
  | rw [hmk]
  | (refine wpList_copy_bytes rfl _ _ 22 22 rfl 5 Tryz.underlying22 infoByte w.heap.size 0 32 32 xo 32 c rfl rfl 32 bs src rfl hth ?_;rw [←HV.out];clear src hth HV hmk))
 refine bodyPost_ret (results_tmp2 rfl _ _ _) rfl ⟨_,rfl,⟨w.heap.size,rfl,Nat.le_refl _,r3.congr (fun j hj => ?_)⟩,?_⟩
 · unfold upd clB
   by_cases h31:j=31
   · rw [if_pos h31,if_neg (by omega),if_pos h31];omega
   · simp only [if_neg h31]
 · exact below_setCells (Nat.le_refl _) [_] 31 _ (below_setCells (Nat.le_refl _) [_] 31 _ (below_setCells (Nat.le_refl _) [_] 0 _ hb2))
set_option maxRecDepth 20000 in
set_option maxHeartbeats 2000000 in
theorem pointOf_bad (v:Value) (n:Nat) (bs:Nat→Nat) (w:World) (hv:BytesIn w v n bs) (hn:n≠32):Calls Tryz.prog 228 #[v] w fun e w'=>e = .returned (.tuple #[numV 0,.int .i64 1])∧Below w.heap.size w w':=by
 obtain ⟨xo,c,rfl,hxn,hnc,hsrc⟩:=hv.src
 have h1:¬((n:Int)=32):=by omega
 have hr:=fresh4' w
 clear hv hsrc
 go_enter Tryz.func228,Tryz.ntmps228
 go_wp2
 exact bodyPost_ret (results_cell_tmp Tryz.results228 _ _ w.heap.size 0 (c4 0) _ rfl hr.range Tryz.underlying75 rfl info4) rfl ⟨rfl,(Below.refl _ _).alloc (Nat.le_refl _) _⟩
set_option maxRecDepth 20000 in
set_option maxHeartbeats 2000000 in
theorem pointOf_good (v:Value) (bs:Nat→Nat) (hbs:∀ j,bs j<256) (w:World) (hv:BytesIn w v 32 bs):Calls Tryz.prog 228 #[v] w fun e w'=>e = .returned (.tuple #[numV (ofB (loB bs) 32%pF),.int .i64 0])∧Below w.heap.size w w':=by
 obtain ⟨Z,hZ⟩:∃ Z,Z=w.alloc (.cells #[.int .u64 0,.int .u64 0,.int .u64 0,.int .u64 0] 75):=⟨_,rfl⟩
 have hZr:RW Z w.heap.size 0 (c4 0):=by rw [hZ];exact fresh4' w
 have hZb:Below w.heap.size w Z:=by rw [hZ];exact (Below.refl _ _).alloc (Nat.le_refl _) _
 have HZ:=Hid.mk' hZ
 clear hZ
 have hmk:=make_bytes Z 32 32 rfl (by decide)
 obtain ⟨W,hW⟩:∃ W,W=Z.alloc (.cells (zb 32) 5):=⟨_,rfl⟩
 have hrow:RowAt .u8 W Z.heap.size 0 32 (fun _=>0):=by rw [hW];exact RowAt.fresh (fun j hj=>zb_at 32 j hj)
 have hb:Below Z.heap.size Z W:=by rw [hW];exact (Below.refl _ _).alloc (Nat.le_refl _) _
 obtain ⟨xo,c,rfl,hxn,hnc,hsrc⟩:=hv.src
 have src:=hsrc W (below_next hZb hb)
 have hth:=hrow.there
 have hsp:=hrow.splice 0 32 bs (by decide)
 rw [←hW] at hmk
 have hb2:Below Z.heap.size Z (W.setCells Z.heap.size 0 (ints .u8 32 bs)):=below_setCells (Nat.le_refl _) _ _ _ hb
 replace hsp:RowAt .u8 (W.setCells Z.heap.size 0 (ints .u8 32 bs)) Z.heap.size 0 32 bs:=hsp.congr (fun j hj=>by unfold over;rw [if_pos ⟨Nat.zero_le _,by omega⟩,Nat.sub_zero])
 obtain ⟨V,hV⟩:∃ V,V=W.setCells Z.heap.size 0 (ints .u8 32 bs):=⟨_,rfl⟩
 rw [←hV] at hsp hb2
 have HV:=Hid.mk' hV
 clear hW hv hsrc hV hrow
 have c1:=(hsp 31 (by decide)).1
 have f1:=(hsp 31 (by decide)).2
 rw [Nat.zero_add] at c1 f1
 have e2:=and_not128 (bs 31) (hbs 31)
 have r2:=hsp.set (i:=31) (by decide) (v:=((bs 31%128:Nat):Int)) rfl
 rw [Nat.zero_add] at r2
 generalize ((bs 31%128:Nat):Int)=b1 at *
 replace r2:=r2.congr (Y:=loB bs) (fun j hj=>by unfold upd loB;rfl)
 obtain ⟨V2,hV2⟩:∃ V2,V2=V.setCell ⟨Z.heap.size,31,none⟩ (.int .u8 b1):=⟨_,rfl⟩
 rw [←hV2] at r2
 have hb3:Below Z.heap.size Z V2:=by rw [hV2];exact below_setCells (Nat.le_refl _) [_] 31 _ hb2
 have HV2:=Hid.mk' hV2
 clear hV2
 have hF:=from_any (.slice (some ⟨Z.heap.size,0,none⟩) 32 32) 32 (loB bs) (loB_lt hbs) V2 (.inr ⟨Z.heap.size,0,32,rfl,block_lt_of_cell (r2 0 (by decide)).1,Nat.le_refl _,fun j hj=>(r2 j hj).1⟩)
 obtain ⟨N,hN⟩:∃ N,N=ofB (loB bs) 32%pF:=⟨_,rfl⟩
 rw [show fromN 32 (loB bs)=N from hN.symm,show fromE 32=0 from rfl] at hF
 rw [←hN]
 clear hN
 have hF':Calls Tryz.prog 172 #[.slice (some ⟨Z.heap.size,0,none⟩) 32 32] V2 fun e w'=>e = .returned (.tuple #[.agg (c4 N).toArray,.int .i64 0])∧Below V2.heap.size V2 w':=hF
 clear hF
 have hZr2:=hZr.still hb3
 have hbw:Below w.heap.size w V2:=below_next hZb hb3
 clear hb hb2 hb3 hZr r2
 go_enter Tryz.func228,Tryz.ntmps228
 go_wp2_with (first
  | (rw [←HZ.out];rw [hmk])
  | (refine wpList_copy_bytes rfl _ _ 22 22 rfl 5 Tryz.underlying22 infoByte Z.heap.size 0 32 32 xo 32 c rfl rfl 32 bs src rfl hth ?_;rw [←HV.out];clear src hth HV hmk)
  | (go_at_call 172;rw [←HV2.out];refine hF'.mono ?_;clear hF' HV2;rintro e w3 ⟨rfl,hb3⟩;(have hZr3:=hZr2.still hb3);(have t3:w3.there w.heap.size 0 (c4 N).toArray.size:=hZr3.there))
  | (with_reducible (refine id (?_:wpList _ _ _ _ _ _));refine wpList_store_mid rfl 75 _ _ rfl w.heap.size 0 (c4 N).toArray rfl rfl t3 (info4a N) (one4 N) ?_))
 exact bodyPost_ret (results_cell_tmp Tryz.results228 _ _ w.heap.size 0 (c4 N) _ rfl (hZr3.stored (c4 N) rfl).range Tryz.underlying75 rfl info4) rfl ⟨rfl,below_setCells (Nat.le_refl _) _ _ _ (below_next hbw hb3)⟩
end Go.Proofs.YtibdhadbflfdpaaGreatDoor
namespace Go.Proofs.YtibdhadbflfdpaaGreatDoor
open Go.RowKit
set_option maxRecDepth 20000 in
set_option maxHeartbeats 2000000 in
theorem lmul_key (v u:Value) (n:Nat) (bs:Nat→Nat) (w:World) (hv:BytesIn w v n bs) (hn:n≠32):Calls Tryz.prog 192 #[v,u] w fun e w'=>e = .returned (.tuple #[.slice none 0 0,.int .i64 1])∧Below w.heap.size w w':=by
 have hC:=clamp_bad v n bs w hv hn
 go_enter Tryz.func192,Tryz.ntmps192
 go_wp2_with (go_at_call 84;refine hC.mono ?_;clear hC;rintro e w1 ⟨rfl,rfl⟩)
 exact bodyPost_ret (results_tmp2 rfl _ _ _) rfl ⟨rfl,Below.refl _ _⟩
set_option maxRecDepth 20000 in
set_option maxHeartbeats 2000000 in
theorem lmul_point (v u:Value) (m:Nat) (bs cs:Nat→Nat) (hbs:∀ j,bs j<256) (w:World) (hv:BytesIn w v 32 bs) (hu:BytesIn w u m cs) (hm:m≠32):Calls Tryz.prog 192 #[v,u] w fun e w'=>e = .returned (.tuple #[.slice none 0 0,.int .i64 1])∧Below w.heap.size w w':=by
 have hC:=clamp_good v bs hbs w hv
 have hP:∀ W,BytesIn W u m cs→Calls Tryz.prog 228 #[u] W fun e w'=>e = .returned (.tuple #[.agg #[.int .u64 0,.int .u64 0,.int .u64 0,.int .u64 0],.int .i64 1])∧Below W.heap.size W w':=fun W h=>by
  have:=pointOf_bad u m cs W h hm
  rw [numV_zero] at this;exact this
 go_enter Tryz.func192,Tryz.ntmps192
 go_wp2_with (first
  | (go_at_call 84;refine hC.mono ?_;clear hC;rintro e w1 ⟨s,rfl,hs,hb1⟩)
  | (go_at_call 228;refine (hP _ (hu.still hb1)).mono ?_;clear hP;rintro e w2 ⟨rfl,hb2⟩))
 exact bodyPost_ret (results_tmp2 rfl _ _ _) rfl ⟨rfl,by first | exact below_next hb1 (hb2.alloc hb2.size _) | exact below_next hb1 hb2⟩
set_option maxRecDepth 20000 in
set_option maxHeartbeats 2000000 in
theorem lmul_good (v u:Value) (bs cs:Nat→Nat) (hbs:∀ j,bs j<256) (hcs:∀ j,cs j<256) (w:World) (hv:BytesIn w v 32 bs) (hu:BytesIn w u 32 cs):Calls Tryz.prog 192 #[v,u] w fun e w'=>∃ s,e = .returned (.tuple #[s,.int .i64 0])∧NewB w w' s 32 (byt (mulL (clB bs) (ofB (loB cs) 32%pF)))∧Below w.heap.size w w':=by
 have hC:=clamp_good v bs hbs w hv
 obtain ⟨N,hN⟩:∃ N,N=ofB (loB cs) 32%pF:=⟨_,rfl⟩
 have hNl:N<pF:=by rw [hN];exact Nat.mod_lt _ (by decide)
 have hP:∀ W,BytesIn W u 32 cs→Calls Tryz.prog 228 #[u] W fun e w'=>e = .returned (.tuple #[.agg (c4 N).toArray,.int .i64 0])∧Below W.heap.size W w':=fun W h=>by
  have:=pointOf_good u cs hcs W h
  rw [←hN] at this;exact this
 rw [←hN]
 clear hN
 obtain ⟨M,hM⟩:∃ M,M=mulL (clB bs) N:=⟨_,rfl⟩
 rw [←hM]
 have hQ:∀ g W,RowAt .u8 W g 0 32 (clB bs)→Calls Tryz.prog 229 #[.slice (some ⟨g,0,none⟩) 32 32,.agg (c4 N).toArray] W fun e w'=>e = .returned (numV M)∧Below W.heap.size W w':=fun g W h=>by
  have:=lproduct_any g 0 32 (clB bs) (clB_lt hbs) N hNl W (fun j hj=>(h j hj).1)
  rw [←hM] at this;exact this
 have hB:=fun W=>bytes_any M W
 clear hM
 go_enter Tryz.func192,Tryz.ntmps192
 go_wp2_with (first
  | (go_at_call 84;refine hC.mono ?_;clear hC;rintro e w1 ⟨s,rfl,⟨g,rfl,hg,hr⟩,hb1⟩)
  | (go_at_call 228;refine (hP _ (hu.still hb1)).mono ?_;clear hP;rintro e w2 ⟨rfl,hb2⟩;(have t2:=fresh4t w2 N);(have z2:=fresh4' w2);(obtain ⟨V,hV⟩:∃ V,V=(w2.alloc (.cells #[.int .u64 0,.int .u64 0,.int .u64 0,.int .u64 0] 75)).setCells w2.heap.size 0 (c4 N):=⟨_,rfl⟩);(have rN:RW V w2.heap.size 0 (c4 N):=by rw [hV];exact z2.stored (c4 N) rfl);(have bV:Below w2.heap.size w2 V:=by rw [hV];exact below_setCells (Nat.le_refl _) _ _ _ ((Below.refl _ _).alloc (Nat.le_refl _) _));(have HV:=Hid.mk' hV);clear hV z2)
  | (with_reducible (refine id (?_:wpList _ _ _ _ _ _));refine wpList_store_mid rfl 75 _ _ rfl w2.heap.size 0 (c4 N).toArray rfl rfl t2 (info4a N) (one4 N) ?_;rw [List.toList_toArray,←HV.out];clear t2 HV)
  | (refine wpList_load_mid rfl 75 _ rfl w2.heap.size 0 rfl (c4 N) _ rN.range Tryz.underlying75 rfl info4 ?_)
  | (go_at_call 229;refine (hQ g _ ((hr.below hb2 (block_lt_of_cell (hr 0 (by decide)).1)).below bV (Nat.lt_of_lt_of_le (block_lt_of_cell (hr 0 (by decide)).1) hb2.size))).mono ?_;clear hQ;rintro e w3 ⟨rfl,hb3⟩)
  | (go_at_call 160;refine (hB _).mono ?_;clear hB;rintro e w4 ⟨g4,rfl,hg4,hr4,hb4⟩))
 have s1:=hb1.size
 have s2:=hb2.size
 have s3:=bV.size
 have s4:=hb3.size
 exact bodyPost_ret (results_tmp2 rfl _ _ _) rfl ⟨_,rfl,⟨g4,rfl,by omega,hr4⟩,(((hb1.trans (hb2.mono s1)).trans (bV.mono (by omega))).trans (hb3.mono (by omega))).trans (hb4.mono (by omega))⟩
end Go.Proofs.YtibdhadbflfdpaaGreatDoor
namespace Go.Proofs.YtibdhadbflfdpaaGreatDoor
open Go.RowKit
theorem nine_of:ofB (loB (byt 9)) 32%pF=9:=by kernel_rfl
end Go.Proofs.YtibdhadbflfdpaaGreatDoor
namespace Go.Proofs.YtibdhadbflfdpaaGreatDoor
open Go.RowKit
set_option maxRecDepth 20000 in
set_option maxHeartbeats 2000000 in
theorem public_good (v:Value) (bs:Nat→Nat) (hbs:∀ j,bs j<256) (w:World) (hv:BytesIn w v 32 bs):Calls Tryz.prog 147 #[v] w fun e w'=>∃ s,e = .returned (.tuple #[s,.int .i64 0])∧NewB w w' s 32 (byt (mulL (clB bs) 9))∧Below w.heap.size w w':=by
 have hS:=fun W=>fsmall_pos 9 (by decide) W
 have hB:=fun W=>bytes_any 9 W
 have hM:∀ u W,BytesIn W u 32 (byt 9)→Below w.heap.size w W→Calls Tryz.prog 192 #[v,u] W fun e w'=>∃ s,e = .returned (.tuple #[s,.int .i64 0])∧NewB W w' s 32 (byt (mulL (clB bs) 9))∧Below W.heap.size W w':=fun u W h hb=>by
  have:=lmul_good v u bs (byt 9) hbs (byt_all 9) W (hv.still hb) h
  rwa [nine_of] at this
 go_enter Tryz.func147,Tryz.ntmps147
 go_wp2_with (first
  | (go_at_call 157;refine (hS _).mono ?_;clear hS;rintro e w1 ⟨rfl,hb1⟩)
  | (go_at_call 160;refine (hB _).mono ?_;clear hB;rintro e w2 ⟨g,rfl,hg,hr,hb2⟩)
  | (go_at_call 192;refine (hM _ _ (.inr ⟨g,0,32,rfl,block_lt_of_cell (hr 0 (by decide)).1,Nat.le_refl _,fun j hj=>(hr j hj).1⟩) (below_next hb1 hb2)).mono ?_;clear hM;rintro e w3 ⟨s,rfl,hs,hb3⟩))
 obtain ⟨g3,rfl,hg3,hr3⟩:=hs
 have s1:=hb1.size
 have s2:=hb2.size
 exact bodyPost_ret (results_tmp2 rfl _ _ _) rfl ⟨_,rfl,⟨g3,rfl,by omega,hr3⟩,below_next (below_next hb1 hb2) hb3⟩
set_option maxRecDepth 20000 in
set_option maxHeartbeats 2000000 in
theorem allZero_yes (g:Nat) (w:World) (X:Nat→Nat) (hX:∀ j,j<32→X j=0) (hr:RowAt .u8 w g 0 32 X):Calls Tryz.prog 193 #[.slice (some ⟨g,0,none⟩) 32 32] w fun e w'=>e = .returned (.bool true)∧w'=w:=by
 go_enter Tryz.func193,Tryz.ntmps193
 go_wp2
 go_loopw [4,7] (fun _ i wr=>wr=w∧∃ k:Nat,k≤32∧i = .int .i64 (k:Int)) (fun _ i _=>32 - (intOf i).toNat)
 case atStart=>exact ⟨rfl,0,by decide,by go_num⟩
 case round =>
  obtain ⟨hw,k,hk,rfl⟩:=hrel
  rw [hw]
  clear hw
  by_cases hk2:k<32
  · have hc:=(hr k hk2).1
    rw [Nat.zero_add,hX k hk2] at hc
    have h1:(k:Int)<32:=by omega
    go_wp2
    go_roundw
    case rel=>exact ⟨trivial,k+1,by omega,by go_num⟩
    case measure=>simp [intOf];omega
  · obtain rfl:k=32:=by omega
    go_wp2
    go_ret
    exact ⟨rfl,rfl⟩
set_option maxRecDepth 20000 in
set_option maxHeartbeats 2000000 in
theorem allZero_no (g:Nat) (w:World) (X:Nat→Nat) (hX:∃ j,j<32∧X j≠0) (hr:RowAt .u8 w g 0 32 X):Calls Tryz.prog 193 #[.slice (some ⟨g,0,none⟩) 32 32] w fun e w'=>e = .returned (.bool false)∧w'=w:=by
 go_enter Tryz.func193,Tryz.ntmps193
 go_wp2
 go_loopw [4,7] (fun _ i wr=>wr=w∧∃ k:Nat,k≤32∧i = .int .i64 (k:Int)∧∃ j,k≤j∧j<32∧X j≠0) (fun _ i _=>32 - (intOf i).toNat)
 case atStart =>
  obtain ⟨j,h1,h2⟩:=hX
  exact ⟨rfl,0,by decide,by go_num,j,Nat.zero_le _,h1,h2⟩
 case round =>
  obtain ⟨hw,k,hk,rfl,j,hkj,hj,hne⟩:=hrel
  rw [hw]
  clear hw
  have hk2:k<32:=by omega
  have hc:=(hr k hk2).1
  rw [Nat.zero_add] at hc
  have h1:(k:Int)<32:=by omega
  by_cases h0:X k=0
  · rw [h0] at hc
    have hkj2:k+1≤j:=by
     rcases Nat.eq_or_lt_of_le hkj with h | h
     · exact absurd (h ▸ h0) hne
     · exact h
    go_wp2
    go_roundw
    case rel=>exact ⟨trivial,k+1,by omega,by go_num,j,hkj2,hj,hne⟩
    case measure=>simp [intOf];omega
  · have h2:¬((X k:Int)=0):=by omega
    go_wp2
    go_ret
    exact ⟨rfl,rfl⟩
end Go.Proofs.YtibdhadbflfdpaaGreatDoor
namespace Go.Proofs.YtibdhadbflfdpaaGreatDoor
open Go.RowKit
theorem shared_arg (v u:Value) (w:World) (hM:Calls Tryz.prog 192 #[v,u] w fun e w'=>e = .returned (.tuple #[.slice none 0 0,.int .i64 1])∧Below w.heap.size w w'):Calls Tryz.prog 137 #[v,u] w fun e w'=>e = .returned (.tuple #[.slice none 0 0,.int .i64 1])∧Below w.heap.size w w':=by
 go_enter Tryz.func137,Tryz.ntmps137
 go_wp2_with (go_at_call 192;refine hM.mono ?_;clear hM;rintro e w1 ⟨rfl,hb1⟩)
 exact bodyPost_ret (results_tmp2 rfl _ _ _) rfl ⟨rfl,hb1⟩
theorem shared_none (v u:Value) (N:Nat) (hN:N=0) (w:World) (hM:Calls Tryz.prog 192 #[v,u] w fun e w'=>∃ s,e = .returned (.tuple #[s,.int .i64 0])∧NewB w w' s 32 (byt N)∧Below w.heap.size w w'):Calls Tryz.prog 137 #[v,u] w fun e w'=>e = .returned (.tuple #[.slice none 0 0,.int .i64 30])∧Below w.heap.size w w':=by
 have hA:=fun g W=>allZero_yes g W (byt N) (fun j _=>by rw [hN];unfold byt;rw [Nat.zero_div])
 go_enter Tryz.func137,Tryz.ntmps137
 go_wp2_with (first
  | (go_at_call 192;refine hM.mono ?_;clear hM;rintro e w1 ⟨s,rfl,⟨g,rfl,hg,hr⟩,hb1⟩)
  | (go_at_call 193;refine (hA g _ hr).mono ?_;clear hA;rintro e w2 ⟨rfl,rfl⟩))
 exact bodyPost_ret (results_tmp2 rfl _ _ _) rfl ⟨rfl,hb1⟩
theorem byt_some {N:Nat} (h:N<115792089237316195423570985008687907853269984665640564039457584007913129639936) (h0:N≠0):∃ j,j<32∧byt N j≠0:=by
 refine Classical.byContradiction fun hn=>h0 ?_
 have hz:∀ j,j<32→byt N j=(fun _=>0:Nat→Nat) j:=fun j hj=>Classical.byContradiction fun hb=>hn ⟨j,hj,hb⟩
 have e:=ofB_byt32 N h
 rw [ofB_congr 32 hz] at e
 exact e.symm.trans (by kernel_rfl)
theorem shared_some (v u:Value) (N:Nat) (hN:N≠0) (hl:N<pF) (w:World) (hM:Calls Tryz.prog 192 #[v,u] w fun e w'=>∃ s,e = .returned (.tuple #[s,.int .i64 0])∧NewB w w' s 32 (byt N)∧Below w.heap.size w w'):Calls Tryz.prog 137 #[v,u] w fun e w'=>∃ s,e = .returned (.tuple #[s,.int .i64 0])∧NewB w w' s 32 (byt N)∧Below w.heap.size w w':=by
 have hA:=fun g W=>allZero_no g W (byt N) (byt_some (Nat.lt_trans hl (by decide)) hN)
 go_enter Tryz.func137,Tryz.ntmps137
 go_wp2_with (first
  | (go_at_call 192;refine hM.mono ?_;clear hM;rintro e w1 ⟨s,rfl,⟨g,rfl,hg,hr⟩,hb1⟩)
  | (go_at_call 193;refine (hA g _ hr).mono ?_;clear hA;rintro e w2 ⟨rfl,rfl⟩))
 exact bodyPost_ret (results_tmp2 rfl _ _ _) rfl ⟨_,rfl,⟨g,rfl,hg,hr⟩,hb1⟩
end Go.Proofs.YtibdhadbflfdpaaGreatDoor
namespace Go.Proofs.YtibdhadbflfdpaaGreatDoor
open Go.RowKit
theorem and_248:∀ b:Nat,b<256→bits .and .u8 (b:Int) 248=((b / 8*8:Nat):Int):=by decide +kernel
theorem and_127:∀ b:Nat,b<256→bits .and .u8 (b:Int) 127=((b%128:Nat):Int):=by decide +kernel
def NewC (w w':World) (v:Value) (n:Nat) (X:Nat→Nat):Prop:=∃ g cap,v = .slice (some ⟨g,0,none⟩) n cap∧n≤cap∧w.heap.size≤g∧RowAt .u8 w' g 0 n X
theorem NewC.bytes {w w':World} {v:Value} {n:Nat} {X:Nat→Nat} (h:NewC w w' v n X) (h0:0<n):BytesIn w' v n X:=by
 obtain ⟨g,cap,rfl,hc,-,hr⟩:=h
 exact .inr ⟨g,0,cap,rfl,block_lt_of_cell (hr 0 h0).1,hc,fun j hj=>(hr j hj).1⟩
set_option maxRecDepth 20000 in
set_option maxHeartbeats 2000000 in
theorem rclamp_good (v:Value) (bs:Nat→Nat) (hbs:∀ j,bs j<256) (w:World) (hv:BytesIn w v 32 bs):Calls Tryz.prog 104 #[v] w fun e w'=>∃ s,e = .returned (.tuple #[s,.int .i64 0])∧NewC w w' s 32 (clB bs)∧Below w.heap.size w w':=by
 obtain ⟨xo,cx,rfl,hxn,-,hsrc⟩:=hv.src
 clear hv
 have src0:=hsrc _ ((Below.refl _ _).alloc (Nat.le_refl _) (.cells #[] 5))
 clear hsrc
 have e1:=and_248 (bs 0) (hbs 0)
 have e2:=and_127 (bs 31) (hbs 31)
 have e3:=or_64 (bs 31%128) (by omega)
 obtain ⟨b0,hb0⟩:∃ b:Int,((bs 0 / 8*8:Nat):Int)=b:=⟨_,rfl⟩
 obtain ⟨b1,hb1'⟩:∃ b:Int,((bs 31%128:Nat):Int)=b:=⟨_,rfl⟩
 obtain ⟨b3,hb3⟩:∃ b:Int,((bs 31%128%64+64:Nat):Int)=b:=⟨_,rfl⟩
 rw [hb0] at e1
 rw [hb1'] at e2 e3
 rw [hb3] at e3
 have H0:=Hid.mk' hb0
 have H3:=Hid.mk' hb3
 clear hb0 hb1' hb3
 go_enter Tryz.func104,Tryz.ntmps104
 go_wp2_with (at_builtin;refine wpList_append_empty rfl (.tmp 8) (.tmp 9) rfl w.heap.size bs _ rfl rfl xo 32 cx rfl src0 hxn (by omega) (Nat.le_refl _) ?_;intro v1 w1 own1 hb1;clear src0;(obtain ⟨g,cap,hv1,hg,hgl,hcap,hrow⟩:∃ g cap,v1 = .slice (some ⟨g,0,none⟩) 32 cap∧w.heap.size≤g∧g<w1.heap.size∧32≤cap∧RowAt .u8 w1 g 0 32 bs:=own1.form.resolve_left (fun h=>by omega));subst hv1;clear own1;(have c0:=(hrow 0 (by decide)).1);(have f0:=(hrow 0 (by decide)).2);(have c1:=(hrow 31 (by decide)).1);(have f1:=(hrow 31 (by decide)).2);rw [Nat.zero_add] at c0 f0 c1 f1)
 have r1:=hrow.set (i:=0) (by decide) (v:=b0) H0.out.symm
 rw [Nat.zero_add] at r1
 have r3:=r1.set (i:=31) (by decide) (v:=b3) H3.out.symm
 rw [Nat.zero_add] at r3
 refine bodyPost_ret (results_tmp2 rfl _ _ _) rfl ⟨_,rfl,⟨g,cap,rfl,hcap,hg,r3.congr (fun j hj => ?_)⟩,?_⟩
 · unfold upd clB
   by_cases h31:j=31
   · rw [if_pos h31,if_neg (by omega),if_pos h31];omega
   · simp only [if_neg h31]
 · exact below_setCells hg [_] 31 _ (below_setCells hg [_] 0 _ hb1)
end Go.Proofs.YtibdhadbflfdpaaGreatDoor
namespace Go.Proofs.YtibdhadbflfdpaaGreatDoor
open Go.RowKit
theorem NewB.src {w w':World} {g:Nat} {X:Nat→Nat} (hr:RowAt .u8 w' g 0 32 X) (_h:w=w):BytesIn w' (.slice (some ⟨g,0,none⟩) 32 32) 32 X := .inr ⟨g,0,32,rfl,block_lt_of_cell (hr 0 (by decide)).1,Nat.le_refl _,fun j hj=>(hr j hj).1⟩
theorem set_one {w w1:World} {g b:Nat} {X:Nat→Nat} (hr:RowAt .u8 w1 g 0 32 X) (hb:Below b w w1) (hg:b≤g) (i c:Nat) (hi:i<32):∃ V,V=w1.setCell ⟨g,i,none⟩ (.int .u8 (c:Int))∧RowAt .u8 V g 0 32 (upd X i c)∧Below b w V:=by
 have r:=hr.set (i:=i) hi (v:=(c:Int)) rfl
 rw [Nat.zero_add] at r
 exact ⟨_,rfl,r,below_setCells hg [_] i _ hb⟩
theorem cap_src {w:World} {g cap:Nat} {X:Nat→Nat} (hr:RowAt .u8 w g 0 32 X) (hc:32≤cap):BytesIn w (.slice (some ⟨g,0,none⟩) 32 cap) 32 X := .inr ⟨g,0,cap,rfl,block_lt_of_cell (hr 0 (by decide)).1,hc,fun j hj=>(hr j hj).1⟩
theorem put1 (c:Nat):∀ (w w1:World) (g:Nat) (X:Nat→Nat),RowAt .u8 w1 g 0 32 X→Below w.heap.size w w1→w.heap.size≤g→∃ V,V=w1.setCell ⟨g,31,none⟩ (.int .u8 (c:Int))∧RowAt .u8 V g 0 32 (upd X 31 c)∧Below w.heap.size w V:=fun w w1 g X hr hb hg=>set_one hr hb hg 31 c (by decide)
end Go.Proofs.YtibdhadbflfdpaaGreatDoor
