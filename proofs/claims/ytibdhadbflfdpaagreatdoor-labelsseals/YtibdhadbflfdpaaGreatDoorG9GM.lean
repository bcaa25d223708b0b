/- What the proof stands on: G9G, G9J, G9E. -/
import Derived.Test.YtibdhadbflfdpaaGreatDoorA8BlcM
import Derived.Test.YtibdhadbflfdpaaGreatDoorG9BM
import Derived.Test.YtibdhadbflfdpaaGreatDoorG9MathM
import Derived.Test.YtibdhadbflfdpaaGreatDoorG9RUM
namespace Go.Proofs.YtibdhadbflfdpaaGreatDoor
open Go.RowKit Go.Shelf
attribute [local go_sem] Oper.semAt_some
def hsV (h s:V8) (n:Nat) (X:Nat→Nat):Nat→V8
 | 0=>s
 | k+1=>gTm (hsV h s n X k ^^^ blkT n X k) h
def hsC (h:V8) (N:Nat→Nat) (X:Nat→Nat→Nat):Nat→V8
 | 0=>vZ
 | i+1=>hsV h (hsC h N X i) (N i) (X i) (nb (N i))
structure HInv (w:World) (l D:Nat) (rec:Loop) (h s:V8) (W:World):Prop where
 lp:W.heap[l]? = some (.loop rec)
 dfr:W.heap[D]? = some (.deferred (some []))
 key:RV W w.heap.size h
 res:RW W (w.heap.size+1) 0 (b2 0 0)
 sum:RV W (w.heap.size+1+1) s
 bel:Below w.heap.size w W
theorem HInv.below {w:World} {l D:Nat} {rec:Loop} {h s:V8} {W W':World} (H:HInv w l D rec h s W) (hb:Below W.heap.size W W'):HInv w l D rec h s W' :=
 ⟨(hb.block l (Array.getElem?_eq_some_iff.1 H.lp).1).trans H.lp,(hb.block D (Array.getElem?_eq_some_iff.1 H.dfr).1).trans H.dfr,H.key.still hb,H.res.still hb,H.sum.still hb,below_next H.bel hb⟩
set_option maxRecDepth 100000 in
set_option maxHeartbeats 4000000 in
theorem hashed_in (n:Nat) (h:V8) (pb lb L:Nat) (N:Nat→Nat) (X:Nat→Nat→Nat) (hX:∀ i j,X i j<256) (U:Nat→Value) (hN:∀ j,N j<4611686018427387904) (hLn:L<1000) (w:World)
 (hlist:w.cell? ⟨pb,0,none⟩=some (.slice (some ⟨lb,0,none⟩) L L)) (hcell:∀ j,j<L→w.cell? ⟨lb,j,none⟩=some (U j)) (hbytes:∀ j,j<L→BytesIn w (U j) (N j) (X j)) :
 CallsIn Fence.wide n Tryz.prog 236 #[blV h,.func (.func 259) #[] #[.pointer (some ⟨pb,0,none⟩)]] w fun e w'=>e = .returned (blV (hsC h N X L))∧Below w.heap.size w w':=by
 obtain ⟨F,hF⟩:∃ F,F=hsC h N X L:=⟨_,rfl⟩
 rw [←hF]
 have HF:=Hid.mk' hF
 clear hF
 unfold blV
 obtain ⟨a0,ha0⟩:∃ x,x=wd h 0:=⟨_,rfl⟩
 obtain ⟨a1,ha1⟩:∃ x,x=wd h 64:=⟨_,rfl⟩
 obtain ⟨f0,hf0⟩:∃ x,x=wd F 0:=⟨_,rfl⟩
 obtain ⟨f1,hf1⟩:∃ x,x=wd F 64:=⟨_,rfl⟩
 rw [←ha0,←ha1,←hf0,←hf1]
 obtain ⟨w2,hw2⟩:∃ V,V=((w.alloc (.cells #[.int .u64 a0,.int .u64 a1] 228)).alloc (.cells #[.int .u64 0,.int .u64 0] 228)).alloc (.cells #[.int .u64 0,.int .u64 0] 228):=⟨_,rfl⟩
 have rS:RV w2 (w.heap.size+1+1) vZ:=by
  have:=RW.fresh ((w.alloc (.cells #[.int .u64 a0,.int .u64 a1] 228)).alloc (.cells #[.int .u64 0,.int .u64 0] 228)) (b2 0 0) 228
  rw [World.size_alloc,World.size_alloc] at this
  rw [hw2];unfold RV;rw [wd_zero,wd_zero];exact this
 have rR:RW w2 (w.heap.size+1) 0 (b2 0 0):=by
  have:=(RW.fresh (w.alloc (.cells #[.int .u64 a0,.int .u64 a1] 228)) (b2 0 0) 228).still ((Below.refl _ _).alloc (Nat.le_refl _) (.cells #[.int .u64 0,.int .u64 0] 228))
  rw [World.size_alloc] at this
  rw [hw2];exact this
 have rK:RV w2 w.heap.size h:=by
  unfold RV
  rw [hw2,←ha0,←ha1];exact ((RW.fresh w (b2 a0 a1) 228).still ((Below.refl _ _).alloc (Nat.le_refl _) _)).still ((Below.refl _ _).alloc (Nat.le_refl _) _)
 have b2':Below w.heap.size w w2:=by rw [hw2];exact (((Below.refl _ _).alloc (Nat.le_refl _) _).alloc (by simp) _).alloc (by simp;omega) _
 have hs2:w2.heap.size=w.heap.size+3:=by rw [hw2];simp
 have Ha0:=Hid.mk' ha0
 have Ha1:=Hid.mk' ha1
 have Hf0:=Hid.mk' hf0
 have Hf1:=Hid.mk' hf1
 have Hw2:=Hid.mk' hw2
 have Hs2:=Hid.mk' hs2
 clear ha0 ha1 hf0 hf1 hw2 hs2
 refine callsIn_of_wp_marks Tryz.func236 rfl trivial ?_ rfl
 simp only [Tryz.ntmps236,List.size_toArray,List.length_cons,List.length_nil,Nat.reduceAdd,Nat.reduceSub,Array.replicate_succ,Array.replicate_zero,List.push_toArray,List.append_toArray,List.nil_append,List.cons_append]
 gi_wp2
 rw [←Hw2.out]
 clear Hw2
 refine wpIn_range_with rfl (fun _=>trivial) (fun h=>by cases h) rfl (enters_of Tryz.func259 (by kernel_rfl) rfl) (fun q0 e1 e2 e4 e5 e6 e7 => ?_)
 have hs2:=Hs2.out
 clear Hs2
 obtain ⟨W1,hW1⟩:∃ W1,W1=(w2.alloc (.deferred (some []))).alloc (.loop q0):=⟨_,rfl⟩
 obtain ⟨l,hl⟩:∃ l,l=w2.heap.size+1:=⟨_,rfl⟩
 have hbl1:Below w2.heap.size w2 W1:=by rw [hW1];exact ((Below.refl _ _).alloc (Nat.le_refl _) _).alloc (by simp) _
 have hl1:W1.heap[l]? = some (.loop q0):=by
  rw [hW1,hl];have:=World.alloc_heap_new (w2.alloc (.deferred (some []))) (.loop q0);rwa [World.size_alloc] at this
 have hD1:W1.heap[w2.heap.size]? = some (.deferred (some [])):=by
  rw [hW1];exact (Below.heap_alloc _ _ _ (by simp)).trans (World.alloc_heap_new w2 _)
 rw [←hW1,←hl]
 obtain ⟨D,hD⟩:∃ D,D=w2.heap.size:=⟨_,rfl⟩
 have hDl:D<l:=by omega
 rw [←hD] at hD1 ⊢
 have hDc:D=w.heap.size+3:=by omega
 clear hW1 hl
 have hI0:HInv w l D q0 h (hsV h (hsC h N X 0) (N 0) (X 0) 0) W1:=⟨hl1,hD1,rK.still hbl1,rR.still hbl1,rS.still hbl1,b2'.trans (hbl1.mono b2'.size)⟩
 have hY:∀ i k V,i<L→16*k<N i→HInv w l D q0 h (hsV h (hsC h N X i) (N i) (X i) k) V→YieldAt Fence.wide (n - 1 - 1) Tryz.prog l #[blV (blkT (N i) (X i) k)] V fun e W'=>e = .returned (.bool true)∧HInv w l D q0 h (hsV h (hsC h N X i) (N i) (X i) (k+1)) W':=by
  intro i k V _ _ hI
  show YieldAt Fence.wide (n - 1 - 1) Tryz.prog l #[blV (blkT (N i) (X i) k)] V fun e W'=>e = .returned (.bool true)∧HInv w l D q0 h (gTm (hsV h (hsC h N X i) (N i) (X i) k ^^^ blkT (N i) (X i) k) h) W'
  generalize hsV h (hsC h N X i) (N i) (X i) k=s at *
  generalize blkT (N i) (X i) k=b at *
  refine yield_round hI.lp (by rw [e5];rfl) ?_
  rw [e4,e5,e6,e7]
  have cp:=fun W=>gplus_any s b W
  have ct:=fun W=>gtimes_any (s ^^^ b) h W
  unfold blV at *
  obtain ⟨x0,hx0⟩:∃ x,x=wd b 0:=⟨_,rfl⟩
  obtain ⟨x1,hx1⟩:∃ x,x=wd b 64:=⟨_,rfl⟩
  obtain ⟨V1,hV1⟩:∃ V1,V1=V.alloc (.cells #[.int .u64 x0,.int .u64 x1] 228):=⟨_,rfl⟩
  have rB:RW V1 V.heap.size 0 (b2 x0 x1):=by rw [hV1];exact RW.fresh _ _ _
  have bV1:Below V.heap.size V V1:=by rw [hV1];exact (Below.refl _ _).alloc (Nat.le_refl _) _
  have hI1:=hI.below bV1
  obtain ⟨V2,hV2⟩:∃ V2,V2=V1.putObj l (.loop { q0 with state := .busy }):=⟨_,rfl⟩
  have hbV:But (fun k=>k=l) V1 V2:=by rw [hV2];exact but_put _ _ _
  have hlV:V2.heap[l]? = some (.loop { q0 with state := .busy }):=by rw [hV2];exact World.putObj_heap_same (Array.getElem?_eq_some_iff.1 hI1.lp).1
  have hDV:V2.heap[D]? = some (.deferred (some [])):=(hbV.block _ (Array.getElem?_eq_some_iff.1 hI1.dfr).1 (by omega)).trans hI1.dfr
  have hlb:l<V.heap.size:=(Array.getElem?_eq_some_iff.1 hI.lp).1
  have hbeg:(Instr.beginRound l).run Tryz.prog V1 = .ok () V2:=by rw [hV2];exact run_beginRound hI1.lp e1
  replace rB:=rB.but hbV (by omega)
  have rK1:=hI1.key.but hbV (by omega)
  have rR1:=hI1.res.but hbV (by omega)
  have rS1:=hI1.sum.but hbV (by omega)
  have hBV:Below w.heap.size w V2:=hI1.bel.trans (hbV.below hI1.bel.size (by omega))
  have hfin:∀ V3:World,Out (w.heap.size+1+1) 0 2 V2 V3→RV V3 (w.heap.size+1+1) (gTm (s ^^^ b) h)→∃ v W',(Instr.endRound l none).run Tryz.prog V3 = .ok v W'∧(Ending.returned v = .returned (.bool true)∧HInv w l D q0 h (gTm (s ^^^ b) h) W'):=by
   intro V3 hO r3
   have hb3:=hO.but
   have hl3:V3.heap[l]? = some (.loop { q0 with state := .busy }):=(hb3.block l (Array.getElem?_eq_some_iff.1 hlV).1 (by omega)).trans hlV
   have hrec:({ { q0 with state := .busy } with state := .ready,pending:=none }:Loop)=q0:=loop_back q0 e1 e2
   have hb5:=but_put V3 l (.loop q0)
   refine ⟨_,_,run_endRound none hl3,rfl,?_⟩
   simp only [Option.isNone_none,if_true,hrec]
   have hD3:=(hb3.block D (Array.getElem?_eq_some_iff.1 hDV).1 (by omega)).trans hDV
   exact ⟨World.putObj_heap_same (Array.getElem?_eq_some_iff.1 hl3).1,(hb5.block D (Array.getElem?_eq_some_iff.1 hD3).1 (by omega)).trans hD3,(rK1.but hb3 (by omega)).but hb5 (by omega),(rR1.but hb3 (by omega)).but hb5 (by omega),r3.but hb5 (by omega),(hBV.trans (hb3.below hBV.size (by omega))).trans (hb5.below (Nat.le_trans hBV.size hb3.size) (by omega))⟩
  have hsV:w.heap.size+1+1<V2.heap.size:=rS1.lt
  have nB:V.heap.size≠w.heap.size+1+1:=by omega
  have nK:w.heap.size≠w.heap.size+1+1:=by omega
  have HV1:=Hid.mk' hV1
  rw [←hx0,←hx1] at cp ⊢
  unfold RV at *
  generalize wd s 0=s0 at *
  generalize wd s 64=s1 at *
  generalize wd (s ^^^ b) 0=p0 at *
  generalize wd (s ^^^ b) 64=p1 at *
  generalize wd h 0=k0 at *
  generalize wd h 64=k1 at *
  generalize wd (gTm (s ^^^ b) h) 0=m0 at *
  generalize wd (gTm (s ^^^ b) h) 64=m1 at *
  clear hV2 hV1 hx0 hx1 hI e1 e2 e4 e5 e6 e7 hI0 hbV hBV hDV hlV hI1 bV1 rR1 hD hDc hDl
  gi_wp2
  rw [←HV1.out]
  refine ⟨V2,hbeg,?_⟩
  gi_wp2
  have hdr:Below V2.heap.size V2 V2.drew:=(Below.refl _ _).drew
  replace rB:=rB.still hdr
  replace rK1:=rK1.still hdr
  replace rS1:=rS1.still hdr
  have hO0:Out (w.heap.size+1+1) 0 2 V2 V2.drew:=Out.drew _
  replace hsV:w.heap.size+1+1<V2.drew.heap.size:=hsV
  refine wpIn_held (S:=fun u=>Out (w.heap.size+1+1) 0 2 V2.drew u) (by kernel_rfl) (by kernel_rfl) (Out.refl _ _ _ _) (fun hS => ?_)
  generalize V2.drew=V3 at *
  refine tlO 1 rB nB hS 228 Tryz.underlying228 info2 ?_
  (try simp only [pS])
  refine tlO 3 rK1 nK hS 228 Tryz.underlying228 info2 ?_
  (try simp only [pS])
  refine lo 0 228 5 rS1 hS Tryz.underlying228 info2 ?_
  (try simp only [pS])
  refine cl 2 (cp _) ?_
  rintro e V4 ⟨rfl,hb4⟩
  refine ⟨_,rfl,Out.of_below hb4 hsV,?_⟩
  (try simp only [pS])
  refine cl 4 (ct _) ?_
  rintro e V5 ⟨rfl,hb5⟩
  have hb45:=below_next hb4 hb5
  refine ⟨_,rfl,Out.of_below hb45 hsV,?_⟩
  (try simp only [pS])
  replace rS1:=rS1.still hb45
  refine so 5 228 5 13 (b2 m0 m1) rS1 rfl ((Out.of_below hb45 hsV).trans (Out.setCells _ _ (Nat.le_refl _) (Nat.le_refl _))) (info2a m0 m1) (one2 m0 m1) (fun r5 => ?_)
  refine wpAnyH_done (by kernel_rfl) ?_ _
  refine OnlyN.normal ?_
  dsimp only [Act.put]
  have hf:=hfin _ (hO0.trans ((Out.of_below hb45 hsV).trans (Out.setCells _ _ (Nat.le_refl _) (Nat.le_refl _)))) r5
  clear hfin ct cp rB rK1 rS1 hb4 hb5 hb45 hS
  gi_wp2
  exact hf
 have hL0:hsV h (hsC h N X L) (N L) (X L) 0=F:=HF.out.symm
 have hcells:∀ i k W,HInv w l D q0 h (hsV h (hsC h N X i) (N i) (X i) k) W→Below w.heap.size w W:=fun _ _ _ H=>H.bel
 refine (giter_in (n - 1) l pb lb L N X hX U (fun i k W=>HInv w l D q0 h (hsV h (hsC h N X i) (N i) (X i) k) W) (fun i k W H=>(H.bel.cell (block_lt_of_cell hlist)).trans hlist) (fun i k W H j hj=>(H.bel.cell (block_lt_of_cell (hcell j hj))).trans (hcell j hj)) (fun i k W H j hj=>(hbytes j hj).keep H.bel) hN hLn (fun i k W W' H hb=>H.below hb) (fun i W H=>H) hY W1 hI0).mono ?_
 rintro e W2 ⟨⟨v,rfl⟩,hG⟩
 rw [hL0] at hG
 obtain ⟨V,hV⟩:∃ V,V=W2.putObj l (.loop { q0 with state := .exhausted }):=⟨_,rfl⟩
 have hbV:But (fun k=>k=l) W2 V:=by rw [hV];exact but_put _ _ _
 have hDV:V.heap[D]? = some (.deferred (some [])):=(hbV.block _ (Array.getElem?_eq_some_iff.1 hG.dfr).1 (by omega)).trans hG.dfr
 have hBV:Below w.heap.size w V:=hG.bel.trans (hbV.below hG.bel.size (by omega))
 have hsum:=hG.sum.but hbV (by omega)
 have hres:=hG.res.but hbV (by omega)
 refine ⟨none,V,?_,?_⟩
 · have h:=run_endLoop (P:=Tryz.prog) hG.lp (by rw [e1];simp)
   rw [←hV,e2] at h
   exact h
 have f0e:=Hf0.out
 have f1e:=Hf1.out
 rw [←f0e,←f1e] at hsum
 have t0:V.there (w.heap.size+1) 0 (b2 f0 f1).toArray.size:=hres.there
 have hD':D<V.heap.size:=(Array.getElem?_eq_some_iff.1 hDV).1
 clear hV hY hI0 e1 e2 e4 e5 e6 e7 hbl1 hl1 hD1 hG hcells hL0 HF Hf0 Hf1 f0e f1e Ha0 Ha1 hlist hcell hbytes hN rS rR rK
 gi_wp2_with (first
  | (refine wpListIn_load_mid rfl 228 _ rfl (w.heap.size+1+1) 0 rfl (b2 f0 f1) _ hsum.range Tryz.underlying228 rfl info2 ?_)
  | (refine wpListIn_store_mid rfl 228 _ _ rfl (w.heap.size+1) 0 (b2 f0 f1).toArray rfl rfl t0 (info2a f0 f1) (one2 f0 f1) ?_))
 subst hDc
 dsimp only [Act.put]
 have hD4:(V.setCells (w.heap.size+1) 0 (b2 f0 f1)).heap[w.heap.size+3]? = some (.deferred (some [])):=(heap_setCells_other _ _ _ _ _ (by omega)).trans hDV
 have hr4:RW (V.setCells (w.heap.size+1) 0 (b2 f0 f1)) (w.heap.size+1) 0 (b2 f0 f1):=hres.stored (b2 f0 f1) rfl
 have hB4:Below w.heap.size w (V.setCells (w.heap.size+1) 0 (b2 f0 f1)):=below_setCells (by omega) _ _ _ hBV
 have hbV2:=but_put (V.setCells (w.heap.size+1) 0 (b2 f0 f1)) (w.heap.size+3) (.deferred none)
 have hr5:=hr4.but hbV2 (by omega)
 have hB5:=hB4.trans (hbV2.below hB4.size (by omega))
 refine ⟨by simp,.inl ⟨_,_,rfl,run_takeDeferred hD4,?_⟩⟩
 exact ⟨_,results_cell_mid Tryz.results236 _ _ (w.heap.size+1) 0 (b2 f0 f1) _ rfl hr5.range Tryz.underlying228 rfl info2,rfl,hB5⟩
theorem hashed_any (h:V8) (pb lb L:Nat) (N:Nat→Nat) (X:Nat→Nat→Nat) (hX:∀ i j,X i j<256) (U:Nat→Value) (hN:∀ j,N j<4611686018427387904) (hLn:L<1000) (w:World)
 (hlist:w.cell? ⟨pb,0,none⟩=some (.slice (some ⟨lb,0,none⟩) L L)) (hcell:∀ j,j<L→w.cell? ⟨lb,j,none⟩=some (U j)) (hbytes:∀ j,j<L→BytesIn w (U j) (N j) (X j)) :
 Calls Tryz.prog 236 #[blV h,.func (.func 259) #[] #[.pointer (some ⟨pb,0,none⟩)]] w fun e w'=>e = .returned (blV (hsC h N X L))∧Below w.heap.size w w' :=
 callsIn_wide.1 (hashed_in 9 h pb lb L N X hX U hN hLn w hlist hcell hbytes)
end Go.Proofs.YtibdhadbflfdpaaGreatDoor
namespace Go.Proofs.YtibdhadbflfdpaaGreatDoor
open Go.RowKit
def hsG (h:V8) (B:Nat→V8) (s:V8):Nat→V8
 | 0=>s
 | k+1=>gTm (hsG h B s k ^^^ B k) h
theorem hsV_G (h s:V8) (n:Nat) (X:Nat→Nat):∀ k,hsV h s n X k=hsG h (blkT n X) s k
 | 0=>rfl
 | k+1=>by
  show gTm (hsV h s n X k ^^^ blkT n X k) h=gTm (hsG h (blkT n X) s k ^^^ blkT n X k) h
  rw [hsV_G h s n X k]
theorem hsS_G (h Z:Nat→Nat):∀ k,toV (hsS h Z k)=hsG (toV h) (fun k=>toV (fun j=>Z (16*k+j))) vZ k
 | 0=>toV_zero
 | k+1=>by
  show toV (tmN (fun j=>hsS h Z k j ^^^ Z (16*k+j)) h)=gTm (hsG (toV h) (fun k=>toV (fun j=>Z (16*k+j))) vZ k ^^^ toV (fun j=>Z (16*k+j))) (toV h)
  rw [←hsS_G h Z k,←toV_xor]
  exact toV_byV _
theorem hsG_S (h:V8) {B C:Nat→V8} (s:V8):∀ k,(∀ j,j<k→B j=C j)→hsG h B s k=hsG h C s k
 | 0,_=>rfl
 | k+1,e=>by
  show gTm (hsG h B s k ^^^ B k) h=gTm (hsG h C s k ^^^ C k) h
  rw [hsG_S h s k (fun j hj=>e j (by omega)),e k (by omega)]
theorem hsG_add (h:V8) (B:Nat→V8) (s:V8) (a:Nat):∀ b,hsG h B s (a+b)=hsG h (fun k=>B (a+k)) (hsG h B s a) b
 | 0=>rfl
 | b+1=>by
  show gTm (hsG h B s (a+b) ^^^ B (a+b)) h=gTm (hsG h (fun k=>B (a+k)) (hsG h B s a) b ^^^ B (a+b)) h
  rw [hsG_add h B s a b]
theorem pad_nb (n:Nat):pad n=16*nb n:=by unfold pad nb;omega
def three {α:Type} (a b c:α) (i:Nat):α:=if i=0 then a else if i=1 then b else c
theorem hash_tag (h M D:Nat→Nat) (ml dl:Nat):toV (hsN h (pad ml+pad dl+16) (auN ml M dl D))=hsC (toV h) (three ml dl 16) (three M D (byV (lnV ml dl))) 3:=by
 show toV (hsS h (gpadN (pad ml+pad dl+16) (auN ml M dl D)) (pad (pad ml+pad dl+16) / 16))=hsV (toV h) (hsV (toV h) (hsV (toV h) vZ ml M (nb ml)) dl D (nb dl)) 16 (byV (lnV ml dl)) (nb 16)
 have e0:pad (pad ml+pad dl+16) / 16=nb ml+(nb dl+1):=by unfold pad nb;omega
 rw [hsS_G,hsV_G,hsV_G,hsV_G,e0,hsG_add,hsG_add]
 have p1:=pad_nb ml
 have p2:=pad_nb dl
 have e1:hsG (toV h) (fun k=>toV (fun j=>gpadN (pad ml+pad dl+16) (auN ml M dl D) (16*k+j))) vZ (nb ml)=hsG (toV h) (blkT ml M) vZ (nb ml):=hsG_S _ _ _ fun k hk=>toV_S fun j hj=>by
  unfold gpadN auN cat
  rw [if_pos (by omega),if_pos (by omega),if_pos (by omega),if_pos (by omega)]
  rfl
 rw [e1]
 have e2:hsG (toV h) (fun k=>toV (fun j=>gpadN (pad ml+pad dl+16) (auN ml M dl D) (16*(nb ml+k)+j))) (hsG (toV h) (blkT ml M) vZ (nb ml)) (nb dl)=hsG (toV h) (blkT dl D) (hsG (toV h) (blkT ml M) vZ (nb ml)) (nb dl):=hsG_S _ _ _ fun k hk=>toV_S fun j hj=>by
  unfold gpadN auN cat
  rw [if_pos (by omega),if_pos (by omega),if_pos (by omega),if_neg (by omega),show 16*(nb ml+k)+j - pad ml=16*k+j by omega]
  rfl
 rw [e2]
 refine hsG_S _ _ _ fun k hk => ?_
 obtain rfl:k=0:=by omega
 have e3:blkT 16 (byV (lnV ml dl)) 0=lnV ml dl:=by
  have:blkT 16 (byV (lnV ml dl)) 0=toV (byV (lnV ml dl)):=toV_S fun j hj=>by
   unfold gpadN
   rw [if_pos (by omega),Nat.mul_zero,Nat.zero_add]
  rw [this,toV_byV]
 rw [e3]
 unfold lnV
 refine toV_S fun j hj => ?_
 unfold gpadN auN cat
 rw [if_pos (by omega)]
 by_cases h8:j<8
 · rw [if_pos (by omega),if_neg (by omega),if_pos h8]
   congr 1
   omega
 · rw [if_neg (by omega),if_neg h8]
   congr 1
   omega
theorem tag_block (ks nn M D:Nat→Nat) (ml dl:Nat):toV (tgN ks nn ml M dl D)=hsC (toV (h0N ks)) (three ml dl 16) (three M D (byV (lnV ml dl))) 3 ^^^ toV (ctB ks nn 1):=by
 rw [←hash_tag,BitVec.xor_comm,←toV_xor]
 rfl
end Go.Proofs.YtibdhadbflfdpaaGreatDoor
namespace Go.Proofs.YtibdhadbflfdpaaGreatDoor
open Go.RowKit
theorem zeroL (w:World):Sem.run Tryz.prog (zeroValue 224) w = .ok (.agg (zb 32)) w:=by kernel_rfl
theorem infoL (X:Nat→Nat):(Tryz.prog.info? 224).map (·.size)=some (ints .u8 32 X).length:=by rw [ints_len];kernel_rfl
theorem infoLA (X:Nat→Nat):(Tryz.prog.info? 224).map (·.size)=some (ints .u8 32 X).toArray.size:=by rw [ints_size];kernel_rfl
theorem infoH (X:Nat→Nat):(Tryz.prog.info? 222).map (·.size)=some (ints .u8 16 X).length:=by rw [ints_len];kernel_rfl
theorem results_cell_tmp' {P:Program} {fn:Func} {p q:Tmp} {ty:TypeId} (h:fn.results=#[.cell p ty,.tmp q]) (tmps:Array Value) (w:World) (g o:Nat) (cs:List Value) (d:TypeDesc)
 (hp:tmps.getD p undef = .pointer (some ⟨g,o,none⟩)) (hc:w.rangeAt g o cs)
 (hu:P.underlying ty=some d) (hd:d.isRow=true) (hi:(P.info? ty).map (·.size)=some cs.length) :
 (results fn tmps).run P w = .ok (.tuple #[.agg cs.toArray,tmps.getD q undef]) w:=by
 have hp':tmps[p]?.getD undef = .pointer (some ⟨g,o,none⟩):=by simpa using hp
 simp [results,h,hp',asAddr,run_loadVar_mid w g o ty cs d hc hu hd hi]
def lkN (ks nn:Nat→Nat):Nat→Nat:=over (over (fun _=>0) 0 16 ks) 16 12 nn
theorem lkN_key (ks nn:Nat→Nat) (j:Nat) (hj:j<16):lkN ks nn j=ks j:=by
 unfold lkN over
 rw [if_neg (by omega),if_pos (by omega),Nat.sub_zero]
abbrev lkV (ks nn:Nat→Nat):Value := .agg (ints .u8 32 (lkN ks nn)).toArray
set_option maxRecDepth 20000 in
set_option maxHeartbeats 2000000 in
theorem lockOf_good (v u:Value) (ks nn:Nat→Nat) (w:World) (hv:BytesIn w v 16 ks) (hu:BytesIn w u 12 nn) :
 Calls Tryz.prog 197 #[v,u] w fun e w'=>e = .returned (.tuple #[lkV ks nn,.int .i64 0])∧Below w.heap.size w w':=by
 have hz:=zeroL
 have hsz:(Tryz.prog.info? 5).map (·.size)=some 1:=by kernel_rfl
 obtain ⟨xv,cv,rfl,-,-,hsv⟩:=hv.src
 obtain ⟨xu,cu,rfl,-,-,hsu⟩:=hu.src
 obtain ⟨W,hW⟩:∃ W,W=(w.alloc (.cells (zb 32) 224)).alloc (.cells (zb 32) 224):=⟨_,rfl⟩
 have hbW:Below w.heap.size w W:=by rw [hW];exact ((Below.refl _ _).alloc (Nat.le_refl _) _).alloc (by simp) _
 have hA:RowAt .u8 W w.heap.size 0 32 (fun _=>0):=by rw [hW];exact (RowAt.zero w 32 _).alloc (by simp) _
 have hB:RowAt .u8 W (w.heap.size+1) 0 32 (fun _=>0):=by
  have:=RowAt.zero (w.alloc (.cells (zb 32) 224)) 32 224
  rw [World.size_alloc] at this
  rw [hW];exact this
 have src1:=hsv W hbW
 obtain ⟨V,hV⟩:∃ V,V=W.setCells (w.heap.size+1) 0 (ints .u8 16 ks):=⟨_,rfl⟩
 have hbV:Below w.heap.size w V:=by rw [hV];exact below_setCells (by omega) _ _ _ hbW
 have hAV:RowAt .u8 V w.heap.size 0 32 (fun _=>0):=by rw [hV];exact hA.farCells (by omega) _ _
 have hBV:RowAt .u8 V (w.heap.size+1) 0 32 (over (fun _=>0) 0 16 ks):=by
  have:=hB.splice 0 16 ks (by decide)
  rw [Nat.zero_add] at this
  rw [hV];exact this
 have src2:=hsu V hbV
 obtain ⟨U,hU⟩:∃ U,U=V.setCells (w.heap.size+1) 16 (ints .u8 12 nn):=⟨_,rfl⟩
 have hbU:Below w.heap.size w U:=by rw [hU];exact below_setCells (by omega) _ _ _ hbV
 have hAU:RowAt .u8 U w.heap.size 0 32 (fun _=>0):=by rw [hU];exact hAV.farCells (by omega) _ _
 have hBU:RowAt .u8 U (w.heap.size+1) 0 32 (lkN ks nn):=by
  have:=hBV.splice 16 12 nn (by decide)
  rw [Nat.zero_add] at this
  rw [hU];exact this
 have th1:W.there (w.heap.size+1) 0 16:=fun j hj=>hB.there j (by omega)
 have th2:V.there (w.heap.size+1) 16 16:=fun j hj=>by
  have:=hBV.there (16+j) (by omega)
  rwa [Nat.zero_add] at this
 have HW:=Hid.mk' hW
 have HV:=Hid.mk' hV
 have HU:=Hid.mk' hU
 have hi1:=infoL (lkN ks nn)
 have hi2:=infoLA (lkN ks nn)
 have ho:=oneU 32 (lkN ks nn)
 unfold lkV
 generalize lkN ks nn=Z at *
 have th3:U.there w.heap.size 0 (ints .u8 32 Z).toArray.size:=by rw [ints_size];exact hAU.there
 have hrg:=hBU.range
 have m1:16=Nat.min 16 16:=rfl
 have m2:12=Nat.min 12 16:=rfl
 have Hm1:=Hid.mk' m1
 have Hm2:=Hid.mk' m2
 clear hW hV hU hA hB hv hu hsv hsu hAV hBV hBU m1 m2 hbW hbV
 go_enter Tryz.func197,Tryz.ntmps197
 go_wp2_with (first
  | (rw [←HW.out];refine wpList_copy_bytes rfl _ _ 22 22 rfl 5 Tryz.underlying22 hsz (w.heap.size+1) 0 16 16 xv 16 cv rfl rfl 16 ks src1 Hm1.out th1 ?_;rw [←HV.out];clear src1 th1)
  | (refine wpList_copy_bytes rfl _ _ 22 22 rfl 5 Tryz.underlying22 hsz (w.heap.size+1) 16 16 16 xu 12 cu rfl rfl 12 nn src2 Hm2.out th2 ?_;rw [←HU.out];clear src2 th2)
  | (refine wpList_load_mid rfl 224 _ rfl (w.heap.size+1) 0 rfl (ints .u8 32 Z) _ hrg Tryz.underlying224 rfl hi1 ?_)
  | (refine wpList_store_mid rfl 224 _ _ rfl w.heap.size 0 (ints .u8 32 Z).toArray rfl rfl th3 hi2 ho ?_))
 (try simp only [Exit.inBlock,Exit.then])
 refine bodyPost_ret (results_cell_tmp' Tryz.results197 _ _ w.heap.size 0 (ints .u8 32 Z) _ rfl (World.rangeAt_setCells_same _ _ _ _ (by rw [ints_len];exact hAU.there)) Tryz.underlying224 rfl hi1) rfl ⟨rfl,?_⟩
 exact below_setCells (Nat.le_refl _) _ _ _ hbU
theorem blkS_Sg {w a b:Nat→Nat} (h:S16 a b):∀ r,S16 (blkS w a r) (blkS w b r)
 | 0=>addN_S h w 0
 | r+1=>addN_S (colN_S (rowN_S (thrN_S (blkS_Sg h r) boxN) 1) mT) w (r+1)
theorem blkN_Sg {w a b:Nat→Nat} (h:S16 a b):S16 (blkN w a) (blkN w b):=addN_S (rowN_S (thrN_S (blkS_Sg h 9) boxN) 1) w 10
theorem gzb_ints (n:Nat):zb n=(ints .u8 n (fun _=>0)).toArray:=by
 have h:(List.range n).map (fun _=>Value.int .u8 0)=List.replicate n (.int .u8 0):=by
  rw [List.map_const',List.length_range]
 unfold zb ints
 rw [show (fun j:Nat=>Value.int .u8 (((fun _=>0:Nat→Nat) j:Nat):Int))=fun _ => .int .u8 0 from rfl,h]
 simp
set_option maxRecDepth 20000 in
set_option maxHeartbeats 2000000 in
theorem lockOf_bad (v u:Value) (n m:Nat) (ks nn:Nat→Nat) (w:World) (hv:BytesIn w v n ks) (hu:BytesIn w u m nn) (h:¬(n=16∧m=12)) :
 Calls Tryz.prog 197 #[v,u] w fun e w'=>e = .returned (.tuple #[.agg (ints .u8 32 (fun _=>0)).toArray,.int .i64 1])∧Below w.heap.size w w':=by
 have hz:=zeroL
 obtain ⟨xv,cv,rfl,-,-,-⟩:=hv.src
 obtain ⟨xu,cu,rfl,-,-,-⟩:=hu.src
 obtain ⟨W,hW⟩:∃ W,W=w.alloc (.cells (zb 32) 224):=⟨_,rfl⟩
 have hA:=RowAt.zero w 32 224
 have b1:Below w.heap.size w (w.alloc (.cells (zb 32) 224)):=(Below.refl _ _).alloc (Nat.le_refl _) _
 rw [←hW] at hA b1
 have HW:=Hid.mk' hW
 have hi1:=infoL (fun _=>0)
 have hi2:=infoLA (fun _=>0)
 have ho:=oneU 32 (fun _=>0)
 rw [←gzb_ints] at hi2 ho ⊢
 have th3:W.there w.heap.size 0 (zb 32).size:=by rw [gzb_ints,ints_size];exact hA.there
 clear hv hu hW
 have hcase:¬(n:Int)=16∨(n=16∧¬(m:Int)=12):=by omega
 clear h
 rcases hcase with hn' | ⟨rfl,hm'⟩
 all_goals
  go_enter Tryz.func197,Tryz.ntmps197
  go_wp2_with (first
   | (refine wpList_val (some 15) (.agg (zb 32)) rfl rfl (by kernel_rfl) ?_)
   | (rw [←HW.out];with_reducible (refine id (?_:wpList _ _ _ _ _ _));refine wpList_store_mid rfl 224 _ _ rfl w.heap.size 0 (zb 32) rfl rfl th3 hi2 ho ?_))
  (try simp only [Exit.inBlock,Exit.then])
  rw [gzb_ints]
  refine bodyPost_ret (results_cell_tmp' Tryz.results197 _ _ w.heap.size 0 (ints .u8 32 (fun _=>0)) _ rfl (World.rangeAt_setCells_same _ _ _ _ (by rw [ints_len];exact hA.there)) Tryz.underlying224 rfl hi1) rfl ⟨rfl,?_⟩
  exact below_setCells (Nat.le_refl _) _ _ _ b1
set_option maxHeartbeats 1000000 in
theorem bitsOf_any (v:Value) (n:Nat) (X:Nat→Nat) (hn:n<200000) (w:World) (hv:BytesIn w v n X) :
 Calls Tryz.prog 234 #[v] w fun e w'=>e = .returned (.int .u64 ((8*n:Nat):Int))∧w'=w:=by
 obtain ⟨xv,cv,rfl,-,-,-⟩:=hv.src
 have e1:IntKind.u64.wrap (8*(n:Int))=((8*n:Nat):Int):=by show 8*(n:Int)%18446744073709551616=_;omega
 have e2:IntKind.u64.wrap (n:Int)=(n:Int):=by show (n:Int)%18446744073709551616=_;omega
 clear hv
 generalize 8*n=N at *
 go_enter Tryz.func234,Tryz.ntmps234
 go_wp2
 go_ret
 exact ⟨rfl,rfl⟩
set_option maxRecDepth 20000 in
set_option maxHeartbeats 2000000 in
theorem blockBy_any (ks B:Nat→Nat) (hks:∀ j,ks j<256) (hB:∀ j,B j<256) (L:Nat→Nat) (hL:∀ j,j<16→L j=ks j) (w:World) :
 Calls Tryz.prog 235 #[.agg (ints .u8 32 L).toArray,.agg (ints .u8 16 B).toArray] w fun e w'=>e = .returned (blV (toV (blkN (kyN ks) B)))∧Below w.heap.size w w':=by
 obtain ⟨V,hV⟩:∃ V,V=((w.alloc (.cells (ints .u8 32 L).toArray 224)).alloc (.cells (ints .u8 16 B).toArray 222)).alloc (.cells #[.int .u64 0,.int .u64 0] 228):=⟨_,rfl⟩
 have rL:RowAt .u8 V w.heap.size 0 32 L:=by
  rw [hV];exact ((RowAt.box .u8 w 32 L _).alloc (by simp) _).alloc (by simp;omega) _
 have rB:RowAt .u8 V (w.heap.size+1) 0 16 B:=by
  have:=(RowAt.box .u8 (w.alloc (.cells (ints .u8 32 L).toArray 224)) 16 B 222).alloc (by simp) (.cells #[.int .u64 0,.int .u64 0] 228)
  rw [World.size_alloc] at this
  rw [hV];exact this
 have rV:RW V (w.heap.size+1+1) 0 (b2 0 0):=by
  have:=RW.fresh ((w.alloc (.cells (ints .u8 32 L).toArray 224)).alloc (.cells (ints .u8 16 B).toArray 222)) (b2 0 0) 228
  rw [World.size_alloc,World.size_alloc] at this
  rw [hV];exact this
 have bV:Below w.heap.size w V:=by rw [hV];exact (((Below.refl _ _).alloc (Nat.le_refl _) _).alloc (by simp) _).alloc (by simp;omega) _
 have b1:Below V.heap.size V V.drew:=(Below.refl _ _).drew
 have i1:BytesIn V.drew (.slice (some ⟨w.heap.size,0,none⟩) 16 16) 16 ks := .inr ⟨_,_,_,rfl,block_lt_of_cell (rL.drew 0 (by decide)).1,Nat.le_refl _,fun j hj=>by rw [←hL j hj];exact (rL.drew j (by omega)).1⟩
 have i2:BytesIn V.drew (.slice (some ⟨w.heap.size+1,0,none⟩) 16 16) 16 B := .inr ⟨_,_,_,rfl,block_lt_of_cell (rB.drew 0 (by decide)).1,Nat.le_refl _,fun j hj=>(rB.drew j hj).1⟩
 have cB:=block_good _ _ ks B hks (fun j _=>hB j) V.drew i1 i2
 have hbl:=blkN_B (w:=kyN ks) (b:=B) (fun j _=>hB j) (kyN_lt hks)
 obtain ⟨Z,hZ⟩:∃ Z,Z=blkN (kyN ks) B:=⟨_,rfl⟩
 rw [←hZ] at cB hbl ⊢
 have co:=fun v W h=>gblockOf_any v 16 (fun j=>Z j%256) (Nat.le_refl _) (fun j=>Nat.mod_lt _ (by decide)) W h
 have eZ:toV (gpadN 16 (fun j=>Z j%256))=toV Z:=toV_S fun j hj=>by unfold gpadN;rw [if_pos hj];exact Nat.mod_eq_of_lt (hbl j hj)
 rw [eZ] at co
 unfold blV at *
 obtain ⟨fx,hx⟩:∃ x,x=wd (toV Z) 0:=⟨_,rfl⟩
 obtain ⟨fy,hy⟩:∃ y,y=wd (toV Z) 64:=⟨_,rfl⟩
 rw [←hx,←hy] at co ⊢
 have HV:=Hid.mk' hV
 clear hV hx hy hZ eZ i1 i2 rL rB b1
 go_enter Tryz.func235,Tryz.ntmps235
 go_upto_region 1 with (fail)
 rw [←HV.out]
 clear HV
 replace rV:=rV.drew
 replace bV:=bV.drew
 go_region_held3 (fun w'=>Below V.drew.heap.size V.drew w') (first | assumption | exact Below.refl _ _) (first | (go_at_call 260;refine cB.mono ?_;clear cB;rintro e w1 ⟨g1,rfl,r1,hb1⟩))
 have co1:=co (.slice (some ⟨g1,0,none⟩) 16 16) w1 (.inr ⟨_,_,_,rfl,block_lt_of_cell (r1 0 (by decide)).1,Nat.le_refl _,fun j hj=>by
  have e:Z j%256=Z j:=Nat.mod_eq_of_lt (hbl j hj)
  show w1.cell? _=some (.int .u8 ((Z j%256:Nat):Int))
  rw [e];exact (r1 j hj).1⟩)
 replace rV:=rV.still hb1
 have b1:=below_next bV hb1
 have hV2:w.heap.size≤w.heap.size+1+1:=by omega
 clear co hb1 bV r1
 go_wp2_with (first
  | (go_at_call 203;refine co1.mono ?_;clear co1;rintro e w2 ⟨rfl,hb2⟩;(replace rV:=rV.still hb2);(replace b1:=below_next b1 hb2);(have t0:w2.there (w.heap.size+1+1) 0 (b2 fx fy).toArray.size:=rV.there);clear hb2)
  | (refine wpList_store_mid rfl 228 _ _ rfl (w.heap.size+1+1) 0 (b2 fx fy).toArray rfl rfl t0 (info2a fx fy) (one2 fx fy) ?_))
 (try simp only [Exit.inBlock,Exit.then])
 refine bodyPost_ret (results_cell_mid Tryz.results235 _ _ (w.heap.size+1+1) 0 (b2 fx fy) _ rfl (rV.stored (b2 fx fy) rfl).range Tryz.underlying228 rfl info2) rfl ⟨rfl,?_⟩
 exact below_setCells hV2 _ _ _ b1
def lkA (ks nn:Nat→Nat) (n k j:Nat):Nat:=if 32 - k≤j then be4 n (j - 28) else lkN ks nn j
theorem lkA_next (ks nn:Nat→Nat) (n k:Nat) (hk:k<4) (j:Nat) (hj:j<32):upd (lkA ks nn n k) (31 - k) (be4 n (3 - k)) j=lkA ks nn n (k+1) j:=by
 unfold upd lkA
 by_cases e:j=31 - k
 · subst e
   rw [if_pos rfl,if_pos (by omega),show 31 - k - 28=3 - k by omega]
 · rw [if_neg e]
   by_cases e2:32 - k≤j
   · rw [if_pos e2,if_pos (by omega)]
   · rw [if_neg e2,if_neg (by omega)]
theorem lkA_key (ks nn:Nat→Nat) (n j:Nat) (hj:j<16):lkA ks nn n 4 j=ks j:=by
 unfold lkA
 rw [if_neg (by omega),lkN_key _ _ _ hj]
theorem lkA_ctr (ks nn:Nat→Nat) (n j:Nat) (hj:j<16):lkA ks nn n 4 (16+j)=ctN nn n j:=by
 unfold lkA ctN
 by_cases h:j<12
 · rw [if_neg (by omega),if_pos h]
   unfold lkN over
   rw [if_pos (by omega),Nat.add_sub_cancel_left]
 · rw [if_pos (by omega),if_neg h,show 16+j - 28=j - 12 by omega]
set_option maxRecDepth 20000 in
set_option maxHeartbeats 2000000 in
theorem blockAt_any (ks nn:Nat→Nat) (n:Nat) (hks:∀ j,ks j<256) (hnn:∀ j,nn j<256) (w:World) :
 Calls Tryz.prog 233 #[lkV ks nn,.int .u32 n] w fun e w'=>e = .returned (blV (toV (ctB ks nn n)))∧Below w.heap.size w w':=by
 have cb:=fun W=>blockBy_any ks (fun j=>ctN nn n j%256) hks (fun j=>Nat.mod_lt _ (by decide)) (lkA ks nn n 4) (lkA_key ks nn n) W
 have hcl:=ctN_B hnn n
 have eB:ints .u8 16 (fun j=>ctN nn n j%256)=ints .u8 16 (ctN nn n):=ints_congr _ _ _ _ fun j hj=>Nat.mod_eq_of_lt (hcl j hj)
 have eT:toV (blkN (kyN ks) (fun j=>ctN nn n j%256))=toV (ctB ks nn n):=toV_S (blkN_Sg fun j hj=>Nat.mod_eq_of_lt (hcl j hj))
 rw [eB,eT] at cb
 obtain ⟨V,hV⟩:∃ V,V=(w.alloc (.cells (ints .u8 32 (lkN ks nn)).toArray 224)).alloc (.cells #[.int .u64 0,.int .u64 0] 228):=⟨_,rfl⟩
 have rL:RowAt .u8 V w.heap.size 0 32 (lkA ks nn n 0):=by
  rw [hV];exact ((RowAt.box .u8 w 32 (lkN ks nn) _).alloc (by simp) _).congr fun j hj=>by unfold lkA;rw [if_neg (by omega)]
 have rV:RW V (w.heap.size+1) 0 (b2 0 0):=by
  have:=RW.fresh (w.alloc (.cells (ints .u8 32 (lkN ks nn)).toArray 224)) (b2 0 0) 228
  rw [World.size_alloc] at this
  rw [hV];exact this
 have bV:Below w.heap.size w V:=by rw [hV];exact ((Below.refl _ _).alloc (Nat.le_refl _) _).alloc (by simp) _
 unfold blV at *
 obtain ⟨fx,hx⟩:∃ x,x=wd (toV (ctB ks nn n)) 0:=⟨_,rfl⟩
 obtain ⟨fy,hy⟩:∃ y,y=wd (toV (ctB ks nn n)) 64:=⟨_,rfl⟩
 rw [←hx,←hy] at cb ⊢
 have HV:=Hid.mk' hV
 have hi1:=infoL (lkA ks nn n 4)
 have hi3:=infoH (ctN nn n)
 clear hV hx hy eB eT hcl
 go_enter Tryz.func233,Tryz.ntmps233
 go_wp2
 rw [←HV.out]
 clear HV
 go_loopw [6] (fun i wr=>∃ k:Nat,k≤4∧i = .int .i64 k∧RowAt .u8 wr w.heap.size 0 32 (lkA ks nn n k)∧RW wr (w.heap.size+1) 0 (b2 0 0)∧Below w.heap.size w wr) (fun i _=>4 - (intOf i).toNat)
 case atStart=>exact ⟨0,Nat.zero_le _,rfl,rL,rV,bV⟩
 case round =>
  clear rL rV bV
  obtain ⟨k,hk,rfl,rL,rV,bV⟩:=hrel
  by_cases hlt:k<4
  · obtain ⟨c1,f1⟩:=rL (31 - k) (by omega)
    have hs:=rL.set (i:=31 - k) (by omega) (v:=(be4 n (3 - k):Int)) rfl
    rw [Nat.zero_add] at c1 f1 hs
    replace hs:=hs.congr fun j hj=>lkA_next ks nn n k hlt j hj
    obtain ⟨x,hx⟩:∃ x,x=be4 n (3 - k):=⟨_,rfl⟩
    obtain ⟨q,hq⟩:∃ q,q=31 - k:=⟨_,rfl⟩
    obtain ⟨sh,hsh⟩:∃ sh,sh=8*k:=⟨_,rfl⟩
    rw [←hq] at c1 f1 hs
    rw [←hx] at hs
    have e1:IntKind.u8.wrap ((n:Int) / 2 ^ sh)=(x:Int):=by
     rw [hx,hsh]
     unfold be4
     rw [show 3 - (3 - k)=k by omega]
     show (n:Int) / 2 ^ (8*k)%256=_
     simp
    obtain ⟨p,hp⟩:∃ p,p=15 - k:=⟨_,rfl⟩
    have e2:(15:Int) - (k:Int)=(p:Int):=by omega
    have e3:8*(k:Int)=(sh:Int):=by omega
    have e4:16+p=q:=by omega
    have t1:(0:Int)≤(p:Int)∧(p:Int)<16:=by omega
    have t2:(0:Int)≤(sh:Int)∧(sh:Int)<32:=by omega
    have hlt':(k:Int)<4:=by omega
    clear hp hq hsh hx cb hi1 hi3 rL
    go_wp2
    go_roundw
    case rel=>exact ⟨k+1,hlt,by go_num,hs,rV.far w.heap.size q [.int .u8 x] (.inl (by omega)),bV.setCell (Nat.le_refl _) _⟩
    case measure=>simp [intOf];omega
  · obtain rfl:k=4:=by omega
    have hr1:=rL.range
    have rC:RowAt .u8 wr w.heap.size 16 16 (ctN nn n):=fun j hj=>by
     have:=rL (16+j) (by omega)
     rwa [Nat.zero_add,lkA_ctr ks nn n j hj] at this
    have hr2:=rC.range
    generalize lkA ks nn n 4=L at *
    generalize ctN nn n=C at *
    clear rL rC
    go_wp2_with (first
     | (refine wpList_load_mid rfl 224 _ rfl w.heap.size 0 rfl (ints .u8 32 L) _ hr1 Tryz.underlying224 rfl hi1 ?_)
     | (refine wpList_load_mid rfl 222 _ rfl w.heap.size 16 rfl (ints .u8 16 C) _ hr2 Tryz.underlying222 rfl hi3 ?_)
     | (go_at_call 235;refine (cb _).mono ?_;clear cb;rintro e w2 ⟨rfl,hb2⟩;(replace rV:=rV.still hb2);(replace bV:=below_next bV hb2);(have t0:w2.there (w.heap.size+1) 0 (b2 fx fy).toArray.size:=rV.there);clear hb2)
     | (refine wpList_store_mid rfl 228 _ _ rfl (w.heap.size+1) 0 (b2 fx fy).toArray rfl rfl t0 (info2a fx fy) (one2 fx fy) ?_))
    (try simp only [Exit.inBlock,Exit.then])
    refine bodyPost_ret (results_cell_mid Tryz.results233 _ _ (w.heap.size+1) 0 (b2 fx fy) _ rfl (rV.stored (b2 fx fy) rfl).range Tryz.underlying228 rfl info2) rfl ⟨rfl,?_⟩
    exact below_setCells (Nat.le_succ _) _ _ _ bV
end Go.Proofs.YtibdhadbflfdpaaGreatDoor
