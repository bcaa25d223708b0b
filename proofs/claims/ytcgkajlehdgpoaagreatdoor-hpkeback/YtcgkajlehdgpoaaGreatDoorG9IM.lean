/- What the proof stands on: G9I, G9K, G9L, G9M, G9Kn, G9Ans, QRO, QCO, QRQ. -/
import Derived.Test.YtcgkajlehdgpoaaGreatDoorA8BlcM
import Derived.Test.YtcgkajlehdgpoaaGreatDoorA8NxtM
import Derived.Test.YtcgkajlehdgpoaaGreatDoorA8SqM
import Derived.Test.YtcgkajlehdgpoaaGreatDoorG9CM
import Derived.Test.YtcgkajlehdgpoaaGreatDoorG9EM
import Derived.Test.YtcgkajlehdgpoaaGreatDoorZFM
namespace Go.Proofs.YtcgkajlehdgpoaaGreatDoor
open Go.RowKit
theorem three_all {α:Type} {p:α→Prop} {a b c:α} (ha:p a) (hb:p b) (hc:p c) (i:Nat):p (three a b c i):=by
 unfold three
 split
 · exact ha
 · split
   · exact hb
   · exact hc
set_option maxRecDepth 100000 in
set_option maxHeartbeats 4000000 in
theorem gtag_any (ks nn M D:Nat→Nat) (ml dl:Nat) (hml:ml<200000) (hdl:dl<200000) (hks:∀ j,ks j<256) (hnn:∀ j,nn j<256) (hM:∀ j,M j<256) (hD:∀ j,D j<256) (m d:Value) (w:World) (hm:BytesIn w m ml M) (hd:BytesIn w d dl D) :
 Calls Tryz.prog 68 #[lkV ks nn,m,d] w fun e w'=>e = .returned (blV (toV (tgN ks nn ml M dl D)))∧Below w.heap.size w w':=by
 have cb1:=fun W h=>bitsOf_any m ml M hml W (hm.keep h)
 have cb2:=fun W h=>bitsOf_any d dl D hdl W (hd.keep h)
 have ch:=fun W=>blockBy_any ks (fun _=>0) hks (fun _=>by decide) (lkN ks nn) (lkN_key ks nn) W
 rw [←gzb_ints,show blkN (kyN ks) (fun _=>0)=h0N ks from rfl] at ch
 have cy:=fun W=>gbytes_any (lnV ml dl) W
 have cbk:=fun xo n c W=>blocks_any xo n c W
 have hXs:∀ i j,three M D (byV (lnV ml dl)) i j<256:=fun i=>three_all (p:=fun X:Nat→Nat=>∀ j,X j<256) hM hD (byV_lt _) i
 have hNs:∀ i,three ml dl 16 i<4611686018427387904:=three_all (p:=fun n=>n<4611686018427387904) (by omega) (by omega) (by decide)
 have cH:=fun pb lb U W h1 h2 h3=>hashed_any (toV (h0N ks)) pb lb 3 (three ml dl 16) (three M D (byV (lnV ml dl))) hXs U hNs (by decide) W h1 h2 h3
 have ca:=fun W=>blockAt_any ks nn 1 hks hnn W
 have cp:=fun W=>gplus_any (hsC (toV (h0N ks)) (three ml dl 16) (three M D (byV (lnV ml dl))) 3) (toV (ctB ks nn 1)) W
 rw [tag_block]
 unfold blV at *
 rw [(ln_words ml dl hml hdl).1,(ln_words ml dl hml hdl).2] at cy
 generalize hLb:byV (lnV ml dl)=Lb at *
 generalize wd (hsC (toV (h0N ks)) (three ml dl 16) (three M D Lb) 3 ^^^ toV (ctB ks nn 1)) 0=f0 at *
 generalize wd (hsC (toV (h0N ks)) (three ml dl 16) (three M D Lb) 3 ^^^ toV (ctB ks nn 1)) 64=f1 at *
 generalize wd (hsC (toV (h0N ks)) (three ml dl 16) (three M D Lb) 3) 0=s0 at *
 generalize wd (hsC (toV (h0N ks)) (three ml dl 16) (three M D Lb) 3) 64=s1 at *
 generalize wd (toV (ctB ks nn 1)) 0=c0 at *
 generalize wd (toV (ctB ks nn 1)) 64=c1 at *
 generalize wd (toV (h0N ks)) 0=k0 at *
 generalize wd (toV (h0N ks)) 64=k1 at *
 have h8m:8*ml<18446744073709551616:=by omega
 generalize 8*ml=m8 at *
 generalize 8*dl=d8 at *
 obtain ⟨xm,cm,rfl,-,-,-⟩:=hm.src
 obtain ⟨xd,cd,rfl,-,-,-⟩:=hd.src
 unfold lkV at *
 have hiL:=infoL (lkN ks nn)
 generalize lkN ks nn=L at *
 obtain ⟨V0,hV0⟩:∃ V,V=(w.alloc (.cells (ints .u8 32 L).toArray 97)).alloc (.cells #[.int .u64 0,.int .u64 0] 101):=⟨_,rfl⟩
 have b0:Below w.heap.size w V0:=by rw [hV0];exact ((Below.refl _ _).alloc (Nat.le_refl _) _).alloc (by simp) _
 have rL:RW V0 w.heap.size 0 (ints .u8 32 L):=by rw [hV0];exact (RW.fresh w _ _).still ((Below.refl _ _).alloc (Nat.le_refl _) _)
 have s0z:V0.heap.size=w.heap.size+1+1:=by rw [hV0];simp
 have rR:RW V0 (w.heap.size+1) 0 (b2 0 0):=by
  have:=RW.fresh (w.alloc (.cells (ints .u8 32 L).toArray 97)) (b2 0 0) 101
  rw [World.size_alloc] at this
  rw [hV0];exact this
 obtain ⟨V1,hV1⟩:∃ V,V=V0.alloc (.cells #[.int .u64 m8,.int .u64 d8] 101):=⟨_,rfl⟩
 have b01:Below V0.heap.size V0 V1:=by rw [hV1];exact (Below.refl _ _).alloc (Nat.le_refl _) _
 have rLen:RW V1 V0.heap.size 0 (b2 m8 d8):=by rw [hV1];exact RW.fresh V0 (b2 m8 d8) 101
 replace rL:=rL.still b01
 replace rR:=rR.still b01
 have b1:=below_next b0 b01
 have HV1:=Hid.mk' hV1
 have HV0:=Hid.mk' hV0
 have rLr:=rL.range
 clear hV0 hV1 s0z b01 hks hnn hM hD
 go_enter Tryz.func68,Tryz.ntmps68
 go_upto_region 3 with (first
  | (go_at_call 93;rw [←HV0.out];refine (cb1 V0 b0).mono ?_;clear cb1;rintro e w1 ⟨rfl,rfl⟩)
  | (go_at_call 93;refine (cb2 _ b0).mono ?_;clear cb2;rintro e w2 ⟨rfl,rfl⟩)
  | (rw [←HV1.out];refine wpList_load_mid rfl 97 _ rfl w.heap.size 0 rfl (ints .u8 32 L) _ rLr Tryz.underlying97 rfl hiL ?_)
  | (refine wpList_val (some 15) (.agg (zb 16)) rfl rfl (by kernel_rfl) ?_)
  | (go_at_call 94;refine (ch _).mono ?_;clear ch;rintro e w3 ⟨rfl,hb3⟩))
 replace rL:=rL.still hb3
 replace rR:=rR.still hb3
 replace rLen:=rLen.still hb3
 have b3:=below_next b1 hb3
 obtain ⟨V4,hV4⟩:∃ V,V=w3.alloc (.cells #[.int .u64 k0,.int .u64 k1] 101):=⟨_,rfl⟩
 have b34:Below w3.heap.size w3 V4:=by rw [hV4];exact (Below.refl _ _).alloc (Nat.le_refl _) _
 have rK:RW V4 w3.heap.size 0 (b2 k0 k1):=by rw [hV4];exact RW.fresh w3 (b2 k0 k1) 101
 rw [←hV4]
 replace rL:=rL.still b34
 replace rR:=rR.still b34
 replace rLen:=rLen.still b34
 have b4:=below_next b3 b34
 clear hV4 HV0 HV1 hb3 b3 b34 b1 b0 rLr
 have hdr:Below V4.heap.size V4 V4.drew:=(Below.refl _ _).drew
 replace rL:=rL.still hdr
 replace rR:=rR.still hdr
 replace rLen:=rLen.still hdr
 replace rK:=rK.still hdr
 replace b4:=below_next b4 hdr
 refine wp_last 11 (S:=fun u=>Below V4.drew.heap.size V4.drew u) (by kernel_rfl) (by kernel_rfl) (by kernel_rfl) (by kernel_rfl) (Below.refl _ _) (fun hS => ?_)
 generalize V4.drew=V5 at *
 refine tlS 0 (fun u hu=>rK.still hu) hS 101 Tryz.underlying101 info2 ?_
 (try simp only [pS])
 refine tg 1 hS ?_
 (try simp only [pS])
 refine tg 2 hS ?_
 (try simp only [pS])
 refine tlS 3 (fun u hu=>rLen.still hu) hS 101 Tryz.underlying101 info2 ?_
 (try simp only [pS])
 refine tlS 8 (fun u hu=>rL.still hu) hS 97 Tryz.underlying97 hiL ?_
 (try simp only [pS])
 refine cl 4 (cy _) ?_
 rintro e V6 ⟨gy,rfl,hgy,ry,hb6⟩
 refine ⟨_,rfl,hb6,?_⟩
 (try simp only [pS])
 have nb6:Below V6.heap.size V6 (V6.alloc (.cells #[.slice xm ml cm,.slice xd dl cd,.slice (some ⟨gy,0,none⟩) 16 16] 22)):=(Below.refl _ _).alloc (Nat.le_refl _) _
 have r7:=RW.fresh V6 [.slice xm ml cm,.slice xd dl cd,.slice (some ⟨gy,0,none⟩) 16 16] 22
 refine wo 5 (v := .slice (some ⟨V6.heap.size,0,none⟩) 3 3) (w':=V6.alloc (.cells #[.slice xm ml cm,.slice xd dl cd,.slice (some ⟨gy,0,none⟩) 16 16] 22)) (by kernel_rfl) (below_next hb6 nb6) ?_
 (try simp only [pS])
 replace ry:=ry.still nb6
 replace hb6:=below_next hb6 nb6
 generalize hV7:V6.alloc (.cells #[.slice xm ml cm,.slice xd dl cd,.slice (some ⟨gy,0,none⟩) 16 16] 22)=V7 at *
 clear hV7 nb6
 refine cl 6 (cbk (some ⟨V6.heap.size,0,none⟩) 3 3 V7) ?_
 rintro e V8 ⟨rfl,hV8⟩
 have nb8:Below V7.heap.size V7 V8:=by rw [hV8];exact (Below.refl _ _).alloc (Nat.le_refl _) _
 have r8:V8.cell? ⟨V7.heap.size,0,none⟩=some (.slice (some ⟨V6.heap.size,0,none⟩) 3 3):=by
  rw [hV8];exact (RW.fresh V7 [_] _).range 0 _ rfl
 replace r7:=r7.still nb8
 replace ry:=ry.still nb8
 replace hb6:=below_next hb6 nb8
 clear hV8 nb8
 refine ⟨_,rfl,hb6,?_⟩
 (try simp only [pS])
 have b8:=below_next b4 hb6
 have cH1:=cH V7.heap.size V6.heap.size (three (.slice xm ml cm) (.slice xd dl cd) (.slice (some ⟨gy,0,none⟩) 16 16)) V8 r8 (fun j hj=>by
  have hr:=r7.range j
  rw [Nat.zero_add] at hr
  rcases (show j=0∨j=1∨j=2 by omega) with rfl | rfl | rfl
  · exact hr _ rfl
  · exact hr _ rfl
  · exact hr _ rfl) (fun j hj=>by
  rcases (show j=0∨j=1∨j=2 by omega) with rfl | rfl | rfl
  · exact hm.keep b8
  · exact hd.keep b8
  · exact .inr ⟨gy,0,16,rfl,block_lt_of_cell (ry 0 (by decide)).1,Nat.le_refl _,fun j hj=>(ry j hj).1⟩)
 clear cH
 refine cl 7 cH1 ?_
 rintro e V9 ⟨rfl,hb9⟩
 replace hb6:=below_next hb6 hb9
 refine ⟨_,rfl,hb6,?_⟩
 (try simp only [pS])
 refine cl 9 (ca _) ?_
 rintro e V10 ⟨rfl,hb10⟩
 replace hb6:=below_next hb6 hb10
 refine ⟨_,rfl,hb6,?_⟩
 (try simp only [pS])
 refine cl 10 (cp _) ?_
 rintro e V11 ⟨rfl,hb11⟩
 replace hb6:=below_next hb6 hb11
 refine ⟨_,rfl,hb6,?_⟩
 (try simp only [pS])
 replace rR:=rR.still hb6
 have b11:=below_next b4 hb6
 refine wpAnyH_done (by kernel_rfl) ?_ _
 refine lastRow 11 101 6 27 (b2 f0 f1) rR rfl (info2a f0 f1) (one2 f0 f1) (fun r12 => ?_)
 refine NoPanic.normal ?_
 dsimp only [Act.put]
 clear cH1 ca cp cy cbk
 go_wp2
 refine bodyPost_ret (results_cell_mid Tryz.results68 _ _ (w.heap.size+1) 0 (b2 f0 f1) _ rfl r12.range Tryz.underlying101 rfl info2) rfl ⟨rfl,?_⟩
 exact below_setCells (Nat.le_succ _) _ _ _ b11
end Go.Proofs.YtcgkajlehdgpoaaGreatDoor
namespace Go.Proofs.YtcgkajlehdgpoaaGreatDoor
open Go.RowKit
theorem padN_16 (X:Nat→Nat):toV (gpadN 16 X)=toV X:=toV_S fun j hj=>by unfold gpadN;rw [if_pos hj]
end Go.Proofs.YtcgkajlehdgpoaaGreatDoor
namespace Go.Proofs.YtcgkajlehdgpoaaGreatDoor
open Go.RowKit
theorem own_down {base base':Nat} {w:World} {v:Value} {n:Nat} {X:Nat→Nat} (h:Own base w v n X) (hb:base'≤base):Own base' w v n X :=
 ⟨h.1,h.2.imp id fun ⟨g,cap,cur,e,h1,h2⟩=>⟨g,cap,cur,e,Nat.le_trans hb h1,h2⟩⟩
theorem lock_var (w:World) (L:Nat→Nat) (V:World) (hV:V=(w.alloc (.cells (zb 32) 97)).setCells w.heap.size 0 (ints .u8 32 L)):RW V w.heap.size 0 (ints .u8 32 L)∧Below w.heap.size w V:=by
 subst hV
 have h:=RowAt.zero w 32 97
 refine ⟨(h.toRW (by decide)).stored _ (by rw [ints_len,ints_len]),below_setCells (Nat.le_refl _) _ _ _ ((Below.refl _ _).alloc (Nat.le_refl _) _)⟩
theorem lock_there (w:World) (L:Nat→Nat):(w.alloc (.cells (zb 32) 97)).there w.heap.size 0 (ints .u8 32 L).toArray.size:=by
 rw [ints_size];exact (RowAt.zero w 32 97).there
theorem tgN_B {ks nn M D:Nat→Nat} (hks:∀ j,ks j<256) (hnn:∀ j,nn j<256) (ml dl:Nat):B16 (tgN ks nn ml M dl D):=fun j hj=>xor_byte (ctB_B hks hnn 1 j hj) (hsN_lt _ _ _ j)
set_option maxRecDepth 20000 in
set_option maxHeartbeats 4000000 in
theorem seal_good (v u m t:Value) (ml n:Nat) (ks nn M X:Nat→Nat) (hml:ml≤65536) (hn:n≤65536) (hks:∀ j,ks j<256) (hnn:∀ j,nn j<256) (hM:∀ j,M j<256) (hX:∀ j,X j<256) (w:World) (hv:BytesIn w v 16 ks) (hu:BytesIn w u 12 nn) (hm:BytesIn w m ml M) (ht:BytesIn w t n X) :
 Calls Tryz.prog 46 #[v,u,m,t] w fun e w'=>∃ s,e = .returned (.tuple #[s,.int .i64 0])∧Own w.heap.size w' s (n+16) (slN ks nn ml M n X)∧Below w.heap.size w w':=by
 have c1:=lockOf_good v u ks nn w hv hu
 have hT:=trN_lt (X:=X) hks hnn hX
 have c2:=fun W h=>crossed_any ks nn X n (by omega) hks hnn hX t W (ht.keep h)
 have c3:=fun d W h hd=>gtag_any ks nn M (trN ks nn X) ml n (by omega) (by omega) hks hnn hM hT m d W (hm.keep h) hd
 have c4:=fun W=>gbytes_any (toV (tgN ks nn ml M n (trN ks nn X))) W
 have hfit:=byV_toV (tgN_B (M:=M) (D:=trN ks nn X) hks hnn ml n)
 have hsl:slN ks nn ml M n X=cat n (trN ks nn X) (tgN ks nn ml M n (trN ks nn X)):=rfl
 rw [hsl]
 unfold blV at *
 generalize wd (toV (tgN ks nn ml M n (trN ks nn X))) 0=g0 at *
 generalize wd (toV (tgN ks nn ml M n (trN ks nn X))) 64=g1 at *
 generalize byV (toV (tgN ks nn ml M n (trN ks nn X)))=GB at *
 generalize tgN ks nn ml M n (trN ks nn X)=G at *
 generalize trN ks nn X=T at *
 unfold lkV at *
 have hz:=zeroL
 have hth:=fun W=>lock_there W (lkN ks nn)
 have hi1:=infoL (lkN ks nn)
 have hi2:=infoLA (lkN ks nn)
 have ho:=oneU 32 (lkN ks nn)
 generalize lkN ks nn=L at *
 obtain ⟨xv,cv,rfl,-,-,-⟩:=hv.src
 obtain ⟨xu,cu,rfl,-,-,-⟩:=hu.src
 obtain ⟨xm,cm,rfl,-,-,-⟩:=hm.src
 obtain ⟨xt,ct,rfl,-,-,-⟩:=ht.src
 have hml':¬(65536:Int)<(ml:Int):=by omega
 have hn':¬(65536:Int)<(n:Int):=by omega
 have hfit2:n+16≤140737488355328:=by omega
 clear hv hu hm ht hks hnn hM hX hT hsl
 go_enter Tryz.func46,Tryz.ntmps46
 go_wp2_with (first
  | (go_at_call 66;refine c1.mono ?_;clear c1;rintro e w1 ⟨rfl,b1⟩;(have hth1:=hth w1);(obtain ⟨V,hV⟩:∃ V,V=(w1.alloc (.cells (zb 32) 97)).setCells w1.heap.size 0 (ints .u8 32 L):=⟨_,rfl⟩);(obtain ⟨rL,bV⟩:=lock_var w1 L V hV);(have HV:=Hid.mk' hV);(replace b1:=below_next b1 bV);(have rLr:=rL.range);clear hth hV bV)
  | (with_reducible (refine id (?_:wpList _ _ _ _ _ _));refine wpList_store_mid rfl 97 _ _ rfl w1.heap.size 0 (ints .u8 32 L).toArray rfl rfl hth1 hi2 ho ?_;rw [List.toList_toArray,←HV.out];clear hth1 HV;(have c2':=c2 V b1);clear c2)
  | (refine wpList_load_mid rfl 97 _ rfl w1.heap.size 0 rfl (ints .u8 32 L) _ rLr Tryz.underlying97 rfl hi1 ?_)
  | (go_at_call 67;refine c2'.mono ?_;clear c2';rintro e w2 ⟨gh,rfl,own2,b2⟩;(replace rLr:=(rL.still b2).range);(replace rL:=rL.still b2);(replace own2:Own w.heap.size w2 _ n T:=own_down own2 b1.size);(replace b1:=below_next b1 b2);(have c3':=c3 _ w2 b1 own2.bytesOf);clear c3 b2)
  | (go_at_call 68;refine c3'.mono ?_;clear c3';rintro e w3 ⟨rfl,b3⟩;(replace own2:=own2.below b3);(replace b1:=below_next b1 b3);clear b3)
  | (go_at_call 69;refine (c4 _).mono ?_;clear c4;rintro e w4 ⟨gt,rfl,hgt,r4,b4⟩;(replace own2:=own2.below b4);(replace b1:=below_next b1 b4);(have src4:Src w4 (some ⟨gt,0,none⟩) 16 GB := .inr ⟨gt,0,rfl,fun j hj=>(r4 j hj).1⟩);(have hz4:=b1.size);clear b4)
  | (at_builtin;refine wpList_append_bytes rfl (.tmp 33) (.tmp 38) rfl w.heap.size _ n T rfl own2 _ 16 16 GB rfl src4 (fun h=>by cases h) hfit2 hz4 ?_;intro v5 w5 own5 grow5;(have b5:=Own.grown b1 grow5 own2 (Nat.le_refl _) hz4)))
 go_ret2
 exact ⟨v5,rfl,own5.congr (fun j hj=>by
  unfold cat
  by_cases h:j<n
  · rw [if_pos h,if_pos h]
  · rw [if_neg h,if_neg h];exact hfit _ (by omega)),b5⟩
end Go.Proofs.YtcgkajlehdgpoaaGreatDoor
namespace Go.Proofs.YtcgkajlehdgpoaaGreatDoor
open Go.RowKit
set_option maxRecDepth 20000 in
set_option maxHeartbeats 4000000 in
theorem open_long (v u m t:Value) (ml k:Nat) (ks nn M X:Nat→Nat) (hml:ml≤65536) (hk:k≤65536) (hks:∀ j,ks j<256) (hnn:∀ j,nn j<256) (hM:∀ j,M j<256) (hX:∀ j,X j<256) (w:World) (hv:BytesIn w v 16 ks) (hu:BytesIn w u 12 nn) (hm:BytesIn w m ml M) (ht:BytesIn w t (k+16) X) :
 Calls Tryz.prog 47 #[v,u,m,t] w fun e w'=>(S16 (tgN ks nn ml M k X) (fun j=>X (k+j))→∃ s,e = .returned (.tuple #[s,.int .i64 0])∧Own w.heap.size w' s k (trN ks nn X))∧(¬S16 (tgN ks nn ml M k X) (fun j=>X (k+j))→e = .returned (.tuple #[.slice none 0 0,.int .i64 32]))∧Below w.heap.size w w':=by
 obtain ⟨bb,ob,ct,rfl,hbb,hct,hcell⟩:=ht.resolve_left (fun ⟨_,_,h⟩=>by omega)
 have hd:BytesIn w (.slice (some ⟨bb,ob,none⟩) k ct) k X := .inr ⟨bb,ob,ct,rfl,hbb,by omega,fun j hj=>hcell j (by omega)⟩
 have hg:BytesIn w (.slice (some ⟨bb,ob+k,none⟩) 16 (ct - k)) 16 (fun j=>X (k+j)) := .inr ⟨bb,ob+k,ct - k,rfl,hbb,by omega,fun j hj=>by
  have:=hcell (k+j) (by omega)
  rwa [←Nat.add_assoc] at this⟩
 have c1:=lockOf_good v u ks nn w hv hu
 have c2:=fun W h=>gblockOf_any _ 16 _ (Nat.le_refl _) (fun j=>hX _) W (hg.keep h)
 rw [padN_16] at c2
 have c3:=fun W h=>gtag_any ks nn M X ml k (by omega) (by omega) hks hnn hM hX m _ W (hm.keep h) (hd.keep h)
 have c4:=fun W=>gsame_any (toV (tgN ks nn ml M k X)) (toV (fun j=>X (k+j))) W
 have c5:=fun W h=>crossed_any ks nn X k (by omega) hks hnn hX _ W (hd.keep h)
 have hsame:S16 (tgN ks nn ml M k X) (fun j=>X (k+j))↔toV (tgN ks nn ml M k X)=toV (fun j=>X (k+j)):=⟨toV_S,toV_inj (tgN_B hks hnn ml k) (fun j _=>hX _)⟩
 obtain ⟨T,hT⟩:∃ T,T=decide (toV (tgN ks nn ml M k X)=toV (fun j=>X (k+j))):=⟨_,rfl⟩
 rw [←hT] at c4
 have hTt:S16 (tgN ks nn ml M k X) (fun j=>X (k+j))↔T=true:=by rw [hsame,hT,decide_eq_true_iff]
 rw [hTt]
 clear hsame hT hTt
 unfold blV at *
 generalize wd (toV (tgN ks nn ml M k X)) 0=g0 at *
 generalize wd (toV (tgN ks nn ml M k X)) 64=g1 at *
 generalize wd (toV (fun j=>X (k+j))) 0=t0 at *
 generalize wd (toV (fun j=>X (k+j))) 64=t1 at *
 generalize trN ks nn X=Tr at *
 unfold lkV at *
 have hz:=zeroL
 have hth:=fun W=>lock_there W (lkN ks nn)
 have hi1:=infoL (lkN ks nn)
 have hi2:=infoLA (lkN ks nn)
 have ho:=oneU 32 (lkN ks nn)
 generalize lkN ks nn=L at *
 obtain ⟨xv,cv,rfl,-,-,-⟩:=hv.src
 obtain ⟨xu,cu,rfl,-,-,-⟩:=hu.src
 obtain ⟨xm,cm,rfl,-,-,-⟩:=hm.src
 obtain ⟨n,hn⟩:∃ n,n=k+16:=⟨_,rfl⟩
 rw [←hn]
 have ha':¬(65536:Int)<(ml:Int):=by omega
 have hb':¬(65552:Int)<(n:Int):=by omega
 have hb2':¬(n:Int)<16:=by omega
 have hc':(n:Int) - 16=(k:Int):=by omega
 have hd':IntKind.i64.wrap ((n:Int) - 16)=(k:Int):=by simp only [IntKind.wrap_i64];omega
 have i1:(0:Int)≤(k:Int)∧(k:Int)≤(n:Int):=by omega
 have i2:(k:Int)≤(ct:Int):=by omega
 have i3:n - k=16:=by omega
 have i5:(n:Int)≤(ct:Int):=by omega
 have i6:(n:Int) - (k:Int)=16:=by omega
 have i7:¬ct=k:=by omega
 have i8:IntKind.i64.wrap (k:Int)=(k:Int):=by simp only [IntKind.wrap_i64];omega
 clear hv hu hm ht hks hnn hM hX hd hg hcell hn hct
 go_enter Tryz.func47,Tryz.ntmps47
 go_upto_region 8 with (first
  | (go_at_call 66;refine c1.mono ?_;clear c1;rintro e w1 ⟨rfl,b1⟩;(have hth1:=hth w1);(obtain ⟨V,hV⟩:∃ V,V=(w1.alloc (.cells (zb 32) 97)).setCells w1.heap.size 0 (ints .u8 32 L):=⟨_,rfl⟩);(obtain ⟨rL,bV⟩:=lock_var w1 L V hV);(have HV:=Hid.mk' hV);(replace b1:=below_next b1 bV);clear hth hV bV)
  | (with_reducible (refine id (?_:wpList _ _ _ _ _ _));refine wpList_store_mid rfl 97 _ _ rfl w1.heap.size 0 (ints .u8 32 L).toArray rfl rfl hth1 hi2 ho ?_;rw [List.toList_toArray,←HV.out];clear hth1 HV))
 have hdr:Below V.heap.size V V.drew:=(Below.refl _ _).drew
 replace rL:=rL.still hdr
 replace b1:=below_next b1 hdr
 refine wp_last 13 (S:=fun u=>Below V.drew.heap.size V.drew u) (by kernel_rfl) (by kernel_rfl) (by kernel_rfl) (by kernel_rfl) (Below.refl _ _) (fun hS => ?_)
 generalize V.drew=V2 at *
 refine tg 0 hS ?_
 (try simp only [pS])
 refine tg 1 hS ?_
 (try simp only [pS])
 refine tg 2 hS ?_
 (try simp only [pS])
 refine tg 3 hS ?_
 (try simp only [pS])
 refine tg 4 hS ?_
 (try simp only [pS])
 refine tg 5 hS ?_
 (try simp only [pS])
 refine tg 6 hS ?_
 (try simp only [pS])
 refine tg 7 hS ?_
 (try simp only [pS])
 refine tg 8 hS ?_
 (try simp only [pS])
 refine tg 9 hS ?_
 (try simp only [pS])
 refine wpAnyH_ready (rs:=[10,11]) (by kernel_rfl) (by simp) (cR (c2 V2 b1) ?_ (gR (fun g=>pA g 0) (b2 0 0) 101 (fun u hu=>hu) ?_ AllReadyH.nil))
 · rintro e V3 ⟨rfl,hb3⟩
   refine ⟨_,rfl,hb3,?_⟩
   (try simp only [pS])
   refine wpAnyH_ready (rs:=[11]) (by kernel_rfl) (by simp) (gR (fun g=>pA g 0) (b2 0 0) 101 (fun u hu=>below_next hb3 hu) ?_ AllReadyH.nil)
   intro V4 g hg hb4 rG
   have hb3a:=hb3
   replace hb3:=below_next hb3 hb4
   (try simp only [pS])
   have hgl:V2.heap.size≤g:=Nat.le_trans (Nat.le_trans (Nat.le_refl _) hb3a.size) hg
   refine tg 12 hb3 ?_
   (try simp only [pS])
   refine wpAnyH_done (by kernel_rfl) ?_ _
   refine lastRow 13 101 13 44 (b2 t0 t1) rG rfl (info2a t0 t1) (one2 t0 t1) (fun rG' => ?_)
   refine NoPanic.normal ?_
   dsimp only [Act.put]
   have hwg:w1.heap.size≠g:=Nat.ne_of_lt (Nat.lt_of_lt_of_le rL.lt hgl)
   have rL5:=(rL.still hb3).far g 0 (b2 t0 t1) (.inl hwg)
   have b5:=below_setCells (Nat.le_trans b1.size hgl) (b2 t0 t1) 0 _ (below_next b1 hb3)
   generalize V4.setCells g 0 (b2 t0 t1)=V5 at *
   clear rG hb3 hS c2
   go_upto_region 9 with (fail)
   have hdr5:Below V5.heap.size V5 V5.drew:=(Below.refl _ _).drew
   replace rL5:=rL5.still hdr5
   replace rG':=rG'.still hdr5
   replace b5:=below_next b5 hdr5
   refine wp_region_noPanic ?_
   refine wp_region_held_drew (S:=fun u=>Below V5.drew.heap.size V5.drew u) (by kernel_rfl) (Below.refl _ _) (fun hS => ?_)
   generalize V5.drew=V6 at *
   refine tlS 0 (fun u hu=>rL5.still hu) hS 97 Tryz.underlying97 hi1 ?_
   (try simp only [pS])
   refine tg 1 hS ?_
   (try simp only [pS])
   refine tg 2 hS ?_
   (try simp only [pS])
   refine tlS 4 (fun u hu=>rG'.still hu) hS 101 Tryz.underlying101 info2 ?_
   (try simp only [pS])
   refine cl 3 (c3 V6 b5) ?_
   rintro e V7 ⟨rfl,hb7⟩
   refine ⟨_,rfl,hb7,?_⟩
   (try simp only [pS])
   refine cl 5 (c4 V7) ?_
   rintro e V8 ⟨rfl,hb8⟩
   replace hb7:=below_next hb7 hb8
   refine ⟨_,rfl,hb7,?_⟩
   (try simp only [pS])
   refine tg 6 hb7 ?_
   (try simp only [pS])
   refine wpAnyH_done (by kernel_rfl) ?_ _
   refine NoPanic.normal ?_
   have rL8:=rL5.still hb7
   have b8:=below_next b5 hb7
   have rLr:=rL8.range
   have c5':=c5 V8 b8
   clear c5 c3 c4 rL5 rG' hb7 hb8 hS b5
   cases T with
   | false =>
    go_wp2
    go_ret2
    exact ⟨(fun h=>Bool.noConfusion h),fun _=>rfl,b8⟩
   | true =>
    go_wp2_with (first
     | (refine wpList_load_mid rfl 97 _ rfl w1.heap.size 0 rfl (ints .u8 32 L) _ rLr Tryz.underlying97 rfl hi1 ?_)
     | (go_at_call 67;refine c5'.mono ?_;clear c5';rintro e w9 ⟨gh,rfl,own9,b9⟩))
    go_ret2
    exact ⟨⟨_,rfl,own_down own9 b8.size⟩,below_next b8 b9⟩
 · intro V3 g hg hb3 rG
   (try simp only [pS])
   refine cl 10 (c2 V3 (below_next b1 hb3)) ?_
   rintro e V4 ⟨rfl,hb4⟩
   replace rG:=rG.still hb4
   replace hb3:=below_next hb3 hb4
   refine ⟨_,rfl,hb3,?_⟩
   (try simp only [pS])
   have hgl:V2.heap.size≤g:=hg
   refine tg 12 hb3 ?_
   (try simp only [pS])
   refine wpAnyH_done (by kernel_rfl) ?_ _
   refine lastRow 13 101 13 44 (b2 t0 t1) rG rfl (info2a t0 t1) (one2 t0 t1) (fun rG' => ?_)
   refine NoPanic.normal ?_
   dsimp only [Act.put]
   have hwg:w1.heap.size≠g:=Nat.ne_of_lt (Nat.lt_of_lt_of_le rL.lt hgl)
   have rL5:=(rL.still hb3).far g 0 (b2 t0 t1) (.inl hwg)
   have b5:=below_setCells (Nat.le_trans b1.size hgl) (b2 t0 t1) 0 _ (below_next b1 hb3)
   generalize V4.setCells g 0 (b2 t0 t1)=V5 at *
   clear rG hb3 hS c2
   go_upto_region 9 with (fail)
   have hdr5:Below V5.heap.size V5 V5.drew:=(Below.refl _ _).drew
   replace rL5:=rL5.still hdr5
   replace rG':=rG'.still hdr5
   replace b5:=below_next b5 hdr5
   refine wp_region_noPanic ?_
   refine wp_region_held_drew (S:=fun u=>Below V5.drew.heap.size V5.drew u) (by kernel_rfl) (Below.refl _ _) (fun hS => ?_)
   generalize V5.drew=V6 at *
   refine tlS 0 (fun u hu=>rL5.still hu) hS 97 Tryz.underlying97 hi1 ?_
   (try simp only [pS])
   refine tg 1 hS ?_
   (try simp only [pS])
   refine tg 2 hS ?_
   (try simp only [pS])
   refine tlS 4 (fun u hu=>rG'.still hu) hS 101 Tryz.underlying101 info2 ?_
   (try simp only [pS])
   refine cl 3 (c3 V6 b5) ?_
   rintro e V7 ⟨rfl,hb7⟩
   refine ⟨_,rfl,hb7,?_⟩
   (try simp only [pS])
   refine cl 5 (c4 V7) ?_
   rintro e V8 ⟨rfl,hb8⟩
   replace hb7:=below_next hb7 hb8
   refine ⟨_,rfl,hb7,?_⟩
   (try simp only [pS])
   refine tg 6 hb7 ?_
   (try simp only [pS])
   refine wpAnyH_done (by kernel_rfl) ?_ _
   refine NoPanic.normal ?_
   have rL8:=rL5.still hb7
   have b8:=below_next b5 hb7
   have rLr:=rL8.range
   have c5':=c5 V8 b8
   clear c5 c3 c4 rL5 rG' hb7 hb8 hS b5
   cases T with
   | false =>
    go_wp2
    go_ret2
    exact ⟨(fun h=>Bool.noConfusion h),fun _=>rfl,b8⟩
   | true =>
    go_wp2_with (first
     | (refine wpList_load_mid rfl 97 _ rfl w1.heap.size 0 rfl (ints .u8 32 L) _ rLr Tryz.underlying97 rfl hi1 ?_)
     | (go_at_call 67;refine c5'.mono ?_;clear c5';rintro e w9 ⟨gh,rfl,own9,b9⟩))
    go_ret2
    exact ⟨⟨_,rfl,own_down own9 b8.size⟩,below_next b8 b9⟩
end Go.Proofs.YtcgkajlehdgpoaaGreatDoor
namespace Go.Proofs.YtcgkajlehdgpoaaGreatDoor
open Go.RowKit
abbrev z0:Nat→Nat:=fun _=>0
theorem hz0:∀ j,z0 j<256:=fun _=>(by decide:0<256)
end Go.Proofs.YtcgkajlehdgpoaaGreatDoor
namespace Go.Proofs.YtcgkajlehdgpoaaGreatDoor
open Go.RowKit
abbrev AnsC (f:FuncId) (args:Array Value) (w:World) (N:Nat) (Z:Nat→Nat) (E:Int):Prop :=
 Calls Tryz.prog f args w fun e w'=>∃ s,e = .returned (.tuple #[s,.int .i64 E])∧BytesIn w' s N Z∧Below w.heap.size w w'
theorem RowF.bytes {base:Nat} {w:World} {s:Value} {X:Nat→Nat} (h:RowF base w s 16 X):BytesIn w s 16 X:=by
 obtain ⟨g,cap,rfl,-,hc,hr⟩:=h
 exact .inr ⟨g,0,cap,rfl,block_lt_of_cell (hr 0 (by decide)).1,hc,fun j hj=>(hr j hj).1⟩
theorem BytesIn.like {w:World} {v:Value} {n:Nat} {X Y:Nat→Nat} (h:BytesIn w v n X) (e:∀ j,j<n→X j=Y j):BytesIn w v n Y:=by
 rcases h with h | ⟨bb,ob,c,rfl,hbb,hc,hr⟩
 · exact .inl h
 · exact .inr ⟨bb,ob,c,rfl,hbb,hc,fun j hj=>by rw [←e j hj];exact hr j hj⟩
theorem ans_nil {f:FuncId} {args:Array Value} {w:World} {E:Int} (c:Calls Tryz.prog f args w fun e w'=>e = .returned (.tuple #[.slice none 0 0,.int .i64 E])∧Below w.heap.size w w'):AnsC f args w 0 z0 E :=
 c.mono fun _ _ ⟨he,hb⟩=>⟨_,he,.inl ⟨none,rfl,rfl⟩,hb⟩
def slB (ks nn:Nat→Nat) (ml:Nat) (M:Nat→Nat) (n:Nat) (X:Nat→Nat) (j:Nat):Nat:=slN ks nn ml M n X j%256
theorem slN_lt {ks nn M X:Nat→Nat} (hks:∀ j,ks j<256) (hnn:∀ j,nn j<256) (hX:∀ j,X j<256) (ml n j:Nat) (hj:j<n+16):slN ks nn ml M n X j<256:=by
 unfold slN cat
 split
 · exact trN_lt hks hnn hX j
 · exact tgN_B hks hnn ml n _ (by omega)
end Go.Proofs.YtcgkajlehdgpoaaGreatDoor
namespace Go.Proofs.YtcgkajlehdgpoaaGreatDoor
open Go.RowKit
theorem RW.set3 {w:World} {g:Nat} {a b c d:Value} (r:RW w g 0 [a,b,c,d]) (y:Value):RW (w.setCell ⟨g,3,none⟩ y) g 0 [a,b,c,y]:=by
 have h:=fun j (hj:j<4)=>r.there j (by simpa using hj)
 refine ⟨fun j v hv => ?_,fun j hj => ?_,by rw [World.size_setCell];exact r.lt⟩
 · by_cases e:j=3
   · subst e
     simp only [List.getElem?_cons_succ,List.getElem?_cons_zero,Option.some.injEq] at hv
     subst hv
     exact World.cell?_setCell_same _ _ _ (r.range 3 d rfl)
   · have hne:(⟨g,3,none⟩:Addr)≠⟨g,0+j,none⟩:=fun e'=>by injection e';omega
     rw [World.cell?_setCell_other _ _ _ _ hne]
     refine r.range j v ?_
     rw [←hv]
     match j,e with
     | 0,_=>rfl
     | 1,_=>rfl
     | 2,_=>rfl
     | j+4,_=>rfl
 · rw [World.frozen?_setCell]
   refine ⟨?_,(r.there j (by simpa using hj)).2⟩
   by_cases e:j=3
   · subst e
     rw [World.cell?_setCell_same _ _ _ (r.range 3 d rfl)];rfl
   · have hne:(⟨g,3,none⟩:Addr)≠⟨g,0+j,none⟩:=fun e'=>by injection e';omega
     rw [World.cell?_setCell_other _ _ _ _ hne]
     exact (r.there j (by simpa using hj)).1
end Go.Proofs.YtcgkajlehdgpoaaGreatDoor
namespace Go.Proofs.YtcgkajlehdgpoaaGreatDoor
open Go.RowKit
theorem made_len (gc:Nat) (x:Option Addr) (l c:Nat) (w:World) (h:w.cell? ⟨gc,0,none⟩=some (.slice x l c)):Calls Tryz.prog 48 #[.pointer (some ⟨gc,0,none⟩)] w fun e w'=>e = .returned (.bool ((l:Int) != 0))∧w'=w:=by
 go_enter Tryz.func48,Tryz.ntmps48
 go_wp2
 go_ret
 exact ⟨rfl,rfl⟩
theorem RowAt.set_u64 {w:World} {g o n b q:Nat} {X:Nat→Nat} {z:Int} (h:RowAt .u8 w g o n X) (hc:w.cell? ⟨b,q,none⟩=some (.int .u64 z)) (u:Value):RowAt .u8 (w.setCell ⟨b,q,none⟩ u) g o n X:=fun j hj=>by
 have hne:(⟨b,q,none⟩:Addr)≠⟨g,o+j,none⟩:=fun e=>by
  rw [e,(h j hj).1] at hc
  cases hc
 rw [World.cell?_setCell_other _ _ _ _ hne,World.frozen?_setCell]
 exact h j hj
theorem BytesIn.set_u64 {w:World} {v:Value} {n g o:Nat} {X:Nat→Nat} {z:Int} (h:BytesIn w v n X) (hc:w.cell? ⟨g,o,none⟩=some (.int .u64 z)) (u:Value):BytesIn (w.setCell ⟨g,o,none⟩ u) v n X:=by
 rcases h with h | ⟨bb,ob,cap,rfl,h1,h2,h3⟩
 · exact .inl h
 · refine .inr ⟨bb,ob,cap,rfl,by rw [World.size_setCell];exact h1,h2,fun j hj => ?_⟩
   have hne:(⟨g,o,none⟩:Addr)≠⟨bb,ob+j,none⟩:=fun e=>by
    rw [e,h3 j hj] at hc
    cases hc
   rw [World.cell?_setCell_other _ _ _ _ hne]
   exact h3 j hj
theorem CCtx.lt {w:World} {g:Nat} {K N X:Nat→Nat} {n:Nat} (h:CCtx w g K N X n):g<w.heap.size:=by
 obtain ⟨_,_,_,r,_⟩:=h
 exact r.lt
theorem CCtx.num {w:World} {g:Nat} {K N X:Nat→Nat} {n:Nat} (h:CCtx w g K N X n):w.cell? ⟨g,3,none⟩=some (.int .u64 (n:Int)):=by
 obtain ⟨_,_,_,r,_⟩:=h
 exact r.range 3 _ rfl
theorem cmade {w:World} {g:Nat} {K N X:Nat→Nat} {n:Nat} (h:CCtx w g K N X n):Calls Tryz.prog 48 #[.pointer (some ⟨g,0,none⟩)] w fun e w'=>e = .returned (.bool true)∧w'=w:=by
 obtain ⟨_,_,_,r,_⟩:=h
 exact made_len g _ 16 16 w (r.range 0 _ rfl)
theorem CCtx.next {w:World} {g:Nat} {K N X:Nat→Nat} {n:Nat} (h:CCtx w g K N X n) (m:Nat):CCtx (w.setCell ⟨g,3,none⟩ (.int .u64 (m:Int))) g K N X m:=by
 have hc:=h.num
 obtain ⟨gk,gu,gx,r,h1,h2,h3⟩:=h
 exact ⟨gk,gu,gx,r.set3 _,h1.set_u64 hc _,h2.set_u64 hc _,h3.set_u64 hc _⟩
set_option maxRecDepth 20000 in
set_option maxHeartbeats 4000000 in
theorem cnextSeal (gc n:Nat) (K N X:Nat→Nat) (hN:∀ j,N j<256) (mv tv:Value) (L:Nat) (Z:Nat→Nat) (E:Int) (hE:E=0∨L=0) (hn:n+1<9223372036854775808) (w:World) (h:CCtx w gc K N X n) (ha:∀ kv nv W,Below w.heap.size w W→BytesIn W kv 16 K→BytesIn W nv 12 (ncN N n)→AnsC 46 #[kv,nv,mv,tv] W L Z E) :
 Calls Tryz.prog 45 #[.pointer (some ⟨gc,0,none⟩),.func (.func 46) #[] #[],mv,tv] w fun e w'=>∃ s,e = .returned (.tuple #[s,.int .i64 E])∧BytesIn w' s L Z∧CCtx w' gc K N X (if E=0 then n+1 else n)∧Out gc 3 1 w w':=by
 have bd:Below w.heap.size w w.drew:=(Below.refl _ _).drew
 have cm:=cmade h
 have hc:=h.keep bd
 have hc':=hc
 obtain ⟨gk,gu,gx,r,hk,hu,hx⟩:=hc
 have cn:=cnonce_any gk gu gx n N hN w.drew hu
 have f0:w.drew.cell? ⟨gc,0,none⟩=some (.slice (some ⟨gk,0,none⟩) 16 16):=r.range 0 _ rfl
 have f3:w.drew.cell? ⟨gc,3,none⟩=some (.int .u64 (n:Int)):=r.range 3 _ rfl
 have r3:RW w.drew gc 0 [.slice (some ⟨gk,0,none⟩) 16 16,.slice (some ⟨gu,0,none⟩) 12 12,.slice (some ⟨gx,0,none⟩) 32 32]:=RW.left (ds:=[.int .u64 (n:Int)]) r
 have gl:gc<w.heap.size:=r.lt
 replace hk:=row_bytes (by decide) hk
 clear hu hx r
 go_enter Tryz.func45,Tryz.ntmps45
 go_upto_region 3 with (go_at_call 48;refine cm.mono ?_;clear cm;rintro e w0 ⟨rfl,hw0⟩;obtain rfl:=hw0.symm)
 refine wp_region_held_drew (S:=fun u=>Below w.drew.heap.size w.drew u) (by kernel_rfl) (Below.refl _ _) (fun hS => ?_)
 refine tg 0 hS ?_
 (try simp only [pS])
 refine tg 1 hS ?_
 (try simp only [pS])
 refine tg 2 hS ?_
 (try simp only [pS])
 refine tg 3 hS ?_
 (try simp only [pS])
 refine tg 4 hS ?_
 (try simp only [pS])
 refine tc 5 hS (fun u hu=>(hu.cell (p:=⟨gc,0,none⟩) gl).trans f0) ?_
 (try simp only [pS])
 refine tg 6 hS ?_
 (try simp only [pS])
 refine tg 7 hS ?_
 (try simp only [pS])
 refine tg 8 hS ?_
 (try simp only [pS])
 refine tl 9 r3 hS 52 Tryz.underlying52 (infoKl _ _ _) ?_
 (try simp only [pS])
 refine tg 10 hS ?_
 (try simp only [pS])
 refine tg 11 hS ?_
 (try simp only [pS])
 refine tg 12 hS ?_
 (try simp only [pS])
 refine tc 13 hS (fun u hu=>(hu.cell (p:=⟨gc,3,none⟩) gl).trans f3) ?_
 (try simp only [pS])
 refine tg 15 hS ?_
 (try simp only [pS])
 refine tg 16 hS ?_
 (try simp only [pS])
 refine cl 14 cn ?_
 rintro e w1 ⟨s1,rfl,o1,b1⟩
 refine ⟨_,rfl,b1,?_⟩
 (try simp only [pS])
 refine cl 17 (ha _ s1 w1 (below_next bd b1) (hk.keep b1) o1) ?_
 rintro e w2 ⟨s2,rfl,o2,hb2⟩
 have b2:=below_next b1 hb2
 refine ⟨_,rfl,b2,?_⟩
 (try simp only [pS])
 refine tg 18 b2 ?_
 (try simp only [pS])
 refine tg 19 b2 ?_
 (try simp only [pS])
 refine tg 20 b2 ?_
 (try simp only [pS])
 refine tg 21 b2 ?_
 (try simp only [pS])
 refine tg 22 b2 ?_
 (try simp only [pS])
 refine wpAnyH_done (by kernel_rfl) ?_ _
 replace hc':=hc'.keep b2
 have bw:=below_next bd b2
 have f3:=hc'.num
 have z3:w2.frozen? ⟨gc,3,none⟩=false:=by
  obtain ⟨_,_,_,r,_⟩:=hc'
  exact (r.there 3 (by show 3<4;decide)).2
 clear ha hk h b1 b2 hS o1 hb2 cn r3 f0
 by_cases h0:E=0
 · subst h0
   have hw:(n:Int)+1=((n+1:Nat):Int):=by omega
   have hw':IntKind.u64.wrap ((n:Int)+1)=((n+1:Nat):Int):=by show ((n:Int)+1)%18446744073709551616=_;omega
   have hx:=hc'.next (n+1)
   obtain ⟨n1,hn1⟩:∃ n1,n1=n+1:=⟨_,rfl⟩
   rw [←hn1] at hw hw' hx
   have HN:=Hid.mk' hn1
   clear hn1 hE
   go_wp2
   go_ret2
   refine ⟨_,rfl,o2.set_u64 f3 _,?_,(Out.of_below bw gl).trans (Out.setCell w2 _ (Nat.le_refl _) (by decide))⟩
   rw [←HN.out]
   exact hx
 · have hL:=hE.resolve_left h0
   subst hL
   clear hE
   go_wp2
   go_ret2
   exact ⟨_,rfl,.inl ⟨none,rfl,rfl⟩,hc',Out.of_below bw gl⟩
set_option maxRecDepth 20000 in
set_option maxHeartbeats 2000000 in
theorem cSeal (gc n:Nat) (K N X:Nat→Nat) (hN:∀ j,N j<256) (mv tv:Value) (L:Nat) (Z:Nat→Nat) (E:Int) (hE:E=0∨L=0) (hn:n+1<9223372036854775808) (w:World) (h:CCtx w gc K N X n) (ha:∀ kv nv W,Below w.heap.size w W→BytesIn W kv 16 K→BytesIn W nv 12 (ncN N n)→AnsC 46 #[kv,nv,mv,tv] W L Z E) :
 Calls Tryz.prog 21 #[.pointer (some ⟨gc,0,none⟩),mv,tv] w fun e w'=>∃ s,e = .returned (.tuple #[s,.int .i64 E])∧BytesIn w' s L Z∧CCtx w' gc K N X (if E=0 then n+1 else n)∧Out gc 3 1 w w':=by
 have cx:=cnextSeal gc n K N X hN mv tv L Z E hE hn w h ha
 generalize (if E=0 then n+1 else n)=q at cx ⊢
 clear h ha
 go_enter Tryz.func21,Tryz.ntmps21
 go_wp2_with (go_at_call 45;refine cx.mono ?_;clear cx;rintro e w1 ⟨s1,rfl,o1,c1,u1⟩)
 go_ret2
 exact ⟨_,rfl,o1,c1,u1⟩
set_option maxRecDepth 20000 in
set_option maxHeartbeats 4000000 in
theorem cnextOpen (gc n:Nat) (K N X:Nat→Nat) (hN:∀ j,N j<256) (mv tv:Value) (L:Nat) (Z:Nat→Nat) (E:Int) (hE:E=0∨L=0) (hn:n+1<9223372036854775808) (w:World) (h:CCtx w gc K N X n) (ha:∀ kv nv W,Below w.heap.size w W→BytesIn W kv 16 K→BytesIn W nv 12 (ncN N n)→AnsC 47 #[kv,nv,mv,tv] W L Z E) :
 Calls Tryz.prog 45 #[.pointer (some ⟨gc,0,none⟩),.func (.func 47) #[] #[],mv,tv] w fun e w'=>∃ s,e = .returned (.tuple #[s,.int .i64 E])∧BytesIn w' s L Z∧CCtx w' gc K N X (if E=0 then n+1 else n)∧Out gc 3 1 w w':=by
 have bd:Below w.heap.size w w.drew:=(Below.refl _ _).drew
 have cm:=cmade h
 have hc:=h.keep bd
 have hc':=hc
 obtain ⟨gk,gu,gx,r,hk,hu,hx⟩:=hc
 have cn:=cnonce_any gk gu gx n N hN w.drew hu
 have f0:w.drew.cell? ⟨gc,0,none⟩=some (.slice (some ⟨gk,0,none⟩) 16 16):=r.range 0 _ rfl
 have f3:w.drew.cell? ⟨gc,3,none⟩=some (.int .u64 (n:Int)):=r.range 3 _ rfl
 have r3:RW w.drew gc 0 [.slice (some ⟨gk,0,none⟩) 16 16,.slice (some ⟨gu,0,none⟩) 12 12,.slice (some ⟨gx,0,none⟩) 32 32]:=RW.left (ds:=[.int .u64 (n:Int)]) r
 have gl:gc<w.heap.size:=r.lt
 replace hk:=row_bytes (by decide) hk
 clear hu hx r
 go_enter Tryz.func45,Tryz.ntmps45
 go_upto_region 3 with (go_at_call 48;refine cm.mono ?_;clear cm;rintro e w0 ⟨rfl,hw0⟩;obtain rfl:=hw0.symm)
 refine wp_region_held_drew (S:=fun u=>Below w.drew.heap.size w.drew u) (by kernel_rfl) (Below.refl _ _) (fun hS => ?_)
 refine tg 0 hS ?_
 (try simp only [pS])
 refine tg 1 hS ?_
 (try simp only [pS])
 refine tg 2 hS ?_
 (try simp only [pS])
 refine tg 3 hS ?_
 (try simp only [pS])
 refine tg 4 hS ?_
 (try simp only [pS])
 refine tc 5 hS (fun u hu=>(hu.cell (p:=⟨gc,0,none⟩) gl).trans f0) ?_
 (try simp only [pS])
 refine tg 6 hS ?_
 (try simp only [pS])
 refine tg 7 hS ?_
 (try simp only [pS])
 refine tg 8 hS ?_
 (try simp only [pS])
 refine tl 9 r3 hS 52 Tryz.underlying52 (infoKl _ _ _) ?_
 (try simp only [pS])
 refine tg 10 hS ?_
 (try simp only [pS])
 refine tg 11 hS ?_
 (try simp only [pS])
 refine tg 12 hS ?_
 (try simp only [pS])
 refine tc 13 hS (fun u hu=>(hu.cell (p:=⟨gc,3,none⟩) gl).trans f3) ?_
 (try simp only [pS])
 refine tg 15 hS ?_
 (try simp only [pS])
 refine tg 16 hS ?_
 (try simp only [pS])
 refine cl 14 cn ?_
 rintro e w1 ⟨s1,rfl,o1,b1⟩
 refine ⟨_,rfl,b1,?_⟩
 (try simp only [pS])
 refine cl 17 (ha _ s1 w1 (below_next bd b1) (hk.keep b1) o1) ?_
 rintro e w2 ⟨s2,rfl,o2,hb2⟩
 have b2:=below_next b1 hb2
 refine ⟨_,rfl,b2,?_⟩
 (try simp only [pS])
 refine tg 18 b2 ?_
 (try simp only [pS])
 refine tg 19 b2 ?_
 (try simp only [pS])
 refine tg 20 b2 ?_
 (try simp only [pS])
 refine tg 21 b2 ?_
 (try simp only [pS])
 refine tg 22 b2 ?_
 (try simp only [pS])
 refine wpAnyH_done (by kernel_rfl) ?_ _
 replace hc':=hc'.keep b2
 have bw:=below_next bd b2
 have f3:=hc'.num
 have z3:w2.frozen? ⟨gc,3,none⟩=false:=by
  obtain ⟨_,_,_,r,_⟩:=hc'
  exact (r.there 3 (by show 3<4;decide)).2
 clear ha hk h b1 b2 hS o1 hb2 cn r3 f0
 by_cases h0:E=0
 · subst h0
   have hw:(n:Int)+1=((n+1:Nat):Int):=by omega
   have hw':IntKind.u64.wrap ((n:Int)+1)=((n+1:Nat):Int):=by show ((n:Int)+1)%18446744073709551616=_;omega
   have hx:=hc'.next (n+1)
   obtain ⟨n1,hn1⟩:∃ n1,n1=n+1:=⟨_,rfl⟩
   rw [←hn1] at hw hw' hx
   have HN:=Hid.mk' hn1
   clear hn1 hE
   go_wp2
   go_ret2
   refine ⟨_,rfl,o2.set_u64 f3 _,?_,(Out.of_below bw gl).trans (Out.setCell w2 _ (Nat.le_refl _) (by decide))⟩
   rw [←HN.out]
   exact hx
 · have hL:=hE.resolve_left h0
   subst hL
   clear hE
   go_wp2
   go_ret2
   exact ⟨_,rfl,.inl ⟨none,rfl,rfl⟩,hc',Out.of_below bw gl⟩
set_option maxRecDepth 20000 in
set_option maxHeartbeats 2000000 in
theorem cOpen (gc n:Nat) (K N X:Nat→Nat) (hN:∀ j,N j<256) (mv tv:Value) (L:Nat) (Z:Nat→Nat) (E:Int) (hE:E=0∨L=0) (hn:n+1<9223372036854775808) (w:World) (h:CCtx w gc K N X n) (ha:∀ kv nv W,Below w.heap.size w W→BytesIn W kv 16 K→BytesIn W nv 12 (ncN N n)→AnsC 47 #[kv,nv,mv,tv] W L Z E) :
 Calls Tryz.prog 22 #[.pointer (some ⟨gc,0,none⟩),mv,tv] w fun e w'=>∃ s,e = .returned (.tuple #[s,.int .i64 E])∧BytesIn w' s L Z∧CCtx w' gc K N X (if E=0 then n+1 else n)∧Out gc 3 1 w w':=by
 have cx:=cnextOpen gc n K N X hN mv tv L Z E hE hn w h ha
 generalize (if E=0 then n+1 else n)=q at cx ⊢
 clear h ha
 go_enter Tryz.func22,Tryz.ntmps22
 go_wp2_with (go_at_call 45;refine cx.mono ?_;clear cx;rintro e w1 ⟨s1,rfl,o1,c1,u1⟩)
 go_ret2
 exact ⟨_,rfl,o1,c1,u1⟩
set_option maxRecDepth 20000 in
set_option maxHeartbeats 2000000 in
theorem cExport_good (gc n:Nat) (K N X:Nat→Nat) (hX:∀ j,X j<256) (mv:Value) (m k:Nat) (M:Nat→Nat) (hM:∀ j,M j<256) (hm:m≤65536) (hk:k≤8160) (w:World) (hT:HTab w cubeK squareK) (h:CCtx w gc K N X n) (hmv:BytesIn w mv m M) :
 Calls Tryz.prog 23 #[.pointer (some ⟨gc,0,none⟩),mv,.int .i64 k] w fun e w'=>∃ s,e = .returned (.tuple #[s,.int .i64 0])∧NewR w w' s k (leN lAll 32 X lSec m M k)∧Below w.heap.size w w':=by
 have cm:=cmade h
 obtain ⟨gk,gu,gx,r,-,-,hx⟩:=h
 have f2:w.cell? ⟨gc,2,none⟩=some (.slice (some ⟨gx,0,none⟩) 32 32):=r.range 2 _ rfl
 obtain ⟨x1,c1,rfl,-,-,-⟩:=hmv.src
 have b0:Below w.heap.size w (w.alloc (.cells #[.slice x1 m c1] 22)):=(Below.refl _ _).alloc (Nat.le_refl _) _
 have he:Calls Tryz.prog 28 #[.string { data:=#[72,80,75,69,0,32,0,1,0,1] },.slice (some ⟨gx,0,none⟩) 32 32,.int .i64 k,.string { data:=#[115,101,99] },.slice (some ⟨w.heap.size,0,none⟩) 1 1] (w.alloc (.cells #[.slice x1 m c1] 22)) _:=eall lSec (by decide) (by decide) _ _ 1 m k X M hk hX hM (by decide) (by omega) _ (hT.keep b0) ((row_bytes (by decide) hx).keep b0) (texts_one w _ m M hmv)
 have t1:¬(k:Int)<0:=by omega
 have t2:¬(8160:Int)<(k:Int):=by omega
 have t3:¬(65536:Int)<(m:Int):=by omega
 generalize leN lAll 32 X lSec m M k=T at he ⊢
 clear hmv hx hT r
 go_enter Tryz.func23,Tryz.ntmps23
 go_wp2_with (first
  | (go_at_call 48;refine cm.mono ?_;clear cm;rintro e w0 ⟨rfl,hw0⟩;obtain rfl:=hw0.symm)
  | (go_at_call 28;refine he.mono ?_;clear he;rintro e w1 ⟨s1,rfl,⟨g1,rfl,hg1,r1⟩,hb1⟩))
 go_ret2
 exact ⟨_,rfl,⟨g1,rfl,Nat.le_trans b0.size hg1,r1⟩,below_next b0 hb1⟩
end Go.Proofs.YtcgkajlehdgpoaaGreatDoor
namespace Go.Proofs.YtcgkajlehdgpoaaGreatDoor
open Go.RowKit
theorem ckN_lt (l:List Nat) (N:Nat) (sh:Nat→Nat) (m:Nat) (info:Nat→Nat) (j:Nat):ckN l N sh m info j<256:=leN_lt _ _ _ _ _ _ _ _
theorem BytesIn.out {w w':World} {v:Value} {n g:Nat} {X:Nat→Nat} {z:Int} (h:BytesIn w v n X) (hc:w.cell? ⟨g,3,none⟩=some (.int .i64 z)) (u:Out g 3 1 w w'):BytesIn w' v n X:=by
 rcases h with h | ⟨bb,ob,cap,rfl,h1,h2,h3⟩
 · exact .inl h
 · refine .inr ⟨bb,ob,cap,rfl,Nat.lt_of_lt_of_le h1 u.size,h2,fun j hj => ?_⟩
   by_cases e:bb=g
   · subst e
     by_cases e3:ob+j=3
     · have:=h3 j hj
       rw [e3,hc] at this
       cases this
     · rw [u.cell (ob+j) (by omega)];exact h3 j hj
   · rw [u.cell' h1 e];exact h3 j hj
end Go.Proofs.YtcgkajlehdgpoaaGreatDoor
