/- What the proof stands on: G9J, G9E, ZF, ZG, G9H, G9I, G9K, G9L. -/
import Derived.Test.YtalgabgofpmebaaA8Op3M
import Derived.Test.YtalgabgofpmebaaA8OpsM
import Derived.Test.YtalgabgofpmebaaA8RKM
namespace Go.Proofs.Ytalgabgofpmebaa
open Go.RowKit
def hsG (h:V8) (B:Nat→V8) (s:V8):Nat→V8
 | 0=>s
 | k+1=>gTm (hsG h B s k ^^^ B k) h
theorem hsV_G (h s:V8) (n:Nat) (X:Nat→Nat):∀ k,hsV h s n X k=hsG h (blkT n X) s k
 | 0=>rfl
 | k+1=>by
  show gTm (hsV h s n X k ^^^ blkT n X k) h=gTm (hsG h (blkT n X) s k ^^^ blkT n X k) h
  rw [hsV_G h s n X k]
theorem hsS_G (h Z:Nat→Nat):∀ k,toV (hsS h Z k)=hsG (toV h) (fun k=>toV (fun j=>Z (16*k+j))) vZ k
 | 0=>toV_zero
 | k+1=>by
  show toV (tmN (fun j=>hsS h Z k j ^^^ Z (16*k+j)) h)=gTm (hsG (toV h) (fun k=>toV (fun j=>Z (16*k+j))) vZ k ^^^ toV (fun j=>Z (16*k+j))) (toV h)
  rw [←hsS_G h Z k,←toV_xor]
  exact toV_byV _
theorem hsG_S (h:V8) {B C:Nat→V8} (s:V8):∀ k,(∀ j,j<k→B j=C j)→hsG h B s k=hsG h C s k
 | 0,_=>rfl
 | k+1,e=>by
  show gTm (hsG h B s k ^^^ B k) h=gTm (hsG h C s k ^^^ C k) h
  rw [hsG_S h s k (fun j hj=>e j (by omega)),e k (by omega)]
theorem hsG_add (h:V8) (B:Nat→V8) (s:V8) (a:Nat):∀ b,hsG h B s (a+b)=hsG h (fun k=>B (a+k)) (hsG h B s a) b
 | 0=>rfl
 | b+1=>by
  show gTm (hsG h B s (a+b) ^^^ B (a+b)) h=gTm (hsG h (fun k=>B (a+k)) (hsG h B s a) b ^^^ B (a+b)) h
  rw [hsG_add h B s a b]
theorem pad_nb (n:Nat):pad n=16*nb n:=by unfold pad nb;omega
theorem hash_one (h X:Nat→Nat) (n:Nat):toV (hsN h n X)=hsC (toV h) (fun _=>n) (fun _=>X) 1:=by
 show toV (hsS h (padN n X) (pad n / 16))=hsV (toV h) vZ n X (nb n)
 rw [hsS_G,hsV_G,pad_nb,Nat.mul_div_cancel_left _ (by decide)]
 rfl
def three {α:Type} (a b c:α) (i:Nat):α:=if i=0 then a else if i=1 then b else c
theorem hash_tag (h M D:Nat→Nat) (ml dl:Nat):toV (hsN h (pad ml+pad dl+16) (auN ml M dl D))=hsC (toV h) (three ml dl 16) (three M D (byV (lnV ml dl))) 3:=by
 show toV (hsS h (padN (pad ml+pad dl+16) (auN ml M dl D)) (pad (pad ml+pad dl+16) / 16))=hsV (toV h) (hsV (toV h) (hsV (toV h) vZ ml M (nb ml)) dl D (nb dl)) 16 (byV (lnV ml dl)) (nb 16)
 have e0:pad (pad ml+pad dl+16) / 16=nb ml+(nb dl+1):=by unfold pad nb;omega
 rw [hsS_G,hsV_G,hsV_G,hsV_G,e0,hsG_add,hsG_add]
 have p1:=pad_nb ml
 have p2:=pad_nb dl
 have e1:hsG (toV h) (fun k=>toV (fun j=>padN (pad ml+pad dl+16) (auN ml M dl D) (16*k+j))) vZ (nb ml)=hsG (toV h) (blkT ml M) vZ (nb ml):=hsG_S _ _ _ fun k hk=>toV_S fun j hj=>by
  unfold padN auN cat
  rw [if_pos (by omega),if_pos (by omega),if_pos (by omega),if_pos (by omega)]
  rfl
 rw [e1]
 have e2:hsG (toV h) (fun k=>toV (fun j=>padN (pad ml+pad dl+16) (auN ml M dl D) (16*(nb ml+k)+j))) (hsG (toV h) (blkT ml M) vZ (nb ml)) (nb dl)=hsG (toV h) (blkT dl D) (hsG (toV h) (blkT ml M) vZ (nb ml)) (nb dl):=hsG_S _ _ _ fun k hk=>toV_S fun j hj=>by
  unfold padN auN cat
  rw [if_pos (by omega),if_pos (by omega),if_pos (by omega),if_neg (by omega),show 16*(nb ml+k)+j - pad ml=16*k+j by omega]
  rfl
 rw [e2]
 refine hsG_S _ _ _ fun k hk => ?_
 obtain rfl:k=0:=by omega
 have e3:blkT 16 (byV (lnV ml dl)) 0=lnV ml dl:=by
  have:blkT 16 (byV (lnV ml dl)) 0=toV (byV (lnV ml dl)):=toV_S fun j hj=>by
   unfold padN
   rw [if_pos (by omega),Nat.mul_zero,Nat.zero_add]
  rw [this,toV_byV]
 rw [e3]
 unfold lnV
 refine toV_S fun j hj => ?_
 unfold padN auN cat
 rw [if_pos (by omega)]
 by_cases h8:j<8
 · rw [if_pos (by omega),if_neg (by omega),if_pos h8]
   congr 1
   omega
 · rw [if_neg (by omega),if_neg h8]
   congr 1
   omega
theorem tag_block (ks nn M D:Nat→Nat) (ml dl:Nat):toV (tgN ks nn ml M dl D)=hsC (toV (h0N ks)) (three ml dl 16) (three M D (byV (lnV ml dl))) 3 ^^^ toV (ctB ks nn 1):=by
 rw [←hash_tag,BitVec.xor_comm,←toV_xor]
 rfl
end Go.Proofs.Ytalgabgofpmebaa
namespace Go.Proofs.Ytalgabgofpmebaa
open Go.RowKit
theorem zeroL (w:World):Sem.run Try.prog (zeroValue 54) w = .ok (.agg (zb 32)) w:=by kernel_rfl
theorem infoL (X:Nat→Nat):(Try.prog.info? 54).map (·.size)=some (ints .u8 32 X).length:=by rw [ints_len];kernel_rfl
theorem infoLA (X:Nat→Nat):(Try.prog.info? 54).map (·.size)=some (ints .u8 32 X).toArray.size:=by rw [ints_size];kernel_rfl
theorem infoH (X:Nat→Nat):(Try.prog.info? 52).map (·.size)=some (ints .u8 16 X).length:=by rw [ints_len];kernel_rfl
theorem results_cell_tmp' {P:Program} {fn:Func} {p q:Tmp} {ty:TypeId} (h:fn.results=#[.cell p ty,.tmp q]) (tmps:Array Value) (w:World) (g o:Nat) (cs:List Value) (d:TypeDesc)
 (hp:tmps.getD p undef = .pointer (some ⟨g,o,none⟩)) (hc:w.rangeAt g o cs)
 (hu:P.underlying ty=some d) (hd:d.isRow=true) (hi:(P.info? ty).map (·.size)=some cs.length) :
 (results fn tmps).run P w = .ok (.tuple #[.agg cs.toArray,tmps.getD q undef]) w:=by
 have hp':tmps[p]?.getD undef = .pointer (some ⟨g,o,none⟩):=by simpa using hp
 simp [results,h,hp',asAddr,run_loadVar_mid w g o ty cs d hc hu hd hi]
def lkN (ks nn:Nat→Nat):Nat→Nat:=over (over (fun _=>0) 0 16 ks) 16 12 nn
theorem lkN_key (ks nn:Nat→Nat) (j:Nat) (hj:j<16):lkN ks nn j=ks j:=by
 unfold lkN over
 rw [if_neg (by omega),if_pos (by omega),Nat.sub_zero]
abbrev lkV (ks nn:Nat→Nat):Value := .agg (ints .u8 32 (lkN ks nn)).toArray
set_option maxRecDepth 20000 in
set_option maxHeartbeats 2000000 in
theorem lockOf_good (v u:Value) (ks nn:Nat→Nat) (w:World) (hv:BytesIn w v 16 ks) (hu:BytesIn w u 12 nn) :
 Calls Try.prog 30 #[v,u] w fun e w'=>e = .returned (.tuple #[lkV ks nn,.int .i64 0])∧Below w.heap.size w w':=by
 have hz:=zeroL
 have hsz:(Try.prog.info? 5).map (·.size)=some 1:=by kernel_rfl
 obtain ⟨xv,cv,rfl,-,-,hsv⟩:=hv.src
 obtain ⟨xu,cu,rfl,-,-,hsu⟩:=hu.src
 obtain ⟨W,hW⟩:∃ W,W=(w.alloc (.cells (zb 32) 54)).alloc (.cells (zb 32) 54):=⟨_,rfl⟩
 have hbW:Below w.heap.size w W:=by rw [hW];exact ((Below.refl _ _).alloc (Nat.le_refl _) _).alloc (by simp) _
 have hA:RowAt .u8 W w.heap.size 0 32 (fun _=>0):=by rw [hW];exact (RowAt.zero w 32 _).alloc (by simp) _
 have hB:RowAt .u8 W (w.heap.size+1) 0 32 (fun _=>0):=by
  have:=RowAt.zero (w.alloc (.cells (zb 32) 54)) 32 54
  rw [World.size_alloc] at this
  rw [hW];exact this
 have src1:=hsv W hbW
 obtain ⟨V,hV⟩:∃ V,V=W.setCells (w.heap.size+1) 0 (ints .u8 16 ks):=⟨_,rfl⟩
 have hbV:Below w.heap.size w V:=by rw [hV];exact below_setCells (by omega) _ _ _ hbW
 have hAV:RowAt .u8 V w.heap.size 0 32 (fun _=>0):=by rw [hV];exact hA.farCells (by omega) _ _
 have hBV:RowAt .u8 V (w.heap.size+1) 0 32 (over (fun _=>0) 0 16 ks):=by
  have:=hB.splice 0 16 ks (by decide)
  rw [Nat.zero_add] at this
  rw [hV];exact this
 have src2:=hsu V hbV
 obtain ⟨U,hU⟩:∃ U,U=V.setCells (w.heap.size+1) 16 (ints .u8 12 nn):=⟨_,rfl⟩
 have hbU:Below w.heap.size w U:=by rw [hU];exact below_setCells (by omega) _ _ _ hbV
 have hAU:RowAt .u8 U w.heap.size 0 32 (fun _=>0):=by rw [hU];exact hAV.farCells (by omega) _ _
 have hBU:RowAt .u8 U (w.heap.size+1) 0 32 (lkN ks nn):=by
  have:=hBV.splice 16 12 nn (by decide)
  rw [Nat.zero_add] at this
  rw [hU];exact this
 have th1:W.there (w.heap.size+1) 0 16:=fun j hj=>hB.there j (by omega)
 have th2:V.there (w.heap.size+1) 16 16:=fun j hj=>by
  have:=hBV.there (16+j) (by omega)
  rwa [Nat.zero_add] at this
 have HW:=Hid.mk' hW
 have HV:=Hid.mk' hV
 have HU:=Hid.mk' hU
 have hi1:=infoL (lkN ks nn)
 have hi2:=infoLA (lkN ks nn)
 have ho:=oneU 32 (lkN ks nn)
 unfold lkV
 generalize lkN ks nn=Z at *
 have th3:U.there w.heap.size 0 (ints .u8 32 Z).toArray.size:=by rw [ints_size];exact hAU.there
 have hrg:=hBU.range
 have m1:16=Nat.min 16 16:=rfl
 have m2:12=Nat.min 12 16:=rfl
 have Hm1:=Hid.mk' m1
 have Hm2:=Hid.mk' m2
 clear hW hV hU hA hB hv hu hsv hsu hAV hBV hBU m1 m2 hbW hbV
 go_enter Try.func30,Try.ntmps30
 go_wp2_with (first
  | (rw [←HW.out];refine wpList_copy_bytes rfl _ _ 22 22 rfl 5 Try.underlying22 hsz (w.heap.size+1) 0 16 16 xv 16 cv rfl rfl 16 ks src1 Hm1.out th1 ?_;rw [←HV.out];clear src1 th1)
  | (refine wpList_copy_bytes rfl _ _ 22 22 rfl 5 Try.underlying22 hsz (w.heap.size+1) 16 16 16 xu 12 cu rfl rfl 12 nn src2 Hm2.out th2 ?_;rw [←HU.out];clear src2 th2)
  | (refine wpList_load_mid rfl 54 _ rfl (w.heap.size+1) 0 rfl (ints .u8 32 Z) _ hrg Try.underlying54 rfl hi1 ?_)
  | (refine wpList_store_mid rfl 54 _ _ rfl w.heap.size 0 (ints .u8 32 Z).toArray rfl rfl th3 hi2 ho ?_))
 (try simp only [Exit.inBlock,Exit.then])
 refine bodyPost_ret (results_cell_tmp' Try.results30 _ _ w.heap.size 0 (ints .u8 32 Z) _ rfl (World.rangeAt_setCells_same _ _ _ _ (by rw [ints_len];exact hAU.there)) Try.underlying54 rfl hi1) rfl ⟨rfl,?_⟩
 exact below_setCells (Nat.le_refl _) _ _ _ hbU
theorem blkS_Sg {w a b:Nat→Nat} (h:S16 a b):∀ r,S16 (blkS w a r) (blkS w b r)
 | 0=>addN_S h w 0
 | r+1=>addN_S (colN_S (rowN_S (thrN_S (blkS_Sg h r) boxN) 1) mT) w (r+1)
theorem blkN_Sg {w a b:Nat→Nat} (h:S16 a b):S16 (blkN w a) (blkN w b):=addN_S (rowN_S (thrN_S (blkS_Sg h 9) boxN) 1) w 10
theorem zb_ints (n:Nat):zb n=(ints .u8 n (fun _=>0)).toArray:=by
 have h:(List.range n).map (fun _=>Value.int .u8 0)=List.replicate n (.int .u8 0):=by
  rw [List.map_const',List.length_range]
 unfold zb ints
 rw [show (fun j:Nat=>Value.int .u8 (((fun _=>0:Nat→Nat) j:Nat):Int))=fun _ => .int .u8 0 from rfl,h]
 simp
set_option maxRecDepth 20000 in
set_option maxHeartbeats 2000000 in
theorem lockOf_bad (v u:Value) (n m:Nat) (ks nn:Nat→Nat) (w:World) (hv:BytesIn w v n ks) (hu:BytesIn w u m nn) (h:¬(n=16∧m=12)) :
 Calls Try.prog 30 #[v,u] w fun e w'=>e = .returned (.tuple #[.agg (ints .u8 32 (fun _=>0)).toArray,.int .i64 1])∧Below w.heap.size w w':=by
 have hz:=zeroL
 obtain ⟨xv,cv,rfl,-,-,-⟩:=hv.src
 obtain ⟨xu,cu,rfl,-,-,-⟩:=hu.src
 obtain ⟨W,hW⟩:∃ W,W=w.alloc (.cells (zb 32) 54):=⟨_,rfl⟩
 have hA:=RowAt.zero w 32 54
 have b1:Below w.heap.size w (w.alloc (.cells (zb 32) 54)):=(Below.refl _ _).alloc (Nat.le_refl _) _
 rw [←hW] at hA b1
 have HW:=Hid.mk' hW
 have hi1:=infoL (fun _=>0)
 have hi2:=infoLA (fun _=>0)
 have ho:=oneU 32 (fun _=>0)
 rw [←zb_ints] at hi2 ho ⊢
 have th3:W.there w.heap.size 0 (zb 32).size:=by rw [zb_ints,ints_size];exact hA.there
 clear hv hu hW
 have hcase:¬(n:Int)=16∨(n=16∧¬(m:Int)=12):=by omega
 clear h
 rcases hcase with hn' | ⟨rfl,hm'⟩
 all_goals
  go_enter Try.func30,Try.ntmps30
  go_wp2_with (first
   | (refine wpList_val (some 15) (.agg (zb 32)) rfl rfl (by kernel_rfl) ?_)
   | (rw [←HW.out];with_reducible (refine id (?_:wpList _ _ _ _ _ _));refine wpList_store_mid rfl 54 _ _ rfl w.heap.size 0 (zb 32) rfl rfl th3 hi2 ho ?_))
  (try simp only [Exit.inBlock,Exit.then])
  rw [zb_ints]
  refine bodyPost_ret (results_cell_tmp' Try.results30 _ _ w.heap.size 0 (ints .u8 32 (fun _=>0)) _ rfl (World.rangeAt_setCells_same _ _ _ _ (by rw [ints_len];exact hA.there)) Try.underlying54 rfl hi1) rfl ⟨rfl,?_⟩
  exact below_setCells (Nat.le_refl _) _ _ _ b1
set_option maxHeartbeats 1000000 in
theorem bitsOf_any (v:Value) (n:Nat) (X:Nat→Nat) (hn:n<200000) (w:World) (hv:BytesIn w v n X) :
 Calls Try.prog 41 #[v] w fun e w'=>e = .returned (.int .u64 ((8*n:Nat):Int))∧w'=w:=by
 obtain ⟨xv,cv,rfl,-,-,-⟩:=hv.src
 have e1:IntKind.u64.wrap (8*(n:Int))=((8*n:Nat):Int):=by show 8*(n:Int)%18446744073709551616=_;omega
 have e2:IntKind.u64.wrap (n:Int)=(n:Int):=by show (n:Int)%18446744073709551616=_;omega
 clear hv
 generalize 8*n=N at *
 go_enter Try.func41,Try.ntmps41
 go_wp2
 go_ret
 exact ⟨rfl,rfl⟩
set_option maxRecDepth 20000 in
set_option maxHeartbeats 2000000 in
theorem blockBy_any (ks B:Nat→Nat) (hks:∀ j,ks j<256) (hB:∀ j,B j<256) (L:Nat→Nat) (hL:∀ j,j<16→L j=ks j) (w:World) :
 Calls Try.prog 42 #[.agg (ints .u8 32 L).toArray,.agg (ints .u8 16 B).toArray] w fun e w'=>e = .returned (blV (toV (blkN (kyN ks) B)))∧Below w.heap.size w w':=by
 obtain ⟨V,hV⟩:∃ V,V=((w.alloc (.cells (ints .u8 32 L).toArray 54)).alloc (.cells (ints .u8 16 B).toArray 52)).alloc (.cells #[.int .u64 0,.int .u64 0] 43):=⟨_,rfl⟩
 have rL:RowAt .u8 V w.heap.size 0 32 L:=by
  rw [hV];exact ((RowAt.box .u8 w 32 L _).alloc (by simp) _).alloc (by simp;omega) _
 have rB:RowAt .u8 V (w.heap.size+1) 0 16 B:=by
  have:=(RowAt.box .u8 (w.alloc (.cells (ints .u8 32 L).toArray 54)) 16 B 52).alloc (by simp) (.cells #[.int .u64 0,.int .u64 0] 43)
  rw [World.size_alloc] at this
  rw [hV];exact this
 have rV:RW V (w.heap.size+1+1) 0 (b2 0 0):=by
  have:=RW.fresh ((w.alloc (.cells (ints .u8 32 L).toArray 54)).alloc (.cells (ints .u8 16 B).toArray 52)) (b2 0 0) 43
  rw [World.size_alloc,World.size_alloc] at this
  rw [hV];exact this
 have bV:Below w.heap.size w V:=by rw [hV];exact (((Below.refl _ _).alloc (Nat.le_refl _) _).alloc (by simp) _).alloc (by simp;omega) _
 have b1:Below V.heap.size V V.drew:=(Below.refl _ _).drew
 have i1:BytesIn V.drew (.slice (some ⟨w.heap.size,0,none⟩) 16 16) 16 ks := .inr ⟨_,_,_,rfl,block_lt_of_cell (rL.drew 0 (by decide)).1,Nat.le_refl _,fun j hj=>by rw [←hL j hj];exact (rL.drew j (by omega)).1⟩
 have i2:BytesIn V.drew (.slice (some ⟨w.heap.size+1,0,none⟩) 16 16) 16 B := .inr ⟨_,_,_,rfl,block_lt_of_cell (rB.drew 0 (by decide)).1,Nat.le_refl _,fun j hj=>(rB.drew j hj).1⟩
 have cB:=block_good _ _ ks B hks (fun j _=>hB j) V.drew i1 i2
 have hbl:=blkN_B (w:=kyN ks) (b:=B) (fun j _=>hB j) (kyN_lt hks)
 obtain ⟨Z,hZ⟩:∃ Z,Z=blkN (kyN ks) B:=⟨_,rfl⟩
 rw [←hZ] at cB hbl ⊢
 have co:=fun v W h=>blockOf_any v 16 (fun j=>Z j%256) (Nat.le_refl _) (fun j=>Nat.mod_lt _ (by decide)) W h
 have eZ:toV (padN 16 (fun j=>Z j%256))=toV Z:=toV_S fun j hj=>by unfold padN;rw [if_pos hj];exact Nat.mod_eq_of_lt (hbl j hj)
 rw [eZ] at co
 unfold blV at *
 obtain ⟨fx,hx⟩:∃ x,x=wd (toV Z) 0:=⟨_,rfl⟩
 obtain ⟨fy,hy⟩:∃ y,y=wd (toV Z) 64:=⟨_,rfl⟩
 rw [←hx,←hy] at co ⊢
 have HV:=Hid.mk' hV
 clear hV hx hy hZ eZ i1 i2 rL rB b1
 go_enter Try.func42,Try.ntmps42
 go_upto_region 1 with (fail)
 rw [←HV.out]
 clear HV
 replace rV:=rV.drew
 replace bV:=bV.drew
 go_region_held3 (fun w'=>Below V.drew.heap.size V.drew w') (first | assumption | exact Below.refl _ _) (first | (go_at_call 46;refine cB.mono ?_;clear cB;rintro e w1 ⟨g1,rfl,r1,hb1⟩))
 have co1:=co (.slice (some ⟨g1,0,none⟩) 16 16) w1 (.inr ⟨_,_,_,rfl,block_lt_of_cell (r1 0 (by decide)).1,Nat.le_refl _,fun j hj=>by
  have e:Z j%256=Z j:=Nat.mod_eq_of_lt (hbl j hj)
  show w1.cell? _=some (.int .u8 ((Z j%256:Nat):Int))
  rw [e];exact (r1 j hj).1⟩)
 replace rV:=rV.still hb1
 have b1:=below_next bV hb1
 have hV2:w.heap.size≤w.heap.size+1+1:=by omega
 clear co hb1 bV r1
 go_wp2_with (first
  | (go_at_call 23;refine co1.mono ?_;clear co1;rintro e w2 ⟨rfl,hb2⟩;(replace rV:=rV.still hb2);(replace b1:=below_next b1 hb2);(have t0:w2.there (w.heap.size+1+1) 0 (b2 fx fy).toArray.size:=rV.there);clear hb2)
  | (refine wpList_store_mid rfl 43 _ _ rfl (w.heap.size+1+1) 0 (b2 fx fy).toArray rfl rfl t0 (info2a fx fy) (one2 fx fy) ?_))
 (try simp only [Exit.inBlock,Exit.then])
 refine bodyPost_ret (results_cell_mid Try.results42 _ _ (w.heap.size+1+1) 0 (b2 fx fy) _ rfl (rV.stored (b2 fx fy) rfl).range Try.underlying43 rfl info2) rfl ⟨rfl,?_⟩
 exact below_setCells hV2 _ _ _ b1
def lkA (ks nn:Nat→Nat) (n k j:Nat):Nat:=if 32 - k≤j then be4 n (j - 28) else lkN ks nn j
theorem lkA_next (ks nn:Nat→Nat) (n k:Nat) (hk:k<4) (j:Nat) (hj:j<32):upd (lkA ks nn n k) (31 - k) (be4 n (3 - k)) j=lkA ks nn n (k+1) j:=by
 unfold upd lkA
 by_cases e:j=31 - k
 · subst e
   rw [if_pos rfl,if_pos (by omega),show 31 - k - 28=3 - k by omega]
 · rw [if_neg e]
   by_cases e2:32 - k≤j
   · rw [if_pos e2,if_pos (by omega)]
   · rw [if_neg e2,if_neg (by omega)]
theorem lkA_key (ks nn:Nat→Nat) (n j:Nat) (hj:j<16):lkA ks nn n 4 j=ks j:=by
 unfold lkA
 rw [if_neg (by omega),lkN_key _ _ _ hj]
theorem lkA_ctr (ks nn:Nat→Nat) (n j:Nat) (hj:j<16):lkA ks nn n 4 (16+j)=ctN nn n j:=by
 unfold lkA ctN
 by_cases h:j<12
 · rw [if_neg (by omega),if_pos h]
   unfold lkN over
   rw [if_pos (by omega),Nat.add_sub_cancel_left]
 · rw [if_pos (by omega),if_neg h,show 16+j - 28=j - 12 by omega]
set_option maxRecDepth 20000 in
set_option maxHeartbeats 2000000 in
theorem blockAt_any (ks nn:Nat→Nat) (n:Nat) (hks:∀ j,ks j<256) (hnn:∀ j,nn j<256) (w:World) :
 Calls Try.prog 40 #[lkV ks nn,.int .u32 n] w fun e w'=>e = .returned (blV (toV (ctB ks nn n)))∧Below w.heap.size w w':=by
 have cb:=fun W=>blockBy_any ks (fun j=>ctN nn n j%256) hks (fun j=>Nat.mod_lt _ (by decide)) (lkA ks nn n 4) (lkA_key ks nn n) W
 have hcl:=ctN_B hnn n
 have eB:ints .u8 16 (fun j=>ctN nn n j%256)=ints .u8 16 (ctN nn n):=ints_congr _ _ _ _ fun j hj=>Nat.mod_eq_of_lt (hcl j hj)
 have eT:toV (blkN (kyN ks) (fun j=>ctN nn n j%256))=toV (ctB ks nn n):=toV_S (blkN_Sg fun j hj=>Nat.mod_eq_of_lt (hcl j hj))
 rw [eB,eT] at cb
 obtain ⟨V,hV⟩:∃ V,V=(w.alloc (.cells (ints .u8 32 (lkN ks nn)).toArray 54)).alloc (.cells #[.int .u64 0,.int .u64 0] 43):=⟨_,rfl⟩
 have rL:RowAt .u8 V w.heap.size 0 32 (lkA ks nn n 0):=by
  rw [hV];exact ((RowAt.box .u8 w 32 (lkN ks nn) _).alloc (by simp) _).congr fun j hj=>by unfold lkA;rw [if_neg (by omega)]
 have rV:RW V (w.heap.size+1) 0 (b2 0 0):=by
  have:=RW.fresh (w.alloc (.cells (ints .u8 32 (lkN ks nn)).toArray 54)) (b2 0 0) 43
  rw [World.size_alloc] at this
  rw [hV];exact this
 have bV:Below w.heap.size w V:=by rw [hV];exact ((Below.refl _ _).alloc (Nat.le_refl _) _).alloc (by simp) _
 unfold blV at *
 obtain ⟨fx,hx⟩:∃ x,x=wd (toV (ctB ks nn n)) 0:=⟨_,rfl⟩
 obtain ⟨fy,hy⟩:∃ y,y=wd (toV (ctB ks nn n)) 64:=⟨_,rfl⟩
 rw [←hx,←hy] at cb ⊢
 have HV:=Hid.mk' hV
 have hi1:=infoL (lkA ks nn n 4)
 have hi3:=infoH (ctN nn n)
 clear hV hx hy eB eT hcl
 go_enter Try.func40,Try.ntmps40
 go_wp2
 rw [←HV.out]
 clear HV
 go_loopw [6] (fun i wr=>∃ k:Nat,k≤4∧i = .int .i64 k∧RowAt .u8 wr w.heap.size 0 32 (lkA ks nn n k)∧RW wr (w.heap.size+1) 0 (b2 0 0)∧Below w.heap.size w wr) (fun i _=>4 - (intOf i).toNat)
 case atStart=>exact ⟨0,Nat.zero_le _,rfl,rL,rV,bV⟩
 case round =>
  clear rL rV bV
  obtain ⟨k,hk,rfl,rL,rV,bV⟩:=hrel
  by_cases hlt:k<4
  · obtain ⟨c1,f1⟩:=rL (31 - k) (by omega)
    have hs:=rL.set (i:=31 - k) (by omega) (v:=(be4 n (3 - k):Int)) rfl
    rw [Nat.zero_add] at c1 f1 hs
    replace hs:=hs.congr fun j hj=>lkA_next ks nn n k hlt j hj
    obtain ⟨x,hx⟩:∃ x,x=be4 n (3 - k):=⟨_,rfl⟩
    obtain ⟨q,hq⟩:∃ q,q=31 - k:=⟨_,rfl⟩
    obtain ⟨sh,hsh⟩:∃ sh,sh=8*k:=⟨_,rfl⟩
    rw [←hq] at c1 f1 hs
    rw [←hx] at hs
    have e1:IntKind.u8.wrap ((n:Int) / 2 ^ sh)=(x:Int):=by
     rw [hx,hsh]
     unfold be4
     rw [show 3 - (3 - k)=k by omega]
     show (n:Int) / 2 ^ (8*k)%256=_
     simp
    obtain ⟨p,hp⟩:∃ p,p=15 - k:=⟨_,rfl⟩
    have e2:(15:Int) - (k:Int)=(p:Int):=by omega
    have e3:8*(k:Int)=(sh:Int):=by omega
    have e4:16+p=q:=by omega
    have t1:(0:Int)≤(p:Int)∧(p:Int)<16:=by omega
    have t2:(0:Int)≤(sh:Int)∧(sh:Int)<32:=by omega
    have hlt':(k:Int)<4:=by omega
    clear hp hq hsh hx cb hi1 hi3 rL
    go_wp2
    go_roundw
    case rel=>exact ⟨k+1,hlt,by go_num,hs,rV.far w.heap.size q [.int .u8 x] (.inl (by omega)),bV.setCell (Nat.le_refl _) _⟩
    case measure=>simp [intOf];omega
  · obtain rfl:k=4:=by omega
    have hr1:=rL.range
    have rC:RowAt .u8 wr w.heap.size 16 16 (ctN nn n):=fun j hj=>by
     have:=rL (16+j) (by omega)
     rwa [Nat.zero_add,lkA_ctr ks nn n j hj] at this
    have hr2:=rC.range
    generalize lkA ks nn n 4=L at *
    generalize ctN nn n=C at *
    clear rL rC
    go_wp2_with (first
     | (refine wpList_load_mid rfl 54 _ rfl w.heap.size 0 rfl (ints .u8 32 L) _ hr1 Try.underlying54 rfl hi1 ?_)
     | (refine wpList_load_mid rfl 52 _ rfl w.heap.size 16 rfl (ints .u8 16 C) _ hr2 Try.underlying52 rfl hi3 ?_)
     | (go_at_call 42;refine (cb _).mono ?_;clear cb;rintro e w2 ⟨rfl,hb2⟩;(replace rV:=rV.still hb2);(replace bV:=below_next bV hb2);(have t0:w2.there (w.heap.size+1) 0 (b2 fx fy).toArray.size:=rV.there);clear hb2)
     | (refine wpList_store_mid rfl 43 _ _ rfl (w.heap.size+1) 0 (b2 fx fy).toArray rfl rfl t0 (info2a fx fy) (one2 fx fy) ?_))
    (try simp only [Exit.inBlock,Exit.then])
    refine bodyPost_ret (results_cell_mid Try.results40 _ _ (w.heap.size+1) 0 (b2 fx fy) _ rfl (rV.stored (b2 fx fy) rfl).range Try.underlying43 rfl info2) rfl ⟨rfl,?_⟩
    exact below_setCells (Nat.le_succ _) _ _ _ bV
end Go.Proofs.Ytalgabgofpmebaa
namespace Go.Proofs.Ytalgabgofpmebaa
open Go.RowKit Go.Shelf
section
variable {P:Program} {md:Region.Mode} {ops:Array Oper} {Q:Exit→Act→World→Prop} {S:World→Prop} {fuel:Nat} {listed:Array Bool} {a:Act} {w:World}
def LastQ (P:Program) (ops:Array Oper) (Q:Exit→Act→World→Prop) (t:Nat):Exit→Act→World→Prop
 | .normal,a,w=>wpOp P ops Q t (Q .normal) a w
 | e,a,w=>Q e a w
def backward (md:Region.Mode) (ops:Array Oper):Bool:=(List.range ops.size).all fun i=>match ops[i]? with
 | none=>true
 | some o=>o.after.toList.all fun e=>!Region.binds md e || decide (e.on<i)
def waitsAll (md:Region.Mode) (ops:Array Oper) (t:Nat):Bool:=match ops[t]? with
 | none=>false
 | some o=>(List.range ops.size).all fun i=>decide (i=t) || o.after.toList.any fun e=>Region.binds md e && decide (e.on=i)
theorem backward_at (h:backward md ops=true) {i:Nat} {o:Oper} (ho:ops[i]? = some o) {e:Edge} (he:e∈o.after) (hb:Region.binds md e=true):e.on<i:=by
 have h1:=List.all_eq_true.1 h i (List.mem_range.2 (Array.getElem?_eq_some_iff.1 ho).1)
 rw [ho] at h1
 have h2:=List.all_eq_true.1 h1 e (Array.mem_toList_iff.2 he)
 rw [hb] at h2
 simpa using h2
theorem waitsAll_at {t:Nat} (h:waitsAll md ops t=true):∃ o,ops[t]? = some o∧∀ i,i<ops.size→i≠t→∃ e∈o.after,Region.binds md e=true∧e.on=i:=by
 unfold waitsAll at h
 split at h
 · cases h
 · rename_i o ho
   refine ⟨o,ho,fun i hi hne => ?_⟩
   have h1:=List.all_eq_true.1 h i (List.mem_range.2 hi)
   rw [decide_eq_false hne,Bool.false_or] at h1
   obtain ⟨e,he,h2⟩:=List.any_eq_true.1 h1
   rw [Bool.and_eq_true,decide_eq_true_eq] at h2
   exact ⟨e,Array.mem_toList_iff.1 he,h2.1,h2.2⟩
theorem wpOp_swap {Q':Exit→Act→World→Prop} (hp:∀ c a w,Q' (.panic c) a w→Q (.panic c) a w) (hl:LetsOut Q'→LetsOut Q) {i:Nat} {K:Act→World→Prop} (hh:wpOp P ops Q' i K a w):wpOp P ops Q i K a w:=by
 unfold wpOp at *
 split
 · simpa [*] using hh
 · rename_i o ho
   simp only [ho] at hh
   split
   · rename_i hw
     simp only [hw,if_true] at hh
     refine hh.imp (fun hh => ?_) (fun h=>⟨h.1,hl h.2⟩)
     unfold Oper.wp at *
     generalize (execOp a.eval o).run P w=r at *
     cases r with
     | ok n w' =>
      cases n <;> simp only [Oper.upon] at hh ⊢ <;>
       first
        | exact hh
        | exact Calls.mono hh (fun e w'' he=>by cases e <;> first | exact he | exact hp _ _ _ he | exact hl he)
     | halt x w'=>cases x <;> simp only [Oper.upon] at hh ⊢ <;> first | exact hh | exact hp _ _ _ hh
   · rename_i hw;simp only [hw] at hh;exact hh
theorem wpAny_end (hr:Region.ready md ops listed=[]) (h:Q .normal a w):∀ fuel,wpAny P md ops Q fuel listed a w
 | 0=>⟨hr,h⟩
 | _+1=>⟨fun _=>h,by rw [hr];simp⟩
theorem all_listed {t:Nat} (hb:backward md ops=true) (hz:listed.size=ops.size) (hr:Region.ready md ops (listed.setIfInBounds t true)=[]):∀ i,i<ops.size→i≠t→listed.getD i true=true:=by
 intro i
 induction i using Nat.strongRecOn with
 | ind i ih =>
  intro hi hne
  cases hc:listed.getD i true with
  | true=>rfl
  | false =>
   have hmem:i∈Region.ready md ops (listed.setIfInBounds t true):=by
    rw [mem_ready]
    refine ⟨by rw [getD_set_ne true (Ne.symm hne)];exact hc,ops[i],Array.getElem?_eq_getElem hi,fun e he hbe => ?_⟩
    have hlt:=backward_at hb (Array.getElem?_eq_getElem hi) he hbe
    by_cases het:e.on=t
    · rw [het]
      have:t<listed.size:=by omega
      simp [this]
    · have h1:=ih e.on hlt (by omega) het
      have hs:e.on<listed.size:=by omega
      rw [getD_set_ne false (Ne.symm het)]
      simp [hs] at h1 ⊢
      exact h1
   rw [hr] at hmem
   cases hmem
theorem wpAny_last {t:Nat} (ht:t<ops.size) (hb:backward md ops=true) (hw:waitsAll md ops t=true):∀ (fuel:Nat) (listed:Array Bool) (a:Act) (w:World),listed.size=ops.size→listed.getD t true=false →
 wpAny P md ops (LastQ P ops Q t) fuel (listed.setIfInBounds t true) a w→wpAny P md ops Q (fuel+1) listed a w:=by
 intro fuel
 induction fuel with
 | zero =>
  intro listed a w hz hlt h
  have hall:=all_listed hb hz h.1
  have hq:wpOp P ops Q t (Q .normal) a w:=h.2
  obtain ⟨o,ho,-⟩:=waitsAll_at hw
  have hmt:t∈Region.ready md ops listed:=mem_ready.2 ⟨hlt,o,ho,fun e he hbe=>by
   have h1:=backward_at hb ho he hbe
   have h2:=hall e.on (by omega) (by omega)
   have hs:e.on<listed.size:=by omega
   simp [hs] at h2 ⊢
   exact h2⟩
  refine ⟨fun h0=>(by rw [h0] at hmt;cases hmt),fun i hi => ?_⟩
  by_cases hit:i=t
  · subst hit
    exact wpOp_mono (fun a' w' h'=>wpAny_end h.1 h' _) hq
  · have:=ready_mono hi hit
    rw [h.1] at this
    cases this
 | succ fuel ih =>
  intro listed a w hz hlt h
  by_cases hr:Region.ready md ops (listed.setIfInBounds t true)=[]
  · have hall:=all_listed hb hz hr
    have hq:wpOp P ops Q t (Q .normal) a w:=h.1 hr
    obtain ⟨o,ho,-⟩:=waitsAll_at hw
    have hmt:t∈Region.ready md ops listed:=mem_ready.2 ⟨hlt,o,ho,fun e he hbe=>by
     have h1:=backward_at hb ho he hbe
     have h2:=hall e.on (by omega) (by omega)
     have hs:e.on<listed.size:=by omega
     simp [hs] at h2 ⊢
     exact h2⟩
    refine ⟨fun h0=>(by rw [h0] at hmt;cases hmt),fun i hi => ?_⟩
    by_cases hit:i=t
    · subst hit
      exact wpOp_mono (fun a' w' h'=>wpAny_end hr h' _) hq
    · have:=ready_mono hi hit
      rw [hr] at this
      cases this
  · obtain ⟨o,ho,hwt⟩:=waitsAll_at hw
    obtain ⟨j,hj⟩:=List.exists_mem_of_ne_nil _ hr
    obtain ⟨hju,oj,hoj,hjall⟩:=mem_ready.1 hj
    have hjs:j<ops.size:=(Array.getElem?_eq_some_iff.1 hoj).1
    have hjt:j≠t:=fun e=>by
     subst e
     have:j<listed.size:=by omega
     simp [this] at hju
    have hnt:t ∉ Region.ready md ops listed:=fun hm=>by
     obtain ⟨-,o',ho',hall⟩:=mem_ready.1 hm
     rw [ho] at ho'
     cases ho'
     obtain ⟨e,he,hbe,hej⟩:=hwt j hjs hjt
     have h1:=hall e he hbe
     rw [hej] at h1
     rw [getD_set_ne true (Ne.symm hjt)] at hju
     have hs:j<listed.size:=by omega
     simp [hs] at h1 hju
     rw [h1] at hju
     cases hju
    have hsome:∃ i,i∈Region.ready md ops listed:=by
     have hex:∃ i,i<ops.size∧i≠t∧listed.getD i true=false:=⟨j,hjs,hjt,by rwa [getD_set_ne true (Ne.symm hjt)] at hju⟩
     refine Classical.byContradiction fun hno => ?_
     obtain ⟨i,hi,hit,hiu⟩:=hex
     have hall:∀ i,i<ops.size→i≠t→listed.getD i true=true:=by
      intro i
      induction i using Nat.strongRecOn with
      | ind i ihh =>
       intro hi hne
       cases hc:listed.getD i true with
       | true=>rfl
       | false =>
        exfalso
        by_cases hti:∃ e∈ops[i].after,Region.binds md e=true∧e.on=t
        · obtain ⟨e1,he1,hb1,h1t⟩:=hti
          obtain ⟨e2,he2,hb2,h2i⟩:=hwt i hi hne
          have g1:=backward_at hb (Array.getElem?_eq_getElem hi) he1 hb1
          have g2:=backward_at hb ho he2 hb2
          omega
        · refine hno ⟨i,mem_ready.2 ⟨hc,ops[i],Array.getElem?_eq_getElem hi,fun e he hbe => ?_⟩⟩
          have hlt':=backward_at hb (Array.getElem?_eq_getElem hi) he hbe
          have h1:=ihh e.on hlt' (by omega) (fun het=>hti ⟨e,he,hbe,het⟩)
          have hs:e.on<listed.size:=by omega
          simp [hs] at h1 ⊢
          exact h1
     rw [hall i hi hit] at hiu
     cases hiu
    refine ⟨fun h0=>(by obtain ⟨i,hi⟩:=hsome;rw [h0] at hi;cases hi),fun i hi => ?_⟩
    have hit:i≠t:=fun e=>hnt (e ▸ hi)
    have h1:=h.2 i (ready_mono hi hit)
    refine wpOp_swap (Q':=LastQ P ops Q t) (fun _ _ _ h=>h) (fun h=>h) (wpOp_mono (fun a' w' h' => ?_) h1)
    refine ih (listed.setIfInBounds i true) a' w' (by simpa using hz) (by rw [getD_set_ne true hit];exact hlt) ?_
    rw [Array.setIfInBounds_comm _ _ hit]
    exact h'
theorem wpIn_last {l n id:Nat} (t:Nat) (hm:P.follows .mixedOrders=true) (hd:noDefer ops=true) (ht:t+1=ops.size) (hb:backward .any ops=true) (hw:waitsAll .any ops t=true) (hS:S w.drew)
 (h:S w.drew→wpAnyH P .any ops (LastQ P ops (OnlyN Q) t) S t ((Array.replicate (t+1) false).setIfInBounds t true) a w.drew):(Code.region id ops true).wpIn (Fence.wide.inRound l) n P Q a w:=by
 refine wpIn_mono (wpIn_region_any hm (any_in hd OnlyN.stays _ _ _ _ ?_)) OnlyN.imp
 rw [←ht]
 refine wpAny_last (by omega) hb hw t _ a _ (by simp [ht]) (by simp) ?_
 exact wpAny_of_held _ _ _ _ (h hS)
theorem wp_last {id:Nat} (t:Nat) (hm:P.follows .mixedOrders=true) (ht:t+1=ops.size) (hb:backward .any ops=true) (hw:waitsAll .any ops t=true) (hS:S w.drew)
 (h:S w.drew→wpAnyH P .any ops (LastQ P ops (NoPanic Q) t) S t ((Array.replicate (t+1) false).setIfInBounds t true) a w.drew):(Code.region id ops true).wp P Q a w:=by
 refine wp_region_noPanic (wp_region_any hm ?_)
 rw [←ht]
 refine wpAny_last (by omega) hb hw t _ a _ (by simp [ht]) (by simp) ?_
 exact wpAny_of_held _ _ _ _ (h hS)
theorem lastRow (t:Nat) {ot:Oper} (ty x y:Nat) {g off:Nat} {cs:List Value} (ds:List Value) (r:RW w g off cs) (hl:ds.length=cs.length) (hin:(P.info? ty).map (·.size)=some ds.toArray.size) (h1:ds.toArray.all (·.oneCell')=true) (h:RW (w.setCells g off ds) g off ds→Q .normal (a.put ot.dst undef) (w.setCells g off ds))
 (hi:ops.toList[t]? = some ot:=by rfl) (ho:ot.op = .store ty (.tmp x) (.tmp y):=by rfl) (hx:a.eval (.tmp x) = .pointer (some ⟨g,off,none⟩):=by rfl) (hy:a.eval (.tmp y) = .agg ds.toArray:=by rfl) (hw:Region.wanted ot (yielded ops a.tmps)=true:=by rfl):LastQ P ops Q t .normal a w:=by
 show wpOp P ops Q t (Q .normal) a w
 unfold wpOp
 rw [at_list hi]
 dsimp only
 rw [if_pos hw]
 exact .inl (wp_store_mid ty _ _ ho g off ds.toArray hx hy (by rw [List.size_toArray,hl];exact r.there) hin h1 (h (r.stored ds hl)))
theorem lastRun (t:Nat) {ot:Oper} {w':World} (h:Q .normal (a.put ot.dst undef) w') (hi:ops.toList[t]? = some ot:=by rfl) (hw:Region.wanted ot (yielded ops a.tmps)=true:=by rfl)
 (hrun:(execOp a.eval ot).run P w = .ok .skip w':=by go_simp;try with_reducible rfl):LastQ P ops Q t .normal a w:=by
 show wpOp P ops Q t (Q .normal) a w
 unfold wpOp
 rw [at_list hi]
 dsimp only
 rw [if_pos hw]
 refine .inl ?_
 unfold Oper.wp
 rw [hrun]
 exact h
end
end Go.Proofs.Ytalgabgofpmebaa
namespace Go.Proofs.Ytalgabgofpmebaa
open Go.RowKit Go.Shelf
section
variable {P:Program} {md:Region.Mode} {ops:Array Oper} {Q:Exit→Act→World→Prop} {S:World→Prop} {fuel:Nat} {listed:Array Bool} {a:Act} {w:World}
theorem tlS (i:Nat) {oi:Oper} {g off k:Nat} {cs:List Value} (r:∀ u,S u→RW u g off cs) (hS:S w) (ty:Nat) {d:TypeDesc} (hu:P.underlying ty=some d) (hin:(P.info? ty).map (·.size)=some cs.length)
 (h:wpAnyH P md ops Q S fuel (listed.setIfInBounds i true) (a.put oi.dst (.agg cs.toArray)) w) (hi:ops.toList[i]? = some oi:=by rfl) (ho:oi.op = .load ty (.tmp k):=by rfl)
 (hd:d.isRow=true:=by rfl) (hw:Region.wanted oi (yielded ops a.tmps)=true:=by rfl) (hx:a.eval (.tmp k) = .pointer (some ⟨g,off,none⟩):=by rfl)
 (hQ:∀ c b w,Q (.panic c) (b.put oi.dst (.agg cs.toArray)) w→Q (.panic c) b w:=by exact fun _ _ _ h=>h) (hs:Region.noSelect ops=true:=by kernel_rfl) (hf:Region.free md ops listed i=true:=by kernel_rfl) (hr:(Region.ready md ops listed).contains i=true:=by kernel_rfl):wpAnyH P md ops Q S (fuel+1) listed a w :=
 tkH i oi _ hS (yieldsIf_load_mid hw ty _ ho g off hx cs d (fun u hu=>(r u hu).range) hu hd hin) h hQ (at_list hi) hs hf hr
theorem wo (i:Nat) {oi:Oper} {v:Value} {w':World} (hrun:(execOp a.eval oi).run P w = .ok (.value v) w') (hk:S w') (h:wpAnyH P md ops Q S fuel (listed.setIfInBounds i true) (a.put oi.dst v) w')
 (hi:ops.toList[i]? = some oi:=by rfl) (hr:Region.ready md ops listed=[i]:=by kernel_rfl) (hw:Region.wanted oi (yielded ops a.tmps)=true:=by rfl):wpAnyH P md ops Q S (fuel+1) listed a w:=by
 refine wpAnyH_ready hr (by simp) (AllReadyH.cons (at_list hi) (fun K hK => ?_) AllReadyH.nil)
 rw [if_pos hw]
 unfold Oper.wp
 rw [hrun,Oper.upon_value]
 exact hK.out _ _ hk (fun _=>h)
theorem cR {i:Nat} {rs:List Nat} {oi:Oper} {f:FuncId} {args:Array Value} {R:Ending→World→Prop} (c:Calls P f args w R) (h:∀ e w',R e w'→∃ r,e = .returned r∧S w'∧wpAnyH P md ops Q S fuel (listed.setIfInBounds i true) (a.put oi.dst r) w') (hs:AllReadyH P md ops Q S fuel listed a w rs)
 (hi:ops.toList[i]? = some oi:=by rfl) (hw:Region.wanted oi (yielded ops a.tmps)=true:=by rfl) (hrun:(execOp a.eval oi).run P w = .ok (.enter f args) w:=by kernel_rfl):AllReadyH P md ops Q S fuel listed a w (i :: rs):=arC oi c h hs (at_list hi) hw hrun
theorem gR {i:Nat} {rs:List Nat} {oi:Oper} (v:Nat→Value) (cs:List Value) (t:TypeId) (hk:∀ u,Below w.heap.size w u→S u) (h:∀ w1 g,w.heap.size≤g→Below w.heap.size w w1→RW w1 g 0 cs→wpAnyH P md ops Q S fuel (listed.setIfInBounds i true) (a.put oi.dst (v g)) w1) (hs:AllReadyH P md ops Q S fuel listed a w rs)
 (hi:ops.toList[i]? = some oi:=by rfl) (hrun:(execOp a.eval oi).run P w = .ok (.value (v w.heap.size)) (w.alloc (.cells cs.toArray t)):=by kernel_rfl) (hw:Region.wanted oi (yielded ops a.tmps)=true:=by rfl):AllReadyH P md ops Q S fuel listed a w (i :: rs):=aG oi v cs t hk h hs hrun (at_list hi) hw
end
section
variable {md:Region.Mode} {ops:Array Oper} {Q:Exit→Act→World→Prop} {S:World→Prop} {fuel:Nat} {listed:Array Bool} {a:Act} {w:World}
theorem ao (i:Nat) {oi:Oper} (s x:Nat) (base g k cap:Nat) (X:Nat→Nat) (hown:Own base w (.slice (some ⟨g,0,none⟩) k cap) k X) (b m c:Nat) (B:Nat→Nat) (hsrc:∀ j,j<m→w.cell? ⟨b,j,none⟩=some (.int .u8 (B j))) (hfit:k+m≤cap)
 (h:∀ w',Own base w' (.slice (some ⟨g,0,none⟩) (k+m) cap) (k+m) (cat k X B)→But (fun q=>q=g) w w'→S w'∧wpAnyH Try.prog md ops Q S fuel (listed.setIfInBounds i true) (a.put oi.dst (.slice (some ⟨g,0,none⟩) (k+m) cap)) w')
 (hi:ops.toList[i]? = some oi:=by rfl) (hr:Region.ready md ops listed=[i]:=by kernel_rfl) (ho:oi.op = .call { callee := .builtin .append,args:=#[.tmp s,.tmp x],argTypes:=#[22,22] }:=by rfl)
 (hs:a.eval (.tmp s) = .slice (some ⟨g,0,none⟩) k cap:=by rfl) (hx:a.eval (.tmp x) = .slice (some ⟨b,0,none⟩) m c:=by rfl) (hw:Region.wanted oi (yielded ops a.tmps)=true:=by rfl):wpAnyH Try.prog md ops Q S (fuel+1) listed a w:=by
 obtain ⟨i0,hi0,hz0,hz1,hz2⟩:=info_parts Try.info5
 obtain ⟨w',hrun,h1,h2⟩:=run_append_fits (P:=Try.prog) w base 22 oi.type 5 i0 1 Try.underlying22 hi0 hz1 g k cap _ hown ⟨b,0,none⟩ m c (ints .u8 m B) (by rw [ints_len,Nat.mul_one]) (fun j u hu=>by
  have hj:j<m:=by have:=(List.getElem?_eq_some_iff.1 hu).1;rwa [ints_len] at this
  rw [ints_at _ _ _ j hj] at hu
  cases hu
  rw [Addr.add_mid,Nat.zero_add]
  exact hsrc j hj) (ints_one _ _ _) hfit
 rw [ints_add] at h1
 obtain ⟨hk,hh⟩:=h w' h1 ⟨h2.os,h2.tape,h2.output,h2.size,fun q hq hne=>h2.block q hq (fun e=>hne (by cases e;rfl))⟩
 refine wo i ?_ hk hh hi hr hw
 simp [execOp,ho,resolve,invoke,builtin,hs,hx,hrun,Result.andThen]
end
end Go.Proofs.Ytalgabgofpmebaa
namespace Go.Proofs.Ytalgabgofpmebaa
open Go.RowKit Go.Shelf
attribute [local go_sem] Oper.semAt_some
theorem Own.but {bad:Nat→Prop} {W W':World} {base g n c:Nat} {X:Nat→Nat} (h:Own base W (.slice (some ⟨g,0,none⟩) n c) n X) (hb:But bad W W') (hne:¬bad g):Own base W' (.slice (some ⟨g,0,none⟩) n c) n X:=by
 rcases h.2 with ⟨e,_⟩ | ⟨g',cap,cur,e,h1,h2,h3⟩
 · cases e
 · cases e
   exact ⟨h.1,.inr ⟨g,c,cur,rfl,h1,(hb.block g (Array.getElem?_eq_some_iff.1 h2).1 hne).trans h2,h3⟩⟩
theorem make_roomN (W:World) (n:Nat) (l:Int) (hl:l=(n:Int)) (hn:n≤1000000):(Instr.makeSlice 22 (.int .i64 0) (.int .i64 l)).run Try.prog W = .ok (.slice (some ⟨W.heap.size,0,none⟩) 0 n) (W.alloc (.cells (zb n) 5)):=by
 subst hl
 obtain ⟨i0,hi,hz0,hz1,hz2⟩:=info_parts (show (Try.prog.info? 5).map (fun i=>(i.zero,i.size,i.bytes))=some (some (.int .u8 0),1,1) by kernel_rfl)
 have:=run_makeSlice (P:=Try.prog) W 22 5 i0 (.int .u8 0) Try.underlying22 hi hz0 .i64 .i64 0 n (Int.le_refl _) (by omega) (by rw [hz1];simp;omega) (by rw [hz2];omega) (by omega)
 rw [this,hz1]
 simp only [Int.toNat_natCast,Int.toNat_zero,made_zb]
theorem Own.madeN (base:Nat) (W:World) (c:Nat) (X:Nat→Nat) (hb:base≤W.heap.size) (hc:c<1000000):Own base (W.alloc (.cells (zb c) 5)) (.slice (some ⟨W.heap.size,0,none⟩) 0 c) 0 X :=
 ⟨rfl,.inr ⟨W.heap.size,c,zb c,rfl,hb,World.alloc_heap_new _ _,Nat.zero_le _,by unfold maxLen;omega,by simp [zb],by simp [ints]⟩⟩
theorem RowAt.toRW {K:IntKind} {w:World} {g o n:Nat} {X:Nat→Nat} (h:RowAt K w g o n X) (hn:0<n):RW w g o (ints K n X):=⟨h.range,by rw [ints_len];exact h.there,block_lt_of_cell (h 0 hn).1⟩
structure CInv (w:World) (l D:Nat) (rec:Loop) (ks nn T:Nat→Nat) (n N:Nat) (tv:Value) (k:Nat) (W:World):Prop where
 lp:W.heap[l]? = some (.loop rec)
 dfr:W.heap[D]? = some (.deferred (some []))
 lock:RW W w.heap.size 0 (ints .u8 32 (lkN ks nn))
 txt:RW W (w.heap.size+1) 0 [tv]
 own:Own w.heap.size W (.slice (some ⟨w.heap.size+1+1,0,none⟩) (min n (16*k)) N) (min n (16*k)) T
 out:RW W (w.heap.size+1+1+1) 0 [.slice (some ⟨w.heap.size+1+1,0,none⟩) (min n (16*k)) N]
 num:RW W (w.heap.size+1+1+1+1) 0 [.int .u32 ((2+k:Nat):Int)]
 lst:W.cell? ⟨w.heap.size+1+1+1+1+1,0,none⟩=some tv
 box:W.cell? ⟨w.heap.size+1+1+1+1+1+1,0,none⟩=some (.slice (some ⟨w.heap.size+1+1+1+1+1,0,none⟩) 1 1)
 bel:Below w.heap.size w W
theorem CInv.below {w:World} {l D:Nat} {rec:Loop} {ks nn T:Nat→Nat} {n N:Nat} {tv:Value} {k:Nat} {W W':World} (H:CInv w l D rec ks nn T n N tv k W) (hb:Below W.heap.size W W'):CInv w l D rec ks nn T n N tv k W' :=
 ⟨(hb.block l (Array.getElem?_eq_some_iff.1 H.lp).1).trans H.lp,(hb.block D (Array.getElem?_eq_some_iff.1 H.dfr).1).trans H.dfr,H.lock.still hb,H.txt.still hb,H.own.below hb,H.out.still hb,H.num.still hb,(hb.cell (block_lt_of_cell H.lst)).trans H.lst,(hb.cell (block_lt_of_cell H.box)).trans H.box,below_next H.bel hb⟩
theorem cross_start (w:World) (L:Nat→Nat) (tv:Value) (N:Nat) (hN:N<1000000) (T:Nat→Nat) (w2:World)
 (hw:w2=((((((w.alloc (.cells (ints .u8 32 L).toArray 54)).alloc (.cells #[tv] 22)).alloc (.cells (zb N) 5)).alloc (.cells #[.slice (some ⟨w.heap.size+1+1,0,none⟩) 0 N] 22)).alloc (.cells #[.int .u32 2] 65)).alloc (.cells #[tv] 22)).alloc (.cells #[.slice (some ⟨w.heap.size+1+1+1+1+1,0,none⟩) 1 1] 64)) :
 w2.heap.size=w.heap.size+7∧Below w.heap.size w w2∧RW w2 w.heap.size 0 (ints .u8 32 L)∧RW w2 (w.heap.size+1) 0 [tv]∧Own w.heap.size w2 (.slice (some ⟨w.heap.size+1+1,0,none⟩) 0 N) 0 T∧RW w2 (w.heap.size+1+1+1) 0 [.slice (some ⟨w.heap.size+1+1,0,none⟩) 0 N]∧RW w2 (w.heap.size+1+1+1+1) 0 [.int .u32 2] ∧
  w2.cell? ⟨w.heap.size+1+1+1+1+1,0,none⟩=some tv∧w2.cell? ⟨w.heap.size+1+1+1+1+1+1,0,none⟩=some (.slice (some ⟨w.heap.size+1+1+1+1+1,0,none⟩) 1 1):=by
 have al:∀ (W:World) (o:Obj),Below W.heap.size W (W.alloc o):=fun W o=>(Below.refl _ _).alloc (Nat.le_refl _) _
 obtain ⟨a1,e1⟩:∃ a,a=w.alloc (.cells (ints .u8 32 L).toArray 54):=⟨_,rfl⟩
 obtain ⟨a2,e2⟩:∃ a,a=a1.alloc (.cells #[tv] 22):=⟨_,rfl⟩
 obtain ⟨a3,e3⟩:∃ a,a=a2.alloc (.cells (zb N) 5):=⟨_,rfl⟩
 obtain ⟨a4,e4⟩:∃ a,a=a3.alloc (.cells #[.slice (some ⟨w.heap.size+1+1,0,none⟩) 0 N] 22):=⟨_,rfl⟩
 obtain ⟨a5,e5⟩:∃ a,a=a4.alloc (.cells #[.int .u32 2] 65):=⟨_,rfl⟩
 obtain ⟨a6,e6⟩:∃ a,a=a5.alloc (.cells #[tv] 22):=⟨_,rfl⟩
 rw [←e1,←e2,←e3,←e4,←e5,←e6] at hw
 have s1:a1.heap.size=w.heap.size+1:=by rw [e1];simp
 have s2:a2.heap.size=w.heap.size+1+1:=by rw [e2,World.size_alloc,s1]
 have s3:a3.heap.size=w.heap.size+1+1+1:=by rw [e3,World.size_alloc,s2]
 have s4:a4.heap.size=w.heap.size+1+1+1+1:=by rw [e4,World.size_alloc,s3]
 have s5:a5.heap.size=w.heap.size+1+1+1+1+1:=by rw [e5,World.size_alloc,s4]
 have s6:a6.heap.size=w.heap.size+1+1+1+1+1+1:=by rw [e6,World.size_alloc,s5]
 have t6:Below a6.heap.size a6 w2:=by rw [hw];exact al _ _
 have t5:Below a5.heap.size a5 w2:=below_next (by rw [e6];exact al _ _) t6
 have t4:Below a4.heap.size a4 w2:=below_next (by rw [e5];exact al _ _) t5
 have t3:Below a3.heap.size a3 w2:=below_next (by rw [e4];exact al _ _) t4
 have t2:Below a2.heap.size a2 w2:=below_next (by rw [e3];exact al _ _) t3
 have t1:Below a1.heap.size a1 w2:=below_next (by rw [e2];exact al _ _) t2
 have t0:Below w.heap.size w w2:=below_next (by rw [e1];exact al _ _) t1
 have r0:RW a1 w.heap.size 0 (ints .u8 32 L):=by rw [e1];exact RW.fresh _ _ _
 have r1:RW a2 a1.heap.size 0 [tv]:=by rw [e2];exact RW.fresh _ [tv] _
 have r2:Own w.heap.size a3 (.slice (some ⟨a2.heap.size,0,none⟩) 0 N) 0 T:=by rw [e3];exact Own.madeN _ _ _ _ (by omega) hN
 have r3:RW a4 a3.heap.size 0 [.slice (some ⟨w.heap.size+1+1,0,none⟩) 0 N]:=by rw [e4];exact RW.fresh _ [_] _
 have r4:RW a5 a4.heap.size 0 [.int .u32 2]:=by rw [e5];exact RW.fresh _ [_] _
 have r5:RW a6 a5.heap.size 0 [tv]:=by rw [e6];exact RW.fresh _ [tv] _
 have r6:RW w2 a6.heap.size 0 [.slice (some ⟨w.heap.size+1+1+1+1+1,0,none⟩) 1 1]:=by rw [hw];exact RW.fresh _ [_] _
 rw [s1] at r1
 rw [s2] at r2
 rw [s3] at r3
 rw [s4] at r4
 rw [s5] at r5
 rw [s6] at r6
 refine ⟨by rw [hw,World.size_alloc,s6],t0,r0.still t1,r1.still t2,r2.below t3,r3.still t4,r4.still t5,(r5.still t6).range 0 _ rfl,r6.range 0 _ rfl⟩
theorem RW.one {w:World} {g:Nat} {v:Value} (r:RW w g 0 [v]):w.cell? ⟨g,0,none⟩=some v∧w.frozen? ⟨g,0,none⟩=false:=⟨r.range 0 v rfl,(r.there 0 (Nat.zero_lt_succ _)).2⟩
theorem cross_bytes {ks nn X:Nat→Nat} (hks:∀ j,ks j<256) (hnn:∀ j,nn j<256) (hX:∀ j,X j<256) (n k j:Nat) (hj:j<16) (hl:16*k+j<n):byV (blkT n X k ^^^ toV (ctB ks nn (2+k))) j=trN ks nn X (16*k+j):=by
 unfold blkT
 rw [←toV_xor]
 rw [byV_toV (fun i hi=>xor_byte (padN_lt hX _) (ctB_B hks hnn _ i hi)) j hj]
 unfold trN padN
 dsimp only
 rw [if_pos hl,show (16*k+j) / 16=k by omega,show (16*k+j)%16=j by omega]
theorem but_of_below {bad:Nat→Prop} {W W':World} (h:Below W.heap.size W W'):But bad W W':=⟨h.os,h.tape,h.output,h.size,fun k hk _=>h.block k hk⟩
set_option maxRecDepth 100000 in
set_option maxHeartbeats 4000000 in
theorem crossed_in (d:Nat) (ks nn X:Nat→Nat) (n:Nat) (hn:n<200000) (hks:∀ j,ks j<256) (hnn:∀ j,nn j<256) (hX:∀ j,X j<256) (v:Value) (w:World) (hv:BytesIn w v n X) :
 CallsIn Fence.wide d Try.prog 31 #[lkV ks nn,v] w fun e w'=>∃ g,e = .returned (.slice (some ⟨g,0,none⟩) n (n+16))∧Own w.heap.size w' (.slice (some ⟨g,0,none⟩) n (n+16)) n (trN ks nn X)∧Below w.heap.size w w':=by
 obtain ⟨xv,cv,rfl,-,-,-⟩:=hv.src
 have hmk:=fun W=>make_roomN W (n+16) ((n+16:Nat):Int) rfl (by omega)
 have cb:=fun xo n c W=>blocks_any xo n c W
 have e1:IntKind.i64.wrap ((n:Int)+16)=((n+16:Nat):Int):=by simp only [IntKind.wrap_i64];omega
 have e2:(n:Int)+16=((n+16:Nat):Int):=by omega
 generalize hN:n+16=N at *
 refine callsIn_of_wp_marks Try.func31 rfl trivial ?_ rfl
 simp only [Try.ntmps31,List.size_toArray,List.length_cons,List.length_nil,Nat.reduceAdd,Nat.reduceSub,Array.replicate_succ,Array.replicate_zero,List.push_toArray,List.append_toArray,List.nil_append,List.cons_append]
 unfold lkV
 gi_wp2_with (first
  | rw [hmk]
  | (refine ⟨trivial,(fun h=>by cases h),?_⟩;gi_at_call 28;refine (callsIn_wide.2 (cb _ _ _ _)).mono ?_;clear cb;rintro e w2 ⟨rfl,hw2⟩))
 obtain ⟨T,hT⟩:∃ T,T=trN ks nn X:=⟨_,rfl⟩
 have hN2:N<1000000:=by omega
 obtain ⟨hs2,hb2,q0,q1,q2,q3,q4,q5,q6⟩:=cross_start w (lkN ks nn) (.slice xv n cv) N hN2 T w2 hw2
 rw [←hw2]
 have HN:=Hid.mk' hN
 clear hw2 hmk e1 e2 hN2 hN
 refine wpIn_range_with rfl (fun _=>trivial) (fun h=>by cases h) rfl (enters_of Try.func39 (by kernel_rfl) rfl) (fun q0' e1 e2 e4 e5 e6 e7 => ?_)
 obtain ⟨W1,hW1⟩:∃ W1,W1=(w2.alloc (.deferred (some []))).alloc (.loop q0'):=⟨_,rfl⟩
 obtain ⟨l,hl⟩:∃ l,l=w2.heap.size+1:=⟨_,rfl⟩
 have hbl1:Below w2.heap.size w2 W1:=by rw [hW1];exact ((Below.refl _ _).alloc (Nat.le_refl _) _).alloc (by simp) _
 have hl1:W1.heap[l]? = some (.loop q0'):=by
  rw [hW1,hl];have:=World.alloc_heap_new (w2.alloc (.deferred (some []))) (.loop q0');rwa [World.size_alloc] at this
 have hD1:W1.heap[w2.heap.size]? = some (.deferred (some [])):=by
  rw [hW1];exact (Below.heap_alloc _ _ _ (by simp)).trans (World.alloc_heap_new w2 _)
 rw [←hW1,←hl]
 obtain ⟨D,hD⟩:∃ D,D=w2.heap.size:=⟨_,rfl⟩
 have hDl:D<l:=by omega
 rw [←hD] at hD1 ⊢
 have hDc:D=w.heap.size+7:=by omega
 clear hW1 hl
 have hI0:CInv w l D q0' ks nn T n N (.slice xv n cv) 0 W1:=⟨hl1,hD1,q0.still hbl1,q1.still hbl1,by rw [Nat.mul_zero,Nat.min_zero];exact q2.below hbl1,by rw [Nat.mul_zero,Nat.min_zero];exact q3.still hbl1,q4.still hbl1,(hbl1.cell (block_lt_of_cell q5)).trans q5,(hbl1.cell (block_lt_of_cell q6)).trans q6,hb2.trans (hbl1.mono hb2.size)⟩
 have hY:∀ k V,16*k<n→CInv w l D q0' ks nn T n N (.slice xv n cv) k V→YieldAt Fence.wide (d - 1 - 1) Try.prog l #[blV (blkT n X k)] V fun e W'=>e = .returned (.bool true)∧CInv w l D q0' ks nn T n N (.slice xv n cv) (k+1) W':=by
  intro k V hk hI
  obtain ⟨A,hA⟩:∃ A,A=16*k:=⟨_,rfl⟩
  obtain ⟨m,hm,hmc⟩:∃ m,(m=16∧A+16≤n∨A+m=n∧m<16)∧m≤16:=by
   by_cases h:A+16≤n
   · exact ⟨16,.inl ⟨rfl,h⟩,Nat.le_refl _⟩
   · exact ⟨n - A,.inr ⟨by omega,by omega⟩,by omega⟩
  have hA1:min n (16*k)=A:=by omega
  have hA2:min n (16*(k+1))=A+m:=by omega
  refine yield_round hI.lp (by rw [e5];rfl) ?_
  rw [e4,e5,e6,e7]
  have ca:=fun W=>blockAt_any ks nn (2+k) hks hnn W
  have cp:=fun W=>gplus_any (blkT n X k) (toV (ctB ks nn (2+k))) W
  have cy:=fun W=>gbytes_any (blkT n X k ^^^ toV (ctB ks nn (2+k))) W
  have hby:∀ j,j<m→byV (blkT n X k ^^^ toV (ctB ks nn (2+k))) j=T (A+j):=fun j hj=>by rw [hT,hA];exact cross_bytes hks hnn hX n k j (by omega) (by omega)
  unfold blV at *
  generalize toV (ctB ks nn (2+k))=c at *
  generalize blkT n X k=b at *
  generalize (b ^^^ c)=bc at *
  obtain ⟨x0,hx0⟩:∃ x,x=wd b 0:=⟨_,rfl⟩
  obtain ⟨x1,hx1⟩:∃ x,x=wd b 64:=⟨_,rfl⟩
  rw [←hx0,←hx1] at cp ⊢
  generalize wd c 0=c0 at *
  generalize wd c 64=c1 at *
  generalize wd bc 0=p0 at *
  generalize wd bc 64=p1 at *
  obtain ⟨V1,hV1⟩:∃ V1,V1=V.alloc (.cells #[.int .u64 x0,.int .u64 x1] 43):=⟨_,rfl⟩
  have rB:RW V1 V.heap.size 0 (b2 x0 x1):=by rw [hV1];exact RW.fresh _ _ _
  have bV1:Below V.heap.size V V1:=by rw [hV1];exact (Below.refl _ _).alloc (Nat.le_refl _) _
  have hI1:=hI.below bV1
  obtain ⟨V2,hV2⟩:∃ V2,V2=V1.putObj l (.loop { q0' with state := .busy }):=⟨_,rfl⟩
  have hbV:But (fun k=>k=l) V1 V2:=by rw [hV2];exact but_put _ _ _
  have hlV:V2.heap[l]? = some (.loop { q0' with state := .busy }):=by rw [hV2];exact World.putObj_heap_same (Array.getElem?_eq_some_iff.1 hI1.lp).1
  have hDV:V2.heap[D]? = some (.deferred (some [])):=(hbV.block _ (Array.getElem?_eq_some_iff.1 hI1.dfr).1 (by omega)).trans hI1.dfr
  have hlb:l<V.heap.size:=(Array.getElem?_eq_some_iff.1 hI.lp).1
  have hbeg:(Instr.beginRound l).run Try.prog V1 = .ok () V2:=by rw [hV2];exact run_beginRound hI1.lp e1
  replace rB:=rB.but hbV (by omega)
  have rL:=hI1.lock.but hbV (by omega)
  have rX:=hI1.txt.but hbV (by omega)
  have rW:=hI1.own.but hbV (by omega)
  have rO:=hI1.out.but hbV (by omega)
  have rN:=hI1.num.but hbV (by omega)
  have rP:=hbV.cell hI1.lst (by omega)
  have rQ:=hbV.cell hI1.box (by omega)
  have hBV:Below w.heap.size w V2:=hI1.bel.trans (hbV.below hI1.bel.size (by omega))
  rw [hA1] at rW rO
  have hAm:A+m≤N:=by have:=HN.out;omega
  have hfin:∀ V6:World,But (fun q=>q=w.heap.size+1+1∨q=w.heap.size+1+1+1∨q=w.heap.size+1+1+1+1) V2 V6→Own w.heap.size V6 (.slice (some ⟨w.heap.size+1+1,0,none⟩) (A+m) N) (A+m) T→RW V6 (w.heap.size+1+1+1) 0 [.slice (some ⟨w.heap.size+1+1,0,none⟩) (A+m) N]→RW V6 (w.heap.size+1+1+1+1) 0 [.int .u32 ((2+(k+1):Nat):Int)] →
   ∃ v W',(Instr.endRound l none).run Try.prog V6 = .ok v W'∧(Ending.returned v = .returned (.bool true)∧CInv w l D q0' ks nn T n N (.slice xv n cv) (k+1) W'):=by
   intro V6 hb3 o6 r6 n6
   have hl3:V6.heap[l]? = some (.loop { q0' with state := .busy }):=(hb3.block l (Array.getElem?_eq_some_iff.1 hlV).1 (by omega)).trans hlV
   have hrec:({ { q0' with state := .busy } with state := .ready,pending:=none }:Loop)=q0':=loop_back q0' e1 e2
   have hb5:=but_put V6 l (.loop q0')
   refine ⟨_,_,run_endRound none hl3,rfl,?_⟩
   simp only [Option.isNone_none,if_true,hrec]
   have hD3:=(hb3.block D (Array.getElem?_eq_some_iff.1 hDV).1 (by omega)).trans hDV
   exact ⟨World.putObj_heap_same (Array.getElem?_eq_some_iff.1 hl3).1,(hb5.block D (Array.getElem?_eq_some_iff.1 hD3).1 (by omega)).trans hD3,(rL.but hb3 (by omega)).but hb5 (by omega),(rX.but hb3 (by omega)).but hb5 (by omega),by rw [hA2];exact o6.but hb5 (by omega),by rw [hA2];exact r6.but hb5 (by omega),n6.but hb5 (by omega),hb5.cell (hb3.cell rP (by omega)) (by omega),hb5.cell (hb3.cell rQ (by omega)) (by omega),(hBV.trans (hb3.below hBV.size (by omega))).trans (hb5.below (Nat.le_trans hBV.size hb3.size) (by omega))⟩
  have hk32:IntKind.u32.wrap (((2+k:Nat):Int)+1)=((2+(k+1):Nat):Int):=by
   show (((2+k:Nat):Int)+1)%4294967296=_
   omega
  have HV1:=Hid.mk' hV1
  obtain ⟨u0,-⟩:=rX.one
  obtain ⟨u1,-⟩:=rO.one
  have hiL:=infoL (lkN ks nn)
  have hlO:w.heap.size+1+1+1<V.heap.size:=by have:=hI.out.lt;omega
  clear hV1 hV2 hx0 hx1 e1 e2 e4 e5 e6 e7 hI0 hbV hBV hDV hlV hI1 hI bV1 hD hDc hDl rX rP rQ hT hA2 hA1 q0 q1 q2 q3 q4 q5 q6 hA hk hs2
  obtain ⟨z,hz⟩:∃ z,z=2+k:=⟨_,rfl⟩
  obtain ⟨z1,hz1⟩:∃ z,z=2+(k+1):=⟨_,rfl⟩
  rw [←hz] at hk32 rN ca
  rw [←hz1] at hk32 hfin
  clear hz hz1
  rcases hm with ⟨rfl,hm⟩ | ⟨hm,hm16⟩
  · have v1:IntKind.i64.wrap ((n:Int) - (A:Int))=(n:Int) - (A:Int):=by simp only [IntKind.wrap_i64];omega
    have v2:(16:Int)≤(n:Int) - (A:Int):=by omega
    gi_wp2
    rw [←HV1.out]
    refine ⟨V2,hbeg,?_⟩
    gi_wp2
    have hdr:Below V2.heap.size V2 V2.drew:=(Below.refl _ _).drew
    have bdr:But (fun q=>q=w.heap.size+1+1) V2 V2.drew:=⟨rfl,rfl,rfl,Nat.le_refl _,fun _ _ _=>rfl⟩
    replace rB:=rB.still hdr
    replace rL:=rL.still hdr
    replace rO:=rO.still hdr
    replace rN:=rN.still hdr
    replace rW:=rW.below hdr
    refine wpIn_last 10 (S:=fun u=>But (fun q=>q=w.heap.size+1+1) V2.drew u) (by kernel_rfl) (by kernel_rfl) (by kernel_rfl) (by kernel_rfl) (by kernel_rfl) (But.refl _ _) (fun hS => ?_)
    generalize V2.drew=V3 at *
    refine tlS 1 (fun u hu=>rB.but hu (by omega)) hS 43 Try.underlying43 info2 ?_
    (try simp only [pS])
    refine tlS 2 (fun u hu=>rL.but hu (by omega)) hS 54 Try.underlying54 hiL ?_
    (try simp only [pS])
    refine tc 0 hS (fun u hu=>(rO.but hu (by omega)).one.1) ?_
    (try simp only [pS])
    refine tc 3 hS (fun u hu=>(rN.but hu (by omega)).one.1) ?_
    (try simp only [pS])
    refine tg 7 hS ?_
    (try simp only [pS])
    refine cl 4 (ca _) ?_
    rintro e V4 ⟨rfl,hb4⟩
    refine ⟨_,rfl,but_of_below hb4,?_⟩
    (try simp only [pS])
    refine cl 5 (cp _) ?_
    rintro e V5 ⟨rfl,hb5⟩
    replace hb5:=below_next hb4 hb5
    refine ⟨_,rfl,but_of_below hb5,?_⟩
    (try simp only [pS])
    refine cl 6 (cy _) ?_
    rintro e V6 ⟨gy,rfl,hgy,ry,hb6⟩
    have hg6:V3.heap.size≤gy:=Nat.le_trans hb5.size hgy
    replace hb6:=below_next hb5 hb6
    refine ⟨_,rfl,but_of_below hb6,?_⟩
    (try simp only [pS])
    refine tg 8 (but_of_below hb6) ?_
    (try simp only [pS])
    refine ao 9 23 31 w.heap.size (w.heap.size+1+1) A N T (rW.below hb6) gy 16 16 (fun j=>T (A+j)) (fun j hj=>by
     have:=(ry j (by omega)).1
     rw [Nat.zero_add,hby j hj] at this
     exact this) hAm ?_
    intro V7 own7 bt7
    have ot7:But (fun q=>q=w.heap.size+1+1) V3 V7:=(but_of_below hb6).trans bt7
    refine ⟨ot7,?_⟩
    (try simp only [pS])
    replace own7:=own7.congr (Y:=T) (fun j _=>by
     unfold cat
     by_cases h:j<A
     · rw [if_pos h]
     · rw [if_neg h]
       dsimp only
       rw [show A+(j - A)=j by omega])
    replace rO:=rO.but ot7 (by omega)
    replace rN:=rN.but ot7 (by omega)
    obtain ⟨y0,y1⟩:=rO.one
    refine wpAnyH_done (by kernel_rfl) ?_ _
    refine lastRun 10 (w':=V7.setCell ⟨w.heap.size+1+1+1,0,none⟩ (.slice (some ⟨w.heap.size+1+1,0,none⟩) (A+16) N)) ?_
    refine OnlyN.normal ?_
    dsimp only [Act.put]
    have r8:=rO.stored [.slice (some ⟨w.heap.size+1+1,0,none⟩) (A+16) N] rfl
    have bt8:But (fun q=>q=w.heap.size+1+1+1) V7 (V7.setCells (w.heap.size+1+1+1) 0 [.slice (some ⟨w.heap.size+1+1,0,none⟩) (A+16) N]):=(Out.setCells (o:=0) (n:=1) _ _ (Nat.le_refl _) (Nat.le_refl _)).but
    have n8:=rN.but bt8 (by omega)
    have own8:=own7.but bt8 (by omega)
    obtain ⟨V8,hV8⟩:∃ V8,V8=V7.setCells (w.heap.size+1+1+1) 0 [.slice (some ⟨w.heap.size+1+1,0,none⟩) (A+16) N]:=⟨_,rfl⟩
    rw [←hV8] at r8 bt8 n8 own8
    rw [show V7.setCell ⟨w.heap.size+1+1+1,0,none⟩ (.slice (some ⟨w.heap.size+1+1,0,none⟩) (A+16) N)=V8 from hV8.symm]
    have bt9:But (fun q=>q=w.heap.size+1+1+1+1) V8 (V8.setCells (w.heap.size+1+1+1+1) 0 [.int .u32 (z1:Int)]):=(Out.setCells (o:=0) (n:=1) _ _ (Nat.le_refl _) (Nat.le_refl _)).but
    have n9:=n8.stored [.int .u32 (z1:Int)] rfl
    obtain ⟨y2,y3⟩:=n8.one
    have hf:=hfin (V8.setCells (w.heap.size+1+1+1+1) 0 [.int .u32 (z1:Int)]) ((((bdr.trans ot7).mono (fun q h => .inl h)).trans (bt8.mono (fun q h => .inr (.inl h)))).trans (bt9.mono (fun q h => .inr (.inr h)))) (own8.but bt9 (by omega)) (r8.but bt9 (by omega)) n9
    clear hfin hV8 bt9 n9 own8 r8 n8 bt8 bt7 ot7 own7 rO rN y0 y1 ca cp cy hby rB rL rW hb4 hb5 hb6 ry
    gi_wp2
    exact hf
  · have v1:IntKind.i64.wrap ((n:Int) - (A:Int))=(m:Int):=by simp only [IntKind.wrap_i64];omega
    have v3:(n:Int) - (A:Int)=(m:Int):=by omega
    have v2:¬(16:Int)≤(m:Int):=by omega
    have v4:(m:Int)<16:=by omega
    have v5:(0:Int)≤(m:Int):=by omega
    have v6:(m:Int)≤16:=by omega
    clear hm hm16
    gi_wp2
    rw [←HV1.out]
    refine ⟨V2,hbeg,?_⟩
    gi_wp2
    have hdr:Below V2.heap.size V2 V2.drew:=(Below.refl _ _).drew
    have bdr:But (fun q=>q=w.heap.size+1+1) V2 V2.drew:=⟨rfl,rfl,rfl,Nat.le_refl _,fun _ _ _=>rfl⟩
    replace rB:=rB.still hdr
    replace rL:=rL.still hdr
    replace rO:=rO.still hdr
    replace rN:=rN.still hdr
    replace rW:=rW.below hdr
    refine wpIn_last 10 (S:=fun u=>But (fun q=>q=w.heap.size+1+1) V2.drew u) (by kernel_rfl) (by kernel_rfl) (by kernel_rfl) (by kernel_rfl) (by kernel_rfl) (But.refl _ _) (fun hS => ?_)
    generalize V2.drew=V3 at *
    refine tlS 1 (fun u hu=>rB.but hu (by omega)) hS 43 Try.underlying43 info2 ?_
    (try simp only [pS])
    refine tlS 2 (fun u hu=>rL.but hu (by omega)) hS 54 Try.underlying54 hiL ?_
    (try simp only [pS])
    refine tc 0 hS (fun u hu=>(rO.but hu (by omega)).one.1) ?_
    (try simp only [pS])
    refine tc 3 hS (fun u hu=>(rN.but hu (by omega)).one.1) ?_
    (try simp only [pS])
    refine tg 7 hS ?_
    (try simp only [pS])
    refine cl 4 (ca _) ?_
    rintro e V4 ⟨rfl,hb4⟩
    refine ⟨_,rfl,but_of_below hb4,?_⟩
    (try simp only [pS])
    refine cl 5 (cp _) ?_
    rintro e V5 ⟨rfl,hb5⟩
    replace hb5:=below_next hb4 hb5
    refine ⟨_,rfl,but_of_below hb5,?_⟩
    (try simp only [pS])
    refine cl 6 (cy _) ?_
    rintro e V6 ⟨gy,rfl,hgy,ry,hb6⟩
    have hg6:V3.heap.size≤gy:=Nat.le_trans hb5.size hgy
    replace hb6:=below_next hb5 hb6
    refine ⟨_,rfl,but_of_below hb6,?_⟩
    (try simp only [pS])
    refine tg 8 (but_of_below hb6) ?_
    (try simp only [pS])
    refine ao 9 23 31 w.heap.size (w.heap.size+1+1) A N T (rW.below hb6) gy m 16 (fun j=>T (A+j)) (fun j hj=>by
     have:=(ry j (by omega)).1
     rw [Nat.zero_add,hby j hj] at this
     exact this) hAm ?_
    intro V7 own7 bt7
    have ot7:But (fun q=>q=w.heap.size+1+1) V3 V7:=(but_of_below hb6).trans bt7
    refine ⟨ot7,?_⟩
    (try simp only [pS])
    replace own7:=own7.congr (Y:=T) (fun j _=>by
     unfold cat
     by_cases h:j<A
     · rw [if_pos h]
     · rw [if_neg h]
       dsimp only
       rw [show A+(j - A)=j by omega])
    replace rO:=rO.but ot7 (by omega)
    replace rN:=rN.but ot7 (by omega)
    obtain ⟨y0,y1⟩:=rO.one
    refine wpAnyH_done (by kernel_rfl) ?_ _
    refine lastRun 10 (w':=V7.setCell ⟨w.heap.size+1+1+1,0,none⟩ (.slice (some ⟨w.heap.size+1+1,0,none⟩) (A+m) N)) ?_
    refine OnlyN.normal ?_
    dsimp only [Act.put]
    have r8:=rO.stored [.slice (some ⟨w.heap.size+1+1,0,none⟩) (A+m) N] rfl
    have bt8:But (fun q=>q=w.heap.size+1+1+1) V7 (V7.setCells (w.heap.size+1+1+1) 0 [.slice (some ⟨w.heap.size+1+1,0,none⟩) (A+m) N]):=(Out.setCells (o:=0) (n:=1) _ _ (Nat.le_refl _) (Nat.le_refl _)).but
    have n8:=rN.but bt8 (by omega)
    have own8:=own7.but bt8 (by omega)
    obtain ⟨V8,hV8⟩:∃ V8,V8=V7.setCells (w.heap.size+1+1+1) 0 [.slice (some ⟨w.heap.size+1+1,0,none⟩) (A+m) N]:=⟨_,rfl⟩
    rw [←hV8] at r8 bt8 n8 own8
    rw [show V7.setCell ⟨w.heap.size+1+1+1,0,none⟩ (.slice (some ⟨w.heap.size+1+1,0,none⟩) (A+m) N)=V8 from hV8.symm]
    have bt9:But (fun q=>q=w.heap.size+1+1+1+1) V8 (V8.setCells (w.heap.size+1+1+1+1) 0 [.int .u32 (z1:Int)]):=(Out.setCells (o:=0) (n:=1) _ _ (Nat.le_refl _) (Nat.le_refl _)).but
    have n9:=n8.stored [.int .u32 (z1:Int)] rfl
    obtain ⟨y2,y3⟩:=n8.one
    have hf:=hfin (V8.setCells (w.heap.size+1+1+1+1) 0 [.int .u32 (z1:Int)]) ((((bdr.trans ot7).mono (fun q h => .inl h)).trans (bt8.mono (fun q h => .inr (.inl h)))).trans (bt9.mono (fun q h => .inr (.inr h)))) (own8.but bt9 (by omega)) (r8.but bt9 (by omega)) n9
    clear hfin hV8 bt9 n9 own8 r8 n8 bt8 bt7 ot7 own7 rO rN y0 y1 ca cp cy hby rB rL rW hb4 hb5 hb6 ry
    gi_wp2
    exact hf
 have hmin:min n (16*nb n)=n:=by unfold nb;omega
 refine (giter_in (d - 1) l (w.heap.size+1+1+1+1+1+1) (w.heap.size+1+1+1+1+1) 1 (fun _=>n) (fun _=>X) (fun _=>hX) (fun _ => .slice xv n cv) (fun i k W=>CInv w l D q0' ks nn T n N (.slice xv n cv) (if i=0 then k else nb n) W) (fun i k W H=>H.box) (fun i k W H j hj=>by
  obtain rfl:j=0:=by omega
  exact H.lst) (fun i k W H j hj=>hv.keep H.bel) (fun _=>by omega) (by decide) (fun i k W W' H hb=>H.below hb) (fun i W H=>by
   rw [show (if i=0 then nb n else nb n)=nb n by split <;> rfl] at H
   rw [if_neg (by omega)]
   exact H) (fun i k V hi hk H=>by
    obtain rfl:i=0:=by omega
    rw [if_pos rfl] at H ⊢
    exact hY k V hk H) W1 hI0).mono ?_
 rintro e W2 ⟨⟨v,rfl⟩,hG⟩
 rw [if_neg (by decide)] at hG
 obtain ⟨V,hV⟩:∃ V,V=W2.putObj l (.loop { q0' with state := .exhausted }):=⟨_,rfl⟩
 have hbV:But (fun k=>k=l) W2 V:=by rw [hV];exact but_put _ _ _
 have hDV:V.heap[D]? = some (.deferred (some [])):=(hbV.block _ (Array.getElem?_eq_some_iff.1 hG.dfr).1 (by omega)).trans hG.dfr
 have hBV:Below w.heap.size w V:=hG.bel.trans (hbV.below hG.bel.size (by omega))
 have hout:=hG.out.but hbV (by omega)
 have hown:=hG.own.but hbV (by omega)
 rw [hmin] at hout hown
 refine ⟨none,V,?_,?_⟩
 · have h:=run_endLoop (P:=Try.prog) hG.lp (by rw [e1];simp)
   rw [←hV,e2] at h
   exact h
 have hD':D<V.heap.size:=(Array.getElem?_eq_some_iff.1 hDV).1
 obtain ⟨u0,-⟩:=hout.one
 have hb5:=but_put V D (.deferred none)
 have own5:=hown.but hb5 (by omega)
 have hB5:=hBV.trans (hb5.below hBV.size (by omega))
 clear hV hY hI0 e1 e2 e4 e5 e6 e7 hbl1 hl1 hD1 hG q0 q1 q2 q3 q4 q5 q6 hout hown hD hDc hs2
 gi_wp2
 refine ⟨by simp,.inl ⟨_,_,rfl,run_takeDeferred hDV,?_⟩⟩
 have hN:=HN.out
 subst hN
 rw [hT] at own5
 exact ⟨_,results_tmp rfl _ _ _,w.heap.size+1+1,rfl,own5,hB5⟩
theorem crossed_any (ks nn X:Nat→Nat) (n:Nat) (hn:n<200000) (hks:∀ j,ks j<256) (hnn:∀ j,nn j<256) (hX:∀ j,X j<256) (v:Value) (w:World) (hv:BytesIn w v n X) :
 Calls Try.prog 31 #[lkV ks nn,v] w fun e w'=>∃ g,e = .returned (.slice (some ⟨g,0,none⟩) n (n+16))∧Own w.heap.size w' (.slice (some ⟨g,0,none⟩) n (n+16)) n (trN ks nn X)∧Below w.heap.size w w' :=
 callsIn_wide.1 (crossed_in 9 ks nn X n hn hks hnn hX v w hv)
end Go.Proofs.Ytalgabgofpmebaa
namespace Go.Proofs.Ytalgabgofpmebaa
open Go.RowKit
theorem three_all {α:Type} {p:α→Prop} {a b c:α} (ha:p a) (hb:p b) (hc:p c) (i:Nat):p (three a b c i):=by
 unfold three
 split
 · exact ha
 · split
   · exact hb
   · exact hc
set_option maxRecDepth 100000 in
set_option maxHeartbeats 4000000 in
theorem tag_any (ks nn M D:Nat→Nat) (ml dl:Nat) (hml:ml<200000) (hdl:dl<200000) (hks:∀ j,ks j<256) (hnn:∀ j,nn j<256) (hM:∀ j,M j<256) (hD:∀ j,D j<256) (m d:Value) (w:World) (hm:BytesIn w m ml M) (hd:BytesIn w d dl D) :
 Calls Try.prog 32 #[lkV ks nn,m,d] w fun e w'=>e = .returned (blV (toV (tgN ks nn ml M dl D)))∧Below w.heap.size w w':=by
 have cb1:=fun W h=>bitsOf_any m ml M hml W (hm.keep h)
 have cb2:=fun W h=>bitsOf_any d dl D hdl W (hd.keep h)
 have ch:=fun W=>blockBy_any ks (fun _=>0) hks (fun _=>by decide) (lkN ks nn) (lkN_key ks nn) W
 rw [←zb_ints,show blkN (kyN ks) (fun _=>0)=h0N ks from rfl] at ch
 have cy:=fun W=>gbytes_any (lnV ml dl) W
 have cbk:=fun xo n c W=>blocks_any xo n c W
 have hXs:∀ i j,three M D (byV (lnV ml dl)) i j<256:=fun i=>three_all (p:=fun X:Nat→Nat=>∀ j,X j<256) hM hD (byV_lt _) i
 have hNs:∀ i,three ml dl 16 i<4611686018427387904:=three_all (p:=fun n=>n<4611686018427387904) (by omega) (by omega) (by decide)
 have cH:=fun pb lb U W h1 h2 h3=>hashed_any (toV (h0N ks)) pb lb 3 (three ml dl 16) (three M D (byV (lnV ml dl))) hXs U hNs (by decide) W h1 h2 h3
 have ca:=fun W=>blockAt_any ks nn 1 hks hnn W
 have cp:=fun W=>gplus_any (hsC (toV (h0N ks)) (three ml dl 16) (three M D (byV (lnV ml dl))) 3) (toV (ctB ks nn 1)) W
 rw [tag_block]
 unfold blV at *
 rw [(ln_words ml dl hml hdl).1,(ln_words ml dl hml hdl).2] at cy
 generalize hLb:byV (lnV ml dl)=Lb at *
 generalize wd (hsC (toV (h0N ks)) (three ml dl 16) (three M D Lb) 3 ^^^ toV (ctB ks nn 1)) 0=f0 at *
 generalize wd (hsC (toV (h0N ks)) (three ml dl 16) (three M D Lb) 3 ^^^ toV (ctB ks nn 1)) 64=f1 at *
 generalize wd (hsC (toV (h0N ks)) (three ml dl 16) (three M D Lb) 3) 0=s0 at *
 generalize wd (hsC (toV (h0N ks)) (three ml dl 16) (three M D Lb) 3) 64=s1 at *
 generalize wd (toV (ctB ks nn 1)) 0=c0 at *
 generalize wd (toV (ctB ks nn 1)) 64=c1 at *
 generalize wd (toV (h0N ks)) 0=k0 at *
 generalize wd (toV (h0N ks)) 64=k1 at *
 have h8m:8*ml<18446744073709551616:=by omega
 generalize 8*ml=m8 at *
 generalize 8*dl=d8 at *
 obtain ⟨xm,cm,rfl,-,-,-⟩:=hm.src
 obtain ⟨xd,cd,rfl,-,-,-⟩:=hd.src
 unfold lkV at *
 have hiL:=infoL (lkN ks nn)
 generalize lkN ks nn=L at *
 obtain ⟨V0,hV0⟩:∃ V,V=(w.alloc (.cells (ints .u8 32 L).toArray 54)).alloc (.cells #[.int .u64 0,.int .u64 0] 43):=⟨_,rfl⟩
 have b0:Below w.heap.size w V0:=by rw [hV0];exact ((Below.refl _ _).alloc (Nat.le_refl _) _).alloc (by simp) _
 have rL:RW V0 w.heap.size 0 (ints .u8 32 L):=by rw [hV0];exact (RW.fresh w _ _).still ((Below.refl _ _).alloc (Nat.le_refl _) _)
 have s0z:V0.heap.size=w.heap.size+1+1:=by rw [hV0];simp
 have rR:RW V0 (w.heap.size+1) 0 (b2 0 0):=by
  have:=RW.fresh (w.alloc (.cells (ints .u8 32 L).toArray 54)) (b2 0 0) 43
  rw [World.size_alloc] at this
  rw [hV0];exact this
 obtain ⟨V1,hV1⟩:∃ V,V=V0.alloc (.cells #[.int .u64 m8,.int .u64 d8] 43):=⟨_,rfl⟩
 have b01:Below V0.heap.size V0 V1:=by rw [hV1];exact (Below.refl _ _).alloc (Nat.le_refl _) _
 have rLen:RW V1 V0.heap.size 0 (b2 m8 d8):=by rw [hV1];exact RW.fresh V0 (b2 m8 d8) 43
 replace rL:=rL.still b01
 replace rR:=rR.still b01
 have b1:=below_next b0 b01
 have HV1:=Hid.mk' hV1
 have HV0:=Hid.mk' hV0
 have rLr:=rL.range
 clear hV0 hV1 s0z b01 hks hnn hM hD
 go_enter Try.func32,Try.ntmps32
 go_upto_region 3 with (first
  | (go_at_call 41;rw [←HV0.out];refine (cb1 V0 b0).mono ?_;clear cb1;rintro e w1 ⟨rfl,rfl⟩)
  | (go_at_call 41;refine (cb2 _ b0).mono ?_;clear cb2;rintro e w2 ⟨rfl,rfl⟩)
  | (rw [←HV1.out];refine wpList_load_mid rfl 54 _ rfl w.heap.size 0 rfl (ints .u8 32 L) _ rLr Try.underlying54 rfl hiL ?_)
  | (refine wpList_val (some 15) (.agg (zb 16)) rfl rfl (by kernel_rfl) ?_)
  | (go_at_call 42;refine (ch _).mono ?_;clear ch;rintro e w3 ⟨rfl,hb3⟩))
 replace rL:=rL.still hb3
 replace rR:=rR.still hb3
 replace rLen:=rLen.still hb3
 have b3:=below_next b1 hb3
 obtain ⟨V4,hV4⟩:∃ V,V=w3.alloc (.cells #[.int .u64 k0,.int .u64 k1] 43):=⟨_,rfl⟩
 have b34:Below w3.heap.size w3 V4:=by rw [hV4];exact (Below.refl _ _).alloc (Nat.le_refl _) _
 have rK:RW V4 w3.heap.size 0 (b2 k0 k1):=by rw [hV4];exact RW.fresh w3 (b2 k0 k1) 43
 rw [←hV4]
 replace rL:=rL.still b34
 replace rR:=rR.still b34
 replace rLen:=rLen.still b34
 have b4:=below_next b3 b34
 clear hV4 HV0 HV1 hb3 b3 b34 b1 b0 rLr
 have hdr:Below V4.heap.size V4 V4.drew:=(Below.refl _ _).drew
 replace rL:=rL.still hdr
 replace rR:=rR.still hdr
 replace rLen:=rLen.still hdr
 replace rK:=rK.still hdr
 replace b4:=below_next b4 hdr
 refine wp_last 11 (S:=fun u=>Below V4.drew.heap.size V4.drew u) (by kernel_rfl) (by kernel_rfl) (by kernel_rfl) (by kernel_rfl) (Below.refl _ _) (fun hS => ?_)
 generalize V4.drew=V5 at *
 refine tlS 0 (fun u hu=>rK.still hu) hS 43 Try.underlying43 info2 ?_
 (try simp only [pS])
 refine tg 1 hS ?_
 (try simp only [pS])
 refine tg 2 hS ?_
 (try simp only [pS])
 refine tlS 3 (fun u hu=>rLen.still hu) hS 43 Try.underlying43 info2 ?_
 (try simp only [pS])
 refine tlS 8 (fun u hu=>rL.still hu) hS 54 Try.underlying54 hiL ?_
 (try simp only [pS])
 refine cl 4 (cy _) ?_
 rintro e V6 ⟨gy,rfl,hgy,ry,hb6⟩
 refine ⟨_,rfl,hb6,?_⟩
 (try simp only [pS])
 have nb6:Below V6.heap.size V6 (V6.alloc (.cells #[.slice xm ml cm,.slice xd dl cd,.slice (some ⟨gy,0,none⟩) 16 16] 22)):=(Below.refl _ _).alloc (Nat.le_refl _) _
 have r7:=RW.fresh V6 [.slice xm ml cm,.slice xd dl cd,.slice (some ⟨gy,0,none⟩) 16 16] 22
 refine wo 5 (v := .slice (some ⟨V6.heap.size,0,none⟩) 3 3) (w':=V6.alloc (.cells #[.slice xm ml cm,.slice xd dl cd,.slice (some ⟨gy,0,none⟩) 16 16] 22)) (by kernel_rfl) (below_next hb6 nb6) ?_
 (try simp only [pS])
 replace ry:=ry.still nb6
 replace hb6:=below_next hb6 nb6
 generalize hV7:V6.alloc (.cells #[.slice xm ml cm,.slice xd dl cd,.slice (some ⟨gy,0,none⟩) 16 16] 22)=V7 at *
 clear hV7 nb6
 refine cl 6 (cbk (some ⟨V6.heap.size,0,none⟩) 3 3 V7) ?_
 rintro e V8 ⟨rfl,hV8⟩
 have nb8:Below V7.heap.size V7 V8:=by rw [hV8];exact (Below.refl _ _).alloc (Nat.le_refl _) _
 have r8:V8.cell? ⟨V7.heap.size,0,none⟩=some (.slice (some ⟨V6.heap.size,0,none⟩) 3 3):=by
  rw [hV8];exact (RW.fresh V7 [_] _).range 0 _ rfl
 replace r7:=r7.still nb8
 replace ry:=ry.still nb8
 replace hb6:=below_next hb6 nb8
 clear hV8 nb8
 refine ⟨_,rfl,hb6,?_⟩
 (try simp only [pS])
 have b8:=below_next b4 hb6
 have cH1:=cH V7.heap.size V6.heap.size (three (.slice xm ml cm) (.slice xd dl cd) (.slice (some ⟨gy,0,none⟩) 16 16)) V8 r8 (fun j hj=>by
  have hr:=r7.range j
  rw [Nat.zero_add] at hr
  rcases (show j=0∨j=1∨j=2 by omega) with rfl | rfl | rfl
  · exact hr _ rfl
  · exact hr _ rfl
  · exact hr _ rfl) (fun j hj=>by
  rcases (show j=0∨j=1∨j=2 by omega) with rfl | rfl | rfl
  · exact hm.keep b8
  · exact hd.keep b8
  · exact .inr ⟨gy,0,16,rfl,block_lt_of_cell (ry 0 (by decide)).1,Nat.le_refl _,fun j hj=>(ry j hj).1⟩)
 clear cH
 refine cl 7 cH1 ?_
 rintro e V9 ⟨rfl,hb9⟩
 replace hb6:=below_next hb6 hb9
 refine ⟨_,rfl,hb6,?_⟩
 (try simp only [pS])
 refine cl 9 (ca _) ?_
 rintro e V10 ⟨rfl,hb10⟩
 replace hb6:=below_next hb6 hb10
 refine ⟨_,rfl,hb6,?_⟩
 (try simp only [pS])
 refine cl 10 (cp _) ?_
 rintro e V11 ⟨rfl,hb11⟩
 replace hb6:=below_next hb6 hb11
 refine ⟨_,rfl,hb6,?_⟩
 (try simp only [pS])
 replace rR:=rR.still hb6
 have b11:=below_next b4 hb6
 refine wpAnyH_done (by kernel_rfl) ?_ _
 refine lastRow 11 43 6 27 (b2 f0 f1) rR rfl (info2a f0 f1) (one2 f0 f1) (fun r12 => ?_)
 refine NoPanic.normal ?_
 dsimp only [Act.put]
 clear cH1 ca cp cy cbk
 go_wp2
 refine bodyPost_ret (results_cell_mid Try.results32 _ _ (w.heap.size+1) 0 (b2 f0 f1) _ rfl r12.range Try.underlying43 rfl info2) rfl ⟨rfl,?_⟩
 exact below_setCells (Nat.le_succ _) _ _ _ b11
end Go.Proofs.Ytalgabgofpmebaa
namespace Go.Proofs.Ytalgabgofpmebaa
open Go.RowKit
theorem padN_16 (X:Nat→Nat):toV (padN 16 X)=toV X:=toV_S fun j hj=>by unfold padN;rw [if_pos hj]
set_option maxHeartbeats 1000000 in
theorem times_good (v u:Value) (a b:Nat→Nat) (ha:∀ j,a j<256) (hb:∀ j,b j<256) (w:World) (hv:BytesIn w v 16 a) (hu:BytesIn w u 16 b) :
 Calls Try.prog 11 #[v,u] w fun e w'=>∃ s,e = .returned (.tuple #[s,.int .i64 0])∧RowF w.heap.size w' s 16 (tmN a b)∧Below w.heap.size w w':=by
 have c1:=fun W h=>blockOf_any v 16 a (Nat.le_refl _) ha W (hv.keep h)
 have c2:=fun W h=>blockOf_any u 16 b (Nat.le_refl _) hb W (hu.keep h)
 have c3:=fun W=>gtimes_any (toV a) (toV b) W
 have c4:=fun W=>gbytes_any (gTm (toV a) (toV b)) W
 rw [padN_16] at c1 c2
 have e:byV (gTm (toV a) (toV b))=tmN a b:=rfl
 rw [e] at c4
 have c1':=c1 w (Below.refl _ _)
 unfold blV at *
 generalize wd (toV a) 0=x0 at *
 generalize wd (toV a) 64=x1 at *
 generalize wd (toV b) 0=y0 at *
 generalize wd (toV b) 64=y1 at *
 generalize wd (gTm (toV a) (toV b)) 0=z0 at *
 generalize wd (gTm (toV a) (toV b)) 64=z1 at *
 generalize tmN a b=T at *
 obtain ⟨xk,ck,rfl,-,-,-⟩:=hv.src
 obtain ⟨xb,cb,rfl,-,-,-⟩:=hu.src
 clear hv hu ha hb c1 e
 go_enter Try.func11,Try.ntmps11
 go_wp2_with (first
  | (go_at_call 23;refine c1'.mono ?_;clear c1';rintro e w1 ⟨rfl,b1⟩;(have c2':=c2 w1 b1);clear c2)
  | (go_at_call 23;refine c2'.mono ?_;clear c2';rintro e w2 ⟨rfl,b2⟩;(replace b1:=below_next b1 b2);clear b2)
  | (go_at_call 24;refine (c3 _).mono ?_;clear c3;rintro e w3 ⟨rfl,b3⟩;(replace b1:=below_next b1 b3);clear b3)
  | (go_at_call 25;refine (c4 _).mono ?_;clear c4;rintro e w4 ⟨g,rfl,hg,r4,b4⟩))
 go_ret2
 exact ⟨_,rfl,⟨g,16,rfl,Nat.le_trans b1.size hg,Nat.le_refl _,r4⟩,below_next b1 b4⟩
theorem hsN_byV (h X:Nat→Nat) (n:Nat):S16 (byV (hsC (toV h) (fun _=>n) (fun _=>X) 1)) (hsN h n X):=by
 rw [←hash_one]
 exact byV_toV (fun j _=>hsS_lt _ _ _ j)
set_option maxRecDepth 20000 in
set_option maxHeartbeats 2000000 in
theorem hash_good (v u:Value) (n:Nat) (hs bs:Nat→Nat) (hB:∀ j,hs j<256) (hbs:∀ j,bs j<256) (hn:n<4611686018427387904) (w:World) (hv:BytesIn w v 16 hs) (hu:BytesIn w u n bs) :
 Calls Try.prog 16 #[v,u] w fun e w'=>∃ s,e = .returned (.tuple #[s,.int .i64 0])∧RowF w.heap.size w' s 16 (hsN hs n bs)∧Below w.heap.size w w':=by
 have c1:=blockOf_any v 16 hs (Nat.le_refl _) hB w hv
 rw [padN_16] at c1
 have c2:=fun xo n c W=>blocks_any xo n c W
 have c3:=fun pb lb U W h1 h2 h3=>hashed_any (toV hs) pb lb 1 (fun _=>n) (fun _=>bs) (fun _=>hbs) U (fun _=>hn) (by decide) W h1 h2 h3
 have c4:=fun W=>gbytes_any (hsC (toV hs) (fun _=>n) (fun _=>bs) 1) W
 have hfit:=hsN_byV hs bs n
 unfold blV at *
 generalize wd (hsC (toV hs) (fun _=>n) (fun _=>bs) 1) 0=z0 at *
 generalize wd (hsC (toV hs) (fun _=>n) (fun _=>bs) 1) 64=z1 at *
 generalize byV (hsC (toV hs) (fun _=>n) (fun _=>bs) 1)=Y at *
 generalize wd (toV hs) 0=x0 at *
 generalize wd (toV hs) 64=x1 at *
 obtain ⟨xv,cv,rfl,-,-,-⟩:=hv.src
 obtain ⟨xu,cu,rfl,-,-,-⟩:=hu.src
 clear hv hB
 go_enter Try.func16,Try.ntmps16
 go_wp2_with (first
  | (go_at_call 23;refine c1.mono ?_;clear c1;rintro e w1 ⟨rfl,b1⟩;(obtain ⟨w2,hw2⟩:∃ V,V=w1.alloc (.cells #[.slice xu n cu] 22):=⟨_,rfl⟩);(have HW2:=Hid.mk' hw2);(have q2:w2.cell? ⟨w1.heap.size,0,none⟩=some (.slice xu n cu):=by rw [hw2];exact (RW.fresh w1 [_] _).range 0 _ rfl);(have n2:Below w1.heap.size w1 w2:=by rw [hw2];exact (Below.refl _ _).alloc (Nat.le_refl _) _);clear hw2)
  | (go_at_call 28;rw [←HW2.out];refine (c2 (some ⟨w1.heap.size,0,none⟩) 1 1 w2).mono ?_;clear c2 HW2;rintro e w3 ⟨rfl,hw3⟩;(have n3:Below w2.heap.size w2 w3:=by rw [hw3];exact (Below.refl _ _).alloc (Nat.le_refl _) _);(have q3:w3.cell? ⟨w2.heap.size,0,none⟩=some (.slice (some ⟨w1.heap.size,0,none⟩) 1 1):=by rw [hw3];exact (RW.fresh w2 [_] _).range 0 _ rfl);(replace q2:=(n3.cell (block_lt_of_cell q2)).trans q2);(replace b1:=below_next (below_next b1 n2) n3);(have c3':=c3 w2.heap.size w1.heap.size (fun _ => .slice xu n cu) w3 q3 (fun j hj=>by obtain rfl:j=0:=(by omega);exact q2) (fun _ _=>hu.keep b1));clear hw3 n3 n2 c3)
  | (go_at_call 27;refine c3'.mono ?_;clear c3';rintro e w4 ⟨rfl,b4⟩;(replace b1:=below_next b1 b4);clear b4)
  | (go_at_call 25;refine (c4 _).mono ?_;clear c4;rintro e w5 ⟨g,rfl,hg,r5,b5⟩))
 go_ret2
 exact ⟨_,rfl,⟨g,16,rfl,Nat.le_trans b1.size hg,Nat.le_refl _,r5.congr hfit⟩,below_next b1 b5⟩
end Go.Proofs.Ytalgabgofpmebaa
namespace Go.Proofs.Ytalgabgofpmebaa
open Go.RowKit
theorem own_down {base base':Nat} {w:World} {v:Value} {n:Nat} {X:Nat→Nat} (h:Own base w v n X) (hb:base'≤base):Own base' w v n X :=
 ⟨h.1,h.2.imp id fun ⟨g,cap,cur,e,h1,h2⟩=>⟨g,cap,cur,e,Nat.le_trans hb h1,h2⟩⟩
theorem lock_var (w:World) (L:Nat→Nat) (V:World) (hV:V=(w.alloc (.cells (zb 32) 54)).setCells w.heap.size 0 (ints .u8 32 L)):RW V w.heap.size 0 (ints .u8 32 L)∧Below w.heap.size w V:=by
 subst hV
 have h:=RowAt.zero w 32 54
 refine ⟨(h.toRW (by decide)).stored _ (by rw [ints_len,ints_len]),below_setCells (Nat.le_refl _) _ _ _ ((Below.refl _ _).alloc (Nat.le_refl _) _)⟩
theorem lock_there (w:World) (L:Nat→Nat):(w.alloc (.cells (zb 32) 54)).there w.heap.size 0 (ints .u8 32 L).toArray.size:=by
 rw [ints_size];exact (RowAt.zero w 32 54).there
set_option maxRecDepth 20000 in
set_option maxHeartbeats 2000000 in
theorem seal_bad (v u m t:Value) (a b ml n:Nat) (ks nn M X:Nat→Nat) (w:World) (hv:BytesIn w v a ks) (hu:BytesIn w u b nn) (hm:BytesIn w m ml M) (ht:BytesIn w t n X) (h:¬(a=16∧b=12)) :
 Calls Try.prog 18 #[v,u,m,t] w fun e w'=>e = .returned (.tuple #[.slice none 0 0,.int .i64 1])∧Below w.heap.size w w':=by
 have c1:=lockOf_bad v u a b ks nn w hv hu h
 have hz:=zeroL
 have hth:=fun W=>lock_there W (fun _=>0)
 have hi2:=infoLA (fun _=>0)
 have ho:=oneU 32 (fun _=>0)
 obtain ⟨xv,cv,rfl,-,-,-⟩:=hv.src
 obtain ⟨xu,cu,rfl,-,-,-⟩:=hu.src
 obtain ⟨xm,cm,rfl,-,-,-⟩:=hm.src
 obtain ⟨xt,ct,rfl,-,-,-⟩:=ht.src
 clear hv hu hm ht h
 go_enter Try.func18,Try.ntmps18
 go_wp2_with (first
  | (go_at_call 30;refine c1.mono ?_;clear c1;rintro e w1 ⟨rfl,b1⟩;have hth1:=hth w1;clear hth)
  | (with_reducible (refine id (?_:wpList _ _ _ _ _ _));refine wpList_store_mid rfl 54 _ _ rfl w1.heap.size 0 (ints .u8 32 (fun _=>0)).toArray rfl rfl hth1 hi2 ho ?_;clear hth1))
 go_ret2
 exact ⟨rfl,below_next b1 (lock_var w1 _ _ rfl).2⟩
set_option maxRecDepth 20000 in
set_option maxHeartbeats 2000000 in
theorem seal_size (v u m t:Value) (ml n:Nat) (ks nn M X:Nat→Nat) (w:World) (hv:BytesIn w v 16 ks) (hu:BytesIn w u 12 nn) (hm:BytesIn w m ml M) (ht:BytesIn w t n X) (h:¬(ml≤65536∧n≤65536)) :
 Calls Try.prog 18 #[v,u,m,t] w fun e w'=>e = .returned (.tuple #[.slice none 0 0,.int .i64 6])∧Below w.heap.size w w':=by
 have c1:=lockOf_good v u ks nn w hv hu
 unfold lkV at c1
 have hz:=zeroL
 have hth:=fun W=>lock_there W (lkN ks nn)
 have hi2:=infoLA (lkN ks nn)
 have ho:=oneU 32 (lkN ks nn)
 generalize lkN ks nn=L at *
 obtain ⟨xv,cv,rfl,-,-,-⟩:=hv.src
 obtain ⟨xu,cu,rfl,-,-,-⟩:=hu.src
 obtain ⟨xm,cm,rfl,-,-,-⟩:=hm.src
 obtain ⟨xt,ct,rfl,-,-,-⟩:=ht.src
 clear hv hu hm ht
 have hcase:((65536:Int)<(ml:Int))∨(¬(65536:Int)<(ml:Int)∧(65536:Int)<(n:Int)):=by omega
 clear h
 rcases hcase with h1 | ⟨h1,h2⟩
 all_goals
  go_enter Try.func18,Try.ntmps18
  go_wp2_with (first
   | (go_at_call 30;refine c1.mono ?_;clear c1;rintro e w1 ⟨rfl,b1⟩;have hth1:=hth w1;clear hth)
   | (with_reducible (refine id (?_:wpList _ _ _ _ _ _));refine wpList_store_mid rfl 54 _ _ rfl w1.heap.size 0 (ints .u8 32 L).toArray rfl rfl hth1 hi2 ho ?_;clear hth1))
  go_ret2
  exact ⟨rfl,below_next b1 (lock_var w1 _ _ rfl).2⟩
theorem tgN_B {ks nn M D:Nat→Nat} (hks:∀ j,ks j<256) (hnn:∀ j,nn j<256) (ml dl:Nat):B16 (tgN ks nn ml M dl D):=fun j hj=>xor_byte (ctB_B hks hnn 1 j hj) (hsN_lt _ _ _ j)
set_option maxRecDepth 20000 in
set_option maxHeartbeats 4000000 in
theorem seal_good (v u m t:Value) (ml n:Nat) (ks nn M X:Nat→Nat) (hml:ml≤65536) (hn:n≤65536) (hks:∀ j,ks j<256) (hnn:∀ j,nn j<256) (hM:∀ j,M j<256) (hX:∀ j,X j<256) (w:World) (hv:BytesIn w v 16 ks) (hu:BytesIn w u 12 nn) (hm:BytesIn w m ml M) (ht:BytesIn w t n X) :
 Calls Try.prog 18 #[v,u,m,t] w fun e w'=>∃ s,e = .returned (.tuple #[s,.int .i64 0])∧Own w.heap.size w' s (n+16) (slN ks nn ml M n X)∧Below w.heap.size w w':=by
 have c1:=lockOf_good v u ks nn w hv hu
 have hT:=trN_lt (X:=X) hks hnn hX
 have c2:=fun W h=>crossed_any ks nn X n (by omega) hks hnn hX t W (ht.keep h)
 have c3:=fun d W h hd=>tag_any ks nn M (trN ks nn X) ml n (by omega) (by omega) hks hnn hM hT m d W (hm.keep h) hd
 have c4:=fun W=>gbytes_any (toV (tgN ks nn ml M n (trN ks nn X))) W
 have hfit:=byV_toV (tgN_B (M:=M) (D:=trN ks nn X) hks hnn ml n)
 have hsl:slN ks nn ml M n X=cat n (trN ks nn X) (tgN ks nn ml M n (trN ks nn X)):=rfl
 rw [hsl]
 unfold blV at *
 generalize wd (toV (tgN ks nn ml M n (trN ks nn X))) 0=g0 at *
 generalize wd (toV (tgN ks nn ml M n (trN ks nn X))) 64=g1 at *
 generalize byV (toV (tgN ks nn ml M n (trN ks nn X)))=GB at *
 generalize tgN ks nn ml M n (trN ks nn X)=G at *
 generalize trN ks nn X=T at *
 unfold lkV at *
 have hz:=zeroL
 have hth:=fun W=>lock_there W (lkN ks nn)
 have hi1:=infoL (lkN ks nn)
 have hi2:=infoLA (lkN ks nn)
 have ho:=oneU 32 (lkN ks nn)
 generalize lkN ks nn=L at *
 obtain ⟨xv,cv,rfl,-,-,-⟩:=hv.src
 obtain ⟨xu,cu,rfl,-,-,-⟩:=hu.src
 obtain ⟨xm,cm,rfl,-,-,-⟩:=hm.src
 obtain ⟨xt,ct,rfl,-,-,-⟩:=ht.src
 have hml':¬(65536:Int)<(ml:Int):=by omega
 have hn':¬(65536:Int)<(n:Int):=by omega
 have hfit2:n+16≤140737488355328:=by omega
 clear hv hu hm ht hks hnn hM hX hT hsl
 go_enter Try.func18,Try.ntmps18
 go_wp2_with (first
  | (go_at_call 30;refine c1.mono ?_;clear c1;rintro e w1 ⟨rfl,b1⟩;(have hth1:=hth w1);(obtain ⟨V,hV⟩:∃ V,V=(w1.alloc (.cells (zb 32) 54)).setCells w1.heap.size 0 (ints .u8 32 L):=⟨_,rfl⟩);(obtain ⟨rL,bV⟩:=lock_var w1 L V hV);(have HV:=Hid.mk' hV);(replace b1:=below_next b1 bV);(have rLr:=rL.range);clear hth hV bV)
  | (with_reducible (refine id (?_:wpList _ _ _ _ _ _));refine wpList_store_mid rfl 54 _ _ rfl w1.heap.size 0 (ints .u8 32 L).toArray rfl rfl hth1 hi2 ho ?_;rw [List.toList_toArray,←HV.out];clear hth1 HV;(have c2':=c2 V b1);clear c2)
  | (refine wpList_load_mid rfl 54 _ rfl w1.heap.size 0 rfl (ints .u8 32 L) _ rLr Try.underlying54 rfl hi1 ?_)
  | (go_at_call 31;refine c2'.mono ?_;clear c2';rintro e w2 ⟨gh,rfl,own2,b2⟩;(replace rLr:=(rL.still b2).range);(replace rL:=rL.still b2);(replace own2:Own w.heap.size w2 _ n T:=own_down own2 b1.size);(replace b1:=below_next b1 b2);(have c3':=c3 _ w2 b1 own2.bytesOf);clear c3 b2)
  | (go_at_call 32;refine c3'.mono ?_;clear c3';rintro e w3 ⟨rfl,b3⟩;(replace own2:=own2.below b3);(replace b1:=below_next b1 b3);clear b3)
  | (go_at_call 25;refine (c4 _).mono ?_;clear c4;rintro e w4 ⟨gt,rfl,hgt,r4,b4⟩;(replace own2:=own2.below b4);(replace b1:=below_next b1 b4);(have src4:Src w4 (some ⟨gt,0,none⟩) 16 GB := .inr ⟨gt,0,rfl,fun j hj=>(r4 j hj).1⟩);(have hz4:=b1.size);clear b4)
  | (at_builtin;refine wpList_append_bytes rfl (.tmp 33) (.tmp 38) rfl w.heap.size _ n T rfl own2 _ 16 16 GB rfl src4 (fun h=>by cases h) hfit2 hz4 ?_;intro v5 w5 own5 grow5;(have b5:=Own.grown b1 grow5 own2 (Nat.le_refl _) hz4)))
 go_ret2
 exact ⟨v5,rfl,own5.congr (fun j hj=>by
  unfold cat
  by_cases h:j<n
  · rw [if_pos h,if_pos h]
  · rw [if_neg h,if_neg h];exact hfit _ (by omega)),b5⟩
end Go.Proofs.Ytalgabgofpmebaa
