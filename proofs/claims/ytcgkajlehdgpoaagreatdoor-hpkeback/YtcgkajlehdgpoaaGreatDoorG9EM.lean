/- What the proof stands on: G9E, G9H. -/
import Derived.Test.YtcgkajlehdgpoaaGreatDoorA8BlcM
import Derived.Test.YtcgkajlehdgpoaaGreatDoorG9CM
import Derived.Test.YtcgkajlehdgpoaaGreatDoorZFM
namespace Go.Proofs.YtcgkajlehdgpoaaGreatDoor
open Go.RowKit
theorem zeroL (w:World):Sem.run Tryz.prog (zeroValue 97) w = .ok (.agg (zb 32)) w:=by kernel_rfl
theorem infoL (X:Nat→Nat):(Tryz.prog.info? 97).map (·.size)=some (ints .u8 32 X).length:=by rw [ints_len];kernel_rfl
theorem infoLA (X:Nat→Nat):(Tryz.prog.info? 97).map (·.size)=some (ints .u8 32 X).toArray.size:=by rw [ints_size];kernel_rfl
theorem infoH (X:Nat→Nat):(Tryz.prog.info? 95).map (·.size)=some (ints .u8 16 X).length:=by rw [ints_len];kernel_rfl
theorem results_cell_tmp' {P:Program} {fn:Func} {p q:Tmp} {ty:TypeId} (h:fn.results=#[.cell p ty,.tmp q]) (tmps:Array Value) (w:World) (g o:Nat) (cs:List Value) (d:TypeDesc)
 (hp:tmps.getD p undef = .pointer (some ⟨g,o,none⟩)) (hc:w.rangeAt g o cs)
 (hu:P.underlying ty=some d) (hd:d.isRow=true) (hi:(P.info? ty).map (·.size)=some cs.length) :
 (results fn tmps).run P w = .ok (.tuple #[.agg cs.toArray,tmps.getD q undef]) w:=by
 have hp':tmps[p]?.getD undef = .pointer (some ⟨g,o,none⟩):=by simpa using hp
 simp [results,h,hp',asAddr,run_loadVar_mid w g o ty cs d hc hu hd hi]
def lkN (ks nn:Nat→Nat):Nat→Nat:=over (over (fun _=>0) 0 16 ks) 16 12 nn
theorem lkN_key (ks nn:Nat→Nat) (j:Nat) (hj:j<16):lkN ks nn j=ks j:=by
 unfold lkN over
 rw [if_neg (by omega),if_pos (by omega),Nat.sub_zero]
abbrev lkV (ks nn:Nat→Nat):Value := .agg (ints .u8 32 (lkN ks nn)).toArray
set_option maxRecDepth 20000 in
set_option maxHeartbeats 2000000 in
theorem lockOf_good (v u:Value) (ks nn:Nat→Nat) (w:World) (hv:BytesIn w v 16 ks) (hu:BytesIn w u 12 nn) :
 Calls Tryz.prog 66 #[v,u] w fun e w'=>e = .returned (.tuple #[lkV ks nn,.int .i64 0])∧Below w.heap.size w w':=by
 have hz:=zeroL
 have hsz:(Tryz.prog.info? 5).map (·.size)=some 1:=by kernel_rfl
 obtain ⟨xv,cv,rfl,-,-,hsv⟩:=hv.src
 obtain ⟨xu,cu,rfl,-,-,hsu⟩:=hu.src
 obtain ⟨W,hW⟩:∃ W,W=(w.alloc (.cells (zb 32) 97)).alloc (.cells (zb 32) 97):=⟨_,rfl⟩
 have hbW:Below w.heap.size w W:=by rw [hW];exact ((Below.refl _ _).alloc (Nat.le_refl _) _).alloc (by simp) _
 have hA:RowAt .u8 W w.heap.size 0 32 (fun _=>0):=by rw [hW];exact (RowAt.zero w 32 _).alloc (by simp) _
 have hB:RowAt .u8 W (w.heap.size+1) 0 32 (fun _=>0):=by
  have:=RowAt.zero (w.alloc (.cells (zb 32) 97)) 32 97
  rw [World.size_alloc] at this
  rw [hW];exact this
 have src1:=hsv W hbW
 obtain ⟨V,hV⟩:∃ V,V=W.setCells (w.heap.size+1) 0 (ints .u8 16 ks):=⟨_,rfl⟩
 have hbV:Below w.heap.size w V:=by rw [hV];exact below_setCells (by omega) _ _ _ hbW
 have hAV:RowAt .u8 V w.heap.size 0 32 (fun _=>0):=by rw [hV];exact hA.farCells (by omega) _ _
 have hBV:RowAt .u8 V (w.heap.size+1) 0 32 (over (fun _=>0) 0 16 ks):=by
  have:=hB.splice 0 16 ks (by decide)
  rw [Nat.zero_add] at this
  rw [hV];exact this
 have src2:=hsu V hbV
 obtain ⟨U,hU⟩:∃ U,U=V.setCells (w.heap.size+1) 16 (ints .u8 12 nn):=⟨_,rfl⟩
 have hbU:Below w.heap.size w U:=by rw [hU];exact below_setCells (by omega) _ _ _ hbV
 have hAU:RowAt .u8 U w.heap.size 0 32 (fun _=>0):=by rw [hU];exact hAV.farCells (by omega) _ _
 have hBU:RowAt .u8 U (w.heap.size+1) 0 32 (lkN ks nn):=by
  have:=hBV.splice 16 12 nn (by decide)
  rw [Nat.zero_add] at this
  rw [hU];exact this
 have th1:W.there (w.heap.size+1) 0 16:=fun j hj=>hB.there j (by omega)
 have th2:V.there (w.heap.size+1) 16 16:=fun j hj=>by
  have:=hBV.there (16+j) (by omega)
  rwa [Nat.zero_add] at this
 have HW:=Hid.mk' hW
 have HV:=Hid.mk' hV
 have HU:=Hid.mk' hU
 have hi1:=infoL (lkN ks nn)
 have hi2:=infoLA (lkN ks nn)
 have ho:=oneU 32 (lkN ks nn)
 unfold lkV
 generalize lkN ks nn=Z at *
 have th3:U.there w.heap.size 0 (ints .u8 32 Z).toArray.size:=by rw [ints_size];exact hAU.there
 have hrg:=hBU.range
 have m1:16=Nat.min 16 16:=rfl
 have m2:12=Nat.min 12 16:=rfl
 have Hm1:=Hid.mk' m1
 have Hm2:=Hid.mk' m2
 clear hW hV hU hA hB hv hu hsv hsu hAV hBV hBU m1 m2 hbW hbV
 go_enter Tryz.func66,Tryz.ntmps66
 go_wp2_with (first
  | (rw [←HW.out];refine wpList_copy_bytes rfl _ _ 22 22 rfl 5 Tryz.underlying22 hsz (w.heap.size+1) 0 16 16 xv 16 cv rfl rfl 16 ks src1 Hm1.out th1 ?_;rw [←HV.out];clear src1 th1)
  | (refine wpList_copy_bytes rfl _ _ 22 22 rfl 5 Tryz.underlying22 hsz (w.heap.size+1) 16 16 16 xu 12 cu rfl rfl 12 nn src2 Hm2.out th2 ?_;rw [←HU.out];clear src2 th2)
  | (refine wpList_load_mid rfl 97 _ rfl (w.heap.size+1) 0 rfl (ints .u8 32 Z) _ hrg Tryz.underlying97 rfl hi1 ?_)
  | (refine wpList_store_mid rfl 97 _ _ rfl w.heap.size 0 (ints .u8 32 Z).toArray rfl rfl th3 hi2 ho ?_))
 (try simp only [Exit.inBlock,Exit.then])
 refine bodyPost_ret (results_cell_tmp' Tryz.results66 _ _ w.heap.size 0 (ints .u8 32 Z) _ rfl (World.rangeAt_setCells_same _ _ _ _ (by rw [ints_len];exact hAU.there)) Tryz.underlying97 rfl hi1) rfl ⟨rfl,?_⟩
 exact below_setCells (Nat.le_refl _) _ _ _ hbU
theorem blkS_Sg {w a b:Nat→Nat} (h:S16 a b):∀ r,S16 (blkS w a r) (blkS w b r)
 | 0=>addN_S h w 0
 | r+1=>addN_S (colN_S (rowN_S (thrN_S (blkS_Sg h r) boxN) 1) mT) w (r+1)
theorem blkN_Sg {w a b:Nat→Nat} (h:S16 a b):S16 (blkN w a) (blkN w b):=addN_S (rowN_S (thrN_S (blkS_Sg h 9) boxN) 1) w 10
theorem gzb_ints (n:Nat):zb n=(ints .u8 n (fun _=>0)).toArray:=by
 have h:(List.range n).map (fun _=>Value.int .u8 0)=List.replicate n (.int .u8 0):=by
  rw [List.map_const',List.length_range]
 unfold zb ints
 rw [show (fun j:Nat=>Value.int .u8 (((fun _=>0:Nat→Nat) j:Nat):Int))=fun _ => .int .u8 0 from rfl,h]
 simp
set_option maxHeartbeats 1000000 in
theorem bitsOf_any (v:Value) (n:Nat) (X:Nat→Nat) (hn:n<200000) (w:World) (hv:BytesIn w v n X) :
 Calls Tryz.prog 93 #[v] w fun e w'=>e = .returned (.int .u64 ((8*n:Nat):Int))∧w'=w:=by
 obtain ⟨xv,cv,rfl,-,-,-⟩:=hv.src
 have e1:IntKind.u64.wrap (8*(n:Int))=((8*n:Nat):Int):=by show 8*(n:Int)%18446744073709551616=_;omega
 have e2:IntKind.u64.wrap (n:Int)=(n:Int):=by show (n:Int)%18446744073709551616=_;omega
 clear hv
 generalize 8*n=N at *
 go_enter Tryz.func93,Tryz.ntmps93
 go_wp2
 go_ret
 exact ⟨rfl,rfl⟩
set_option maxRecDepth 20000 in
set_option maxHeartbeats 2000000 in
theorem blockBy_any (ks B:Nat→Nat) (hks:∀ j,ks j<256) (hB:∀ j,B j<256) (L:Nat→Nat) (hL:∀ j,j<16→L j=ks j) (w:World) :
 Calls Tryz.prog 94 #[.agg (ints .u8 32 L).toArray,.agg (ints .u8 16 B).toArray] w fun e w'=>e = .returned (blV (toV (blkN (kyN ks) B)))∧Below w.heap.size w w':=by
 obtain ⟨V,hV⟩:∃ V,V=((w.alloc (.cells (ints .u8 32 L).toArray 97)).alloc (.cells (ints .u8 16 B).toArray 95)).alloc (.cells #[.int .u64 0,.int .u64 0] 101):=⟨_,rfl⟩
 have rL:RowAt .u8 V w.heap.size 0 32 L:=by
  rw [hV];exact ((RowAt.box .u8 w 32 L _).alloc (by simp) _).alloc (by simp;omega) _
 have rB:RowAt .u8 V (w.heap.size+1) 0 16 B:=by
  have:=(RowAt.box .u8 (w.alloc (.cells (ints .u8 32 L).toArray 97)) 16 B 95).alloc (by simp) (.cells #[.int .u64 0,.int .u64 0] 101)
  rw [World.size_alloc] at this
  rw [hV];exact this
 have rV:RW V (w.heap.size+1+1) 0 (b2 0 0):=by
  have:=RW.fresh ((w.alloc (.cells (ints .u8 32 L).toArray 97)).alloc (.cells (ints .u8 16 B).toArray 95)) (b2 0 0) 101
  rw [World.size_alloc,World.size_alloc] at this
  rw [hV];exact this
 have bV:Below w.heap.size w V:=by rw [hV];exact (((Below.refl _ _).alloc (Nat.le_refl _) _).alloc (by simp) _).alloc (by simp;omega) _
 have b1:Below V.heap.size V V.drew:=(Below.refl _ _).drew
 have i1:BytesIn V.drew (.slice (some ⟨w.heap.size,0,none⟩) 16 16) 16 ks := .inr ⟨_,_,_,rfl,block_lt_of_cell (rL.drew 0 (by decide)).1,Nat.le_refl _,fun j hj=>by rw [←hL j hj];exact (rL.drew j (by omega)).1⟩
 have i2:BytesIn V.drew (.slice (some ⟨w.heap.size+1,0,none⟩) 16 16) 16 B := .inr ⟨_,_,_,rfl,block_lt_of_cell (rB.drew 0 (by decide)).1,Nat.le_refl _,fun j hj=>(rB.drew j hj).1⟩
 have cB:=block_good _ _ ks B hks (fun j _=>hB j) V.drew i1 i2
 have hbl:=blkN_B (w:=kyN ks) (b:=B) (fun j _=>hB j) (kyN_lt hks)
 obtain ⟨Z,hZ⟩:∃ Z,Z=blkN (kyN ks) B:=⟨_,rfl⟩
 rw [←hZ] at cB hbl ⊢
 have co:=fun v W h=>gblockOf_any v 16 (fun j=>Z j%256) (Nat.le_refl _) (fun j=>Nat.mod_lt _ (by decide)) W h
 have eZ:toV (gpadN 16 (fun j=>Z j%256))=toV Z:=toV_S fun j hj=>by unfold gpadN;rw [if_pos hj];exact Nat.mod_eq_of_lt (hbl j hj)
 rw [eZ] at co
 unfold blV at *
 obtain ⟨fx,hx⟩:∃ x,x=wd (toV Z) 0:=⟨_,rfl⟩
 obtain ⟨fy,hy⟩:∃ y,y=wd (toV Z) 64:=⟨_,rfl⟩
 rw [←hx,←hy] at co ⊢
 have HV:=Hid.mk' hV
 clear hV hx hy hZ eZ i1 i2 rL rB b1
 go_enter Tryz.func94,Tryz.ntmps94
 go_upto_region 1 with (fail)
 rw [←HV.out]
 clear HV
 replace rV:=rV.drew
 replace bV:=bV.drew
 go_region_held3 (fun w'=>Below V.drew.heap.size V.drew w') (first | assumption | exact Below.refl _ _) (first | (go_at_call 118;refine cB.mono ?_;clear cB;rintro e w1 ⟨g1,rfl,r1,hb1⟩))
 have co1:=co (.slice (some ⟨g1,0,none⟩) 16 16) w1 (.inr ⟨_,_,_,rfl,block_lt_of_cell (r1 0 (by decide)).1,Nat.le_refl _,fun j hj=>by
  have e:Z j%256=Z j:=Nat.mod_eq_of_lt (hbl j hj)
  show w1.cell? _=some (.int .u8 ((Z j%256:Nat):Int))
  rw [e];exact (r1 j hj).1⟩)
 replace rV:=rV.still hb1
 have b1:=below_next bV hb1
 have hV2:w.heap.size≤w.heap.size+1+1:=by omega
 clear co hb1 bV r1
 go_wp2_with (first
  | (go_at_call 70;refine co1.mono ?_;clear co1;rintro e w2 ⟨rfl,hb2⟩;(replace rV:=rV.still hb2);(replace b1:=below_next b1 hb2);(have t0:w2.there (w.heap.size+1+1) 0 (b2 fx fy).toArray.size:=rV.there);clear hb2)
  | (refine wpList_store_mid rfl 101 _ _ rfl (w.heap.size+1+1) 0 (b2 fx fy).toArray rfl rfl t0 (info2a fx fy) (one2 fx fy) ?_))
 (try simp only [Exit.inBlock,Exit.then])
 refine bodyPost_ret (results_cell_mid Tryz.results94 _ _ (w.heap.size+1+1) 0 (b2 fx fy) _ rfl (rV.stored (b2 fx fy) rfl).range Tryz.underlying101 rfl info2) rfl ⟨rfl,?_⟩
 exact below_setCells hV2 _ _ _ b1
def lkA (ks nn:Nat→Nat) (n k j:Nat):Nat:=if 32 - k≤j then be4 n (j - 28) else lkN ks nn j
theorem lkA_next (ks nn:Nat→Nat) (n k:Nat) (hk:k<4) (j:Nat) (hj:j<32):upd (lkA ks nn n k) (31 - k) (be4 n (3 - k)) j=lkA ks nn n (k+1) j:=by
 unfold upd lkA
 by_cases e:j=31 - k
 · subst e
   rw [if_pos rfl,if_pos (by omega),show 31 - k - 28=3 - k by omega]
 · rw [if_neg e]
   by_cases e2:32 - k≤j
   · rw [if_pos e2,if_pos (by omega)]
   · rw [if_neg e2,if_neg (by omega)]
theorem lkA_key (ks nn:Nat→Nat) (n j:Nat) (hj:j<16):lkA ks nn n 4 j=ks j:=by
 unfold lkA
 rw [if_neg (by omega),lkN_key _ _ _ hj]
theorem lkA_ctr (ks nn:Nat→Nat) (n j:Nat) (hj:j<16):lkA ks nn n 4 (16+j)=ctN nn n j:=by
 unfold lkA ctN
 by_cases h:j<12
 · rw [if_neg (by omega),if_pos h]
   unfold lkN over
   rw [if_pos (by omega),Nat.add_sub_cancel_left]
 · rw [if_pos (by omega),if_neg h,show 16+j - 28=j - 12 by omega]
set_option maxRecDepth 20000 in
set_option maxHeartbeats 2000000 in
theorem blockAt_any (ks nn:Nat→Nat) (n:Nat) (hks:∀ j,ks j<256) (hnn:∀ j,nn j<256) (w:World) :
 Calls Tryz.prog 92 #[lkV ks nn,.int .u32 n] w fun e w'=>e = .returned (blV (toV (ctB ks nn n)))∧Below w.heap.size w w':=by
 have cb:=fun W=>blockBy_any ks (fun j=>ctN nn n j%256) hks (fun j=>Nat.mod_lt _ (by decide)) (lkA ks nn n 4) (lkA_key ks nn n) W
 have hcl:=ctN_B hnn n
 have eB:ints .u8 16 (fun j=>ctN nn n j%256)=ints .u8 16 (ctN nn n):=ints_congr _ _ _ _ fun j hj=>Nat.mod_eq_of_lt (hcl j hj)
 have eT:toV (blkN (kyN ks) (fun j=>ctN nn n j%256))=toV (ctB ks nn n):=toV_S (blkN_Sg fun j hj=>Nat.mod_eq_of_lt (hcl j hj))
 rw [eB,eT] at cb
 obtain ⟨V,hV⟩:∃ V,V=(w.alloc (.cells (ints .u8 32 (lkN ks nn)).toArray 97)).alloc (.cells #[.int .u64 0,.int .u64 0] 101):=⟨_,rfl⟩
 have rL:RowAt .u8 V w.heap.size 0 32 (lkA ks nn n 0):=by
  rw [hV];exact ((RowAt.box .u8 w 32 (lkN ks nn) _).alloc (by simp) _).congr fun j hj=>by unfold lkA;rw [if_neg (by omega)]
 have rV:RW V (w.heap.size+1) 0 (b2 0 0):=by
  have:=RW.fresh (w.alloc (.cells (ints .u8 32 (lkN ks nn)).toArray 97)) (b2 0 0) 101
  rw [World.size_alloc] at this
  rw [hV];exact this
 have bV:Below w.heap.size w V:=by rw [hV];exact ((Below.refl _ _).alloc (Nat.le_refl _) _).alloc (by simp) _
 unfold blV at *
 obtain ⟨fx,hx⟩:∃ x,x=wd (toV (ctB ks nn n)) 0:=⟨_,rfl⟩
 obtain ⟨fy,hy⟩:∃ y,y=wd (toV (ctB ks nn n)) 64:=⟨_,rfl⟩
 rw [←hx,←hy] at cb ⊢
 have HV:=Hid.mk' hV
 have hi1:=infoL (lkA ks nn n 4)
 have hi3:=infoH (ctN nn n)
 clear hV hx hy eB eT hcl
 go_enter Tryz.func92,Tryz.ntmps92
 go_wp2
 rw [←HV.out]
 clear HV
 go_loopw [6] (fun i wr=>∃ k:Nat,k≤4∧i = .int .i64 k∧RowAt .u8 wr w.heap.size 0 32 (lkA ks nn n k)∧RW wr (w.heap.size+1) 0 (b2 0 0)∧Below w.heap.size w wr) (fun i _=>4 - (intOf i).toNat)
 case atStart=>exact ⟨0,Nat.zero_le _,rfl,rL,rV,bV⟩
 case round =>
  clear rL rV bV
  obtain ⟨k,hk,rfl,rL,rV,bV⟩:=hrel
  by_cases hlt:k<4
  · obtain ⟨c1,f1⟩:=rL (31 - k) (by omega)
    have hs:=rL.set (i:=31 - k) (by omega) (v:=(be4 n (3 - k):Int)) rfl
    rw [Nat.zero_add] at c1 f1 hs
    replace hs:=hs.congr fun j hj=>lkA_next ks nn n k hlt j hj
    obtain ⟨x,hx⟩:∃ x,x=be4 n (3 - k):=⟨_,rfl⟩
    obtain ⟨q,hq⟩:∃ q,q=31 - k:=⟨_,rfl⟩
    obtain ⟨sh,hsh⟩:∃ sh,sh=8*k:=⟨_,rfl⟩
    rw [←hq] at c1 f1 hs
    rw [←hx] at hs
    have e1:IntKind.u8.wrap ((n:Int) / 2 ^ sh)=(x:Int):=by
     rw [hx,hsh]
     unfold be4
     rw [show 3 - (3 - k)=k by omega]
     show (n:Int) / 2 ^ (8*k)%256=_
     simp
    obtain ⟨p,hp⟩:∃ p,p=15 - k:=⟨_,rfl⟩
    have e2:(15:Int) - (k:Int)=(p:Int):=by omega
    have e3:8*(k:Int)=(sh:Int):=by omega
    have e4:16+p=q:=by omega
    have t1:(0:Int)≤(p:Int)∧(p:Int)<16:=by omega
    have t2:(0:Int)≤(sh:Int)∧(sh:Int)<32:=by omega
    have hlt':(k:Int)<4:=by omega
    clear hp hq hsh hx cb hi1 hi3 rL
    go_wp2
    go_roundw
    case rel=>exact ⟨k+1,hlt,by go_num,hs,rV.far w.heap.size q [.int .u8 x] (.inl (by omega)),bV.setCell (Nat.le_refl _) _⟩
    case measure=>simp [intOf];omega
  · obtain rfl:k=4:=by omega
    have hr1:=rL.range
    have rC:RowAt .u8 wr w.heap.size 16 16 (ctN nn n):=fun j hj=>by
     have:=rL (16+j) (by omega)
     rwa [Nat.zero_add,lkA_ctr ks nn n j hj] at this
    have hr2:=rC.range
    generalize lkA ks nn n 4=L at *
    generalize ctN nn n=C at *
    clear rL rC
    go_wp2_with (first
     | (refine wpList_load_mid rfl 97 _ rfl w.heap.size 0 rfl (ints .u8 32 L) _ hr1 Tryz.underlying97 rfl hi1 ?_)
     | (refine wpList_load_mid rfl 95 _ rfl w.heap.size 16 rfl (ints .u8 16 C) _ hr2 Tryz.underlying95 rfl hi3 ?_)
     | (go_at_call 94;refine (cb _).mono ?_;clear cb;rintro e w2 ⟨rfl,hb2⟩;(replace rV:=rV.still hb2);(replace bV:=below_next bV hb2);(have t0:w2.there (w.heap.size+1) 0 (b2 fx fy).toArray.size:=rV.there);clear hb2)
     | (refine wpList_store_mid rfl 101 _ _ rfl (w.heap.size+1) 0 (b2 fx fy).toArray rfl rfl t0 (info2a fx fy) (one2 fx fy) ?_))
    (try simp only [Exit.inBlock,Exit.then])
    refine bodyPost_ret (results_cell_mid Tryz.results92 _ _ (w.heap.size+1) 0 (b2 fx fy) _ rfl (rV.stored (b2 fx fy) rfl).range Tryz.underlying101 rfl info2) rfl ⟨rfl,?_⟩
    exact below_setCells (Nat.le_succ _) _ _ _ bV
end Go.Proofs.YtcgkajlehdgpoaaGreatDoor
namespace Go.Proofs.YtcgkajlehdgpoaaGreatDoor
open Go.RowKit Go.Shelf
attribute [local go_sem] Oper.semAt_some
theorem Own.but {bad:Nat→Prop} {W W':World} {base g n c:Nat} {X:Nat→Nat} (h:Own base W (.slice (some ⟨g,0,none⟩) n c) n X) (hb:But bad W W') (hne:¬bad g):Own base W' (.slice (some ⟨g,0,none⟩) n c) n X:=by
 rcases h.2 with ⟨e,_⟩ | ⟨g',cap,cur,e,h1,h2,h3⟩
 · cases e
 · cases e
   exact ⟨h.1,.inr ⟨g,c,cur,rfl,h1,(hb.block g (Array.getElem?_eq_some_iff.1 h2).1 hne).trans h2,h3⟩⟩
theorem make_roomN (W:World) (n:Nat) (l:Int) (hl:l=(n:Int)) (hn:n≤1000000):(Instr.makeSlice 22 (.int .i64 0) (.int .i64 l)).run Tryz.prog W = .ok (.slice (some ⟨W.heap.size,0,none⟩) 0 n) (W.alloc (.cells (zb n) 5)):=by
 subst hl
 obtain ⟨i0,hi,hz0,hz1,hz2⟩:=info_parts (show (Tryz.prog.info? 5).map (fun i=>(i.zero,i.size,i.bytes))=some (some (.int .u8 0),1,1) by kernel_rfl)
 have:=run_makeSlice (P:=Tryz.prog) W 22 5 i0 (.int .u8 0) Tryz.underlying22 hi hz0 .i64 .i64 0 n (Int.le_refl _) (by omega) (by rw [hz1];simp;omega) (by rw [hz2];omega) (by omega)
 rw [this,hz1]
 simp only [Int.toNat_natCast,Int.toNat_zero,made_zb]
theorem Own.madeN (base:Nat) (W:World) (c:Nat) (X:Nat→Nat) (hb:base≤W.heap.size) (hc:c<1000000):Own base (W.alloc (.cells (zb c) 5)) (.slice (some ⟨W.heap.size,0,none⟩) 0 c) 0 X :=
 ⟨rfl,.inr ⟨W.heap.size,c,zb c,rfl,hb,World.alloc_heap_new _ _,Nat.zero_le _,by unfold maxLen;omega,by simp [zb],by simp [ints]⟩⟩
theorem RowAt.toRW {K:IntKind} {w:World} {g o n:Nat} {X:Nat→Nat} (h:RowAt K w g o n X) (hn:0<n):RW w g o (ints K n X):=⟨h.range,by rw [ints_len];exact h.there,block_lt_of_cell (h 0 hn).1⟩
structure CInv (w:World) (l D:Nat) (rec:Loop) (ks nn T:Nat→Nat) (n N:Nat) (tv:Value) (k:Nat) (W:World):Prop where
 lp:W.heap[l]? = some (.loop rec)
 dfr:W.heap[D]? = some (.deferred (some []))
 lock:RW W w.heap.size 0 (ints .u8 32 (lkN ks nn))
 txt:RW W (w.heap.size+1) 0 [tv]
 own:Own w.heap.size W (.slice (some ⟨w.heap.size+1+1,0,none⟩) (min n (16*k)) N) (min n (16*k)) T
 out:RW W (w.heap.size+1+1+1) 0 [.slice (some ⟨w.heap.size+1+1,0,none⟩) (min n (16*k)) N]
 num:RW W (w.heap.size+1+1+1+1) 0 [.int .u32 ((2+k:Nat):Int)]
 lst:W.cell? ⟨w.heap.size+1+1+1+1+1,0,none⟩=some tv
 box:W.cell? ⟨w.heap.size+1+1+1+1+1+1,0,none⟩=some (.slice (some ⟨w.heap.size+1+1+1+1+1,0,none⟩) 1 1)
 bel:Below w.heap.size w W
theorem CInv.below {w:World} {l D:Nat} {rec:Loop} {ks nn T:Nat→Nat} {n N:Nat} {tv:Value} {k:Nat} {W W':World} (H:CInv w l D rec ks nn T n N tv k W) (hb:Below W.heap.size W W'):CInv w l D rec ks nn T n N tv k W' :=
 ⟨(hb.block l (Array.getElem?_eq_some_iff.1 H.lp).1).trans H.lp,(hb.block D (Array.getElem?_eq_some_iff.1 H.dfr).1).trans H.dfr,H.lock.still hb,H.txt.still hb,H.own.below hb,H.out.still hb,H.num.still hb,(hb.cell (block_lt_of_cell H.lst)).trans H.lst,(hb.cell (block_lt_of_cell H.box)).trans H.box,below_next H.bel hb⟩
theorem cross_start (w:World) (L:Nat→Nat) (tv:Value) (N:Nat) (hN:N<1000000) (T:Nat→Nat) (w2:World)
 (hw:w2=((((((w.alloc (.cells (ints .u8 32 L).toArray 97)).alloc (.cells #[tv] 22)).alloc (.cells (zb N) 5)).alloc (.cells #[.slice (some ⟨w.heap.size+1+1,0,none⟩) 0 N] 22)).alloc (.cells #[.int .u32 2] 126)).alloc (.cells #[tv] 22)).alloc (.cells #[.slice (some ⟨w.heap.size+1+1+1+1+1,0,none⟩) 1 1] 74)) :
 w2.heap.size=w.heap.size+7∧Below w.heap.size w w2∧RW w2 w.heap.size 0 (ints .u8 32 L)∧RW w2 (w.heap.size+1) 0 [tv]∧Own w.heap.size w2 (.slice (some ⟨w.heap.size+1+1,0,none⟩) 0 N) 0 T∧RW w2 (w.heap.size+1+1+1) 0 [.slice (some ⟨w.heap.size+1+1,0,none⟩) 0 N]∧RW w2 (w.heap.size+1+1+1+1) 0 [.int .u32 2] ∧
  w2.cell? ⟨w.heap.size+1+1+1+1+1,0,none⟩=some tv∧w2.cell? ⟨w.heap.size+1+1+1+1+1+1,0,none⟩=some (.slice (some ⟨w.heap.size+1+1+1+1+1,0,none⟩) 1 1):=by
 have al:∀ (W:World) (o:Obj),Below W.heap.size W (W.alloc o):=fun W o=>(Below.refl _ _).alloc (Nat.le_refl _) _
 obtain ⟨a1,e1⟩:∃ a,a=w.alloc (.cells (ints .u8 32 L).toArray 97):=⟨_,rfl⟩
 obtain ⟨a2,e2⟩:∃ a,a=a1.alloc (.cells #[tv] 22):=⟨_,rfl⟩
 obtain ⟨a3,e3⟩:∃ a,a=a2.alloc (.cells (zb N) 5):=⟨_,rfl⟩
 obtain ⟨a4,e4⟩:∃ a,a=a3.alloc (.cells #[.slice (some ⟨w.heap.size+1+1,0,none⟩) 0 N] 22):=⟨_,rfl⟩
 obtain ⟨a5,e5⟩:∃ a,a=a4.alloc (.cells #[.int .u32 2] 126):=⟨_,rfl⟩
 obtain ⟨a6,e6⟩:∃ a,a=a5.alloc (.cells #[tv] 22):=⟨_,rfl⟩
 rw [←e1,←e2,←e3,←e4,←e5,←e6] at hw
 have s1:a1.heap.size=w.heap.size+1:=by rw [e1];simp
 have s2:a2.heap.size=w.heap.size+1+1:=by rw [e2,World.size_alloc,s1]
 have s3:a3.heap.size=w.heap.size+1+1+1:=by rw [e3,World.size_alloc,s2]
 have s4:a4.heap.size=w.heap.size+1+1+1+1:=by rw [e4,World.size_alloc,s3]
 have s5:a5.heap.size=w.heap.size+1+1+1+1+1:=by rw [e5,World.size_alloc,s4]
 have s6:a6.heap.size=w.heap.size+1+1+1+1+1+1:=by rw [e6,World.size_alloc,s5]
 have t6:Below a6.heap.size a6 w2:=by rw [hw];exact al _ _
 have t5:Below a5.heap.size a5 w2:=below_next (by rw [e6];exact al _ _) t6
 have t4:Below a4.heap.size a4 w2:=below_next (by rw [e5];exact al _ _) t5
 have t3:Below a3.heap.size a3 w2:=below_next (by rw [e4];exact al _ _) t4
 have t2:Below a2.heap.size a2 w2:=below_next (by rw [e3];exact al _ _) t3
 have t1:Below a1.heap.size a1 w2:=below_next (by rw [e2];exact al _ _) t2
 have t0:Below w.heap.size w w2:=below_next (by rw [e1];exact al _ _) t1
 have r0:RW a1 w.heap.size 0 (ints .u8 32 L):=by rw [e1];exact RW.fresh _ _ _
 have r1:RW a2 a1.heap.size 0 [tv]:=by rw [e2];exact RW.fresh _ [tv] _
 have r2:Own w.heap.size a3 (.slice (some ⟨a2.heap.size,0,none⟩) 0 N) 0 T:=by rw [e3];exact Own.madeN _ _ _ _ (by omega) hN
 have r3:RW a4 a3.heap.size 0 [.slice (some ⟨w.heap.size+1+1,0,none⟩) 0 N]:=by rw [e4];exact RW.fresh _ [_] _
 have r4:RW a5 a4.heap.size 0 [.int .u32 2]:=by rw [e5];exact RW.fresh _ [_] _
 have r5:RW a6 a5.heap.size 0 [tv]:=by rw [e6];exact RW.fresh _ [tv] _
 have r6:RW w2 a6.heap.size 0 [.slice (some ⟨w.heap.size+1+1+1+1+1,0,none⟩) 1 1]:=by rw [hw];exact RW.fresh _ [_] _
 rw [s1] at r1
 rw [s2] at r2
 rw [s3] at r3
 rw [s4] at r4
 rw [s5] at r5
 rw [s6] at r6
 refine ⟨by rw [hw,World.size_alloc,s6],t0,r0.still t1,r1.still t2,r2.below t3,r3.still t4,r4.still t5,(r5.still t6).range 0 _ rfl,r6.range 0 _ rfl⟩
theorem RW.one {w:World} {g:Nat} {v:Value} (r:RW w g 0 [v]):w.cell? ⟨g,0,none⟩=some v∧w.frozen? ⟨g,0,none⟩=false:=⟨r.range 0 v rfl,(r.there 0 (Nat.zero_lt_succ _)).2⟩
theorem cross_bytes {ks nn X:Nat→Nat} (hks:∀ j,ks j<256) (hnn:∀ j,nn j<256) (hX:∀ j,X j<256) (n k j:Nat) (hj:j<16) (hl:16*k+j<n):byV (blkT n X k ^^^ toV (ctB ks nn (2+k))) j=trN ks nn X (16*k+j):=by
 unfold blkT
 rw [←toV_xor]
 rw [byV_toV (fun i hi=>xor_byte (padN_lt hX _) (ctB_B hks hnn _ i hi)) j hj]
 unfold trN gpadN
 dsimp only
 rw [if_pos hl,show (16*k+j) / 16=k by omega,show (16*k+j)%16=j by omega]
theorem but_of_below {bad:Nat→Prop} {W W':World} (h:Below W.heap.size W W'):But bad W W':=⟨h.os,h.tape,h.output,h.size,fun k hk _=>h.block k hk⟩
set_option maxRecDepth 100000 in
set_option maxHeartbeats 4000000 in
theorem crossed_in (d:Nat) (ks nn X:Nat→Nat) (n:Nat) (hn:n<200000) (hks:∀ j,ks j<256) (hnn:∀ j,nn j<256) (hX:∀ j,X j<256) (v:Value) (w:World) (hv:BytesIn w v n X) :
 CallsIn Fence.wide d Tryz.prog 67 #[lkV ks nn,v] w fun e w'=>∃ g,e = .returned (.slice (some ⟨g,0,none⟩) n (n+16))∧Own w.heap.size w' (.slice (some ⟨g,0,none⟩) n (n+16)) n (trN ks nn X)∧Below w.heap.size w w':=by
 obtain ⟨xv,cv,rfl,-,-,-⟩:=hv.src
 have hmk:=fun W=>make_roomN W (n+16) ((n+16:Nat):Int) rfl (by omega)
 have cb:=fun xo n c W=>blocks_any xo n c W
 have e1:IntKind.i64.wrap ((n:Int)+16)=((n+16:Nat):Int):=by simp only [IntKind.wrap_i64];omega
 have e2:(n:Int)+16=((n+16:Nat):Int):=by omega
 generalize hN:n+16=N at *
 refine callsIn_of_wp_marks Tryz.func67 rfl trivial ?_ rfl
 simp only [Tryz.ntmps67,List.size_toArray,List.length_cons,List.length_nil,Nat.reduceAdd,Nat.reduceSub,Array.replicate_succ,Array.replicate_zero,List.push_toArray,List.append_toArray,List.nil_append,List.cons_append]
 unfold lkV
 gi_wp2_with (first
  | rw [hmk]
  | (refine ⟨trivial,(fun h=>by cases h),?_⟩;gi_at_call 90;refine (callsIn_wide.2 (cb _ _ _ _)).mono ?_;clear cb;rintro e w2 ⟨rfl,hw2⟩))
 obtain ⟨T,hT⟩:∃ T,T=trN ks nn X:=⟨_,rfl⟩
 have hN2:N<1000000:=by omega
 obtain ⟨hs2,hb2,q0,q1,q2,q3,q4,q5,q6⟩:=cross_start w (lkN ks nn) (.slice xv n cv) N hN2 T w2 hw2
 rw [←hw2]
 have HN:=Hid.mk' hN
 clear hw2 hmk e1 e2 hN2 hN
 refine wpIn_range_with rfl (fun _=>trivial) (fun h=>by cases h) rfl (enters_of Tryz.func117 (by kernel_rfl) rfl) (fun q0' e1 e2 e4 e5 e6 e7 => ?_)
 obtain ⟨W1,hW1⟩:∃ W1,W1=(w2.alloc (.deferred (some []))).alloc (.loop q0'):=⟨_,rfl⟩
 obtain ⟨l,hl⟩:∃ l,l=w2.heap.size+1:=⟨_,rfl⟩
 have hbl1:Below w2.heap.size w2 W1:=by rw [hW1];exact ((Below.refl _ _).alloc (Nat.le_refl _) _).alloc (by simp) _
 have hl1:W1.heap[l]? = some (.loop q0'):=by
  rw [hW1,hl];have:=World.alloc_heap_new (w2.alloc (.deferred (some []))) (.loop q0');rwa [World.size_alloc] at this
 have hD1:W1.heap[w2.heap.size]? = some (.deferred (some [])):=by
  rw [hW1];exact (Below.heap_alloc _ _ _ (by simp)).trans (World.alloc_heap_new w2 _)
 rw [←hW1,←hl]
 obtain ⟨D,hD⟩:∃ D,D=w2.heap.size:=⟨_,rfl⟩
 have hDl:D<l:=by omega
 rw [←hD] at hD1 ⊢
 have hDc:D=w.heap.size+7:=by omega
 clear hW1 hl
 have hI0:CInv w l D q0' ks nn T n N (.slice xv n cv) 0 W1:=⟨hl1,hD1,q0.still hbl1,q1.still hbl1,by rw [Nat.mul_zero,Nat.min_zero];exact q2.below hbl1,by rw [Nat.mul_zero,Nat.min_zero];exact q3.still hbl1,q4.still hbl1,(hbl1.cell (block_lt_of_cell q5)).trans q5,(hbl1.cell (block_lt_of_cell q6)).trans q6,hb2.trans (hbl1.mono hb2.size)⟩
 have hY:∀ k V,16*k<n→CInv w l D q0' ks nn T n N (.slice xv n cv) k V→YieldAt Fence.wide (d - 1 - 1) Tryz.prog l #[blV (blkT n X k)] V fun e W'=>e = .returned (.bool true)∧CInv w l D q0' ks nn T n N (.slice xv n cv) (k+1) W':=by
  intro k V hk hI
  obtain ⟨A,hA⟩:∃ A,A=16*k:=⟨_,rfl⟩
  obtain ⟨m,hm,hmc⟩:∃ m,(m=16∧A+16≤n∨A+m=n∧m<16)∧m≤16:=by
   by_cases h:A+16≤n
   · exact ⟨16,.inl ⟨rfl,h⟩,Nat.le_refl _⟩
   · exact ⟨n - A,.inr ⟨by omega,by omega⟩,by omega⟩
  have hA1:min n (16*k)=A:=by omega
  have hA2:min n (16*(k+1))=A+m:=by omega
  refine yield_round hI.lp (by rw [e5];rfl) ?_
  rw [e4,e5,e6,e7]
  have ca:=fun W=>blockAt_any ks nn (2+k) hks hnn W
  have cp:=fun W=>gplus_any (blkT n X k) (toV (ctB ks nn (2+k))) W
  have cy:=fun W=>gbytes_any (blkT n X k ^^^ toV (ctB ks nn (2+k))) W
  have hby:∀ j,j<m→byV (blkT n X k ^^^ toV (ctB ks nn (2+k))) j=T (A+j):=fun j hj=>by rw [hT,hA];exact cross_bytes hks hnn hX n k j (by omega) (by omega)
  unfold blV at *
  generalize toV (ctB ks nn (2+k))=c at *
  generalize blkT n X k=b at *
  generalize (b ^^^ c)=bc at *
  obtain ⟨x0,hx0⟩:∃ x,x=wd b 0:=⟨_,rfl⟩
  obtain ⟨x1,hx1⟩:∃ x,x=wd b 64:=⟨_,rfl⟩
  rw [←hx0,←hx1] at cp ⊢
  generalize wd c 0=c0 at *
  generalize wd c 64=c1 at *
  generalize wd bc 0=p0 at *
  generalize wd bc 64=p1 at *
  obtain ⟨V1,hV1⟩:∃ V1,V1=V.alloc (.cells #[.int .u64 x0,.int .u64 x1] 101):=⟨_,rfl⟩
  have rB:RW V1 V.heap.size 0 (b2 x0 x1):=by rw [hV1];exact RW.fresh _ _ _
  have bV1:Below V.heap.size V V1:=by rw [hV1];exact (Below.refl _ _).alloc (Nat.le_refl _) _
  have hI1:=hI.below bV1
  obtain ⟨V2,hV2⟩:∃ V2,V2=V1.putObj l (.loop { q0' with state := .busy }):=⟨_,rfl⟩
  have hbV:But (fun k=>k=l) V1 V2:=by rw [hV2];exact but_put _ _ _
  have hlV:V2.heap[l]? = some (.loop { q0' with state := .busy }):=by rw [hV2];exact World.putObj_heap_same (Array.getElem?_eq_some_iff.1 hI1.lp).1
  have hDV:V2.heap[D]? = some (.deferred (some [])):=(hbV.block _ (Array.getElem?_eq_some_iff.1 hI1.dfr).1 (by omega)).trans hI1.dfr
  have hlb:l<V.heap.size:=(Array.getElem?_eq_some_iff.1 hI.lp).1
  have hbeg:(Instr.beginRound l).run Tryz.prog V1 = .ok () V2:=by rw [hV2];exact run_beginRound hI1.lp e1
  replace rB:=rB.but hbV (by omega)
  have rL:=hI1.lock.but hbV (by omega)
  have rX:=hI1.txt.but hbV (by omega)
  have rW:=hI1.own.but hbV (by omega)
  have rO:=hI1.out.but hbV (by omega)
  have rN:=hI1.num.but hbV (by omega)
  have rP:=hbV.cell hI1.lst (by omega)
  have rQ:=hbV.cell hI1.box (by omega)
  have hBV:Below w.heap.size w V2:=hI1.bel.trans (hbV.below hI1.bel.size (by omega))
  rw [hA1] at rW rO
  have hAm:A+m≤N:=by have:=HN.out;omega
  have hfin:∀ V6:World,But (fun q=>q=w.heap.size+1+1∨q=w.heap.size+1+1+1∨q=w.heap.size+1+1+1+1) V2 V6→Own w.heap.size V6 (.slice (some ⟨w.heap.size+1+1,0,none⟩) (A+m) N) (A+m) T→RW V6 (w.heap.size+1+1+1) 0 [.slice (some ⟨w.heap.size+1+1,0,none⟩) (A+m) N]→RW V6 (w.heap.size+1+1+1+1) 0 [.int .u32 ((2+(k+1):Nat):Int)] →
   ∃ v W',(Instr.endRound l none).run Tryz.prog V6 = .ok v W'∧(Ending.returned v = .returned (.bool true)∧CInv w l D q0' ks nn T n N (.slice xv n cv) (k+1) W'):=by
   intro V6 hb3 o6 r6 n6
   have hl3:V6.heap[l]? = some (.loop { q0' with state := .busy }):=(hb3.block l (Array.getElem?_eq_some_iff.1 hlV).1 (by omega)).trans hlV
   have hrec:({ { q0' with state := .busy } with state := .ready,pending:=none }:Loop)=q0':=loop_back q0' e1 e2
   have hb5:=but_put V6 l (.loop q0')
   refine ⟨_,_,run_endRound none hl3,rfl,?_⟩
   simp only [Option.isNone_none,if_true,hrec]
   have hD3:=(hb3.block D (Array.getElem?_eq_some_iff.1 hDV).1 (by omega)).trans hDV
   exact ⟨World.putObj_heap_same (Array.getElem?_eq_some_iff.1 hl3).1,(hb5.block D (Array.getElem?_eq_some_iff.1 hD3).1 (by omega)).trans hD3,(rL.but hb3 (by omega)).but hb5 (by omega),(rX.but hb3 (by omega)).but hb5 (by omega),by rw [hA2];exact o6.but hb5 (by omega),by rw [hA2];exact r6.but hb5 (by omega),n6.but hb5 (by omega),hb5.cell (hb3.cell rP (by omega)) (by omega),hb5.cell (hb3.cell rQ (by omega)) (by omega),(hBV.trans (hb3.below hBV.size (by omega))).trans (hb5.below (Nat.le_trans hBV.size hb3.size) (by omega))⟩
  have hk32:IntKind.u32.wrap (((2+k:Nat):Int)+1)=((2+(k+1):Nat):Int):=by
   show (((2+k:Nat):Int)+1)%4294967296=_
   omega
  have HV1:=Hid.mk' hV1
  obtain ⟨u0,-⟩:=rX.one
  obtain ⟨u1,-⟩:=rO.one
  have hiL:=infoL (lkN ks nn)
  have hlO:w.heap.size+1+1+1<V.heap.size:=by have:=hI.out.lt;omega
  clear hV1 hV2 hx0 hx1 e1 e2 e4 e5 e6 e7 hI0 hbV hBV hDV hlV hI1 hI bV1 hD hDc hDl rX rP rQ hT hA2 hA1 q0 q1 q2 q3 q4 q5 q6 hA hk hs2
  obtain ⟨z,hz⟩:∃ z,z=2+k:=⟨_,rfl⟩
  obtain ⟨z1,hz1⟩:∃ z,z=2+(k+1):=⟨_,rfl⟩
  rw [←hz] at hk32 rN ca
  rw [←hz1] at hk32 hfin
  clear hz hz1
  rcases hm with ⟨rfl,hm⟩ | ⟨hm,hm16⟩
  · have v1:IntKind.i64.wrap ((n:Int) - (A:Int))=(n:Int) - (A:Int):=by simp only [IntKind.wrap_i64];omega
    have v2:(16:Int)≤(n:Int) - (A:Int):=by omega
    gi_wp2
    rw [←HV1.out]
    refine ⟨V2,hbeg,?_⟩
    gi_wp2
    have hdr:Below V2.heap.size V2 V2.drew:=(Below.refl _ _).drew
    have bdr:But (fun q=>q=w.heap.size+1+1) V2 V2.drew:=⟨rfl,rfl,rfl,Nat.le_refl _,fun _ _ _=>rfl⟩
    replace rB:=rB.still hdr
    replace rL:=rL.still hdr
    replace rO:=rO.still hdr
    replace rN:=rN.still hdr
    replace rW:=rW.below hdr
    refine wpIn_last 10 (S:=fun u=>But (fun q=>q=w.heap.size+1+1) V2.drew u) (by kernel_rfl) (by kernel_rfl) (by kernel_rfl) (by kernel_rfl) (by kernel_rfl) (But.refl _ _) (fun hS => ?_)
    generalize V2.drew=V3 at *
    refine tlS 1 (fun u hu=>rB.but hu (by omega)) hS 101 Tryz.underlying101 info2 ?_
    (try simp only [pS])
    refine tlS 2 (fun u hu=>rL.but hu (by omega)) hS 97 Tryz.underlying97 hiL ?_
    (try simp only [pS])
    refine tc 0 hS (fun u hu=>(rO.but hu (by omega)).one.1) ?_
    (try simp only [pS])
    refine tc 3 hS (fun u hu=>(rN.but hu (by omega)).one.1) ?_
    (try simp only [pS])
    refine tg 7 hS ?_
    (try simp only [pS])
    refine cl 4 (ca _) ?_
    rintro e V4 ⟨rfl,hb4⟩
    refine ⟨_,rfl,but_of_below hb4,?_⟩
    (try simp only [pS])
    refine cl 5 (cp _) ?_
    rintro e V5 ⟨rfl,hb5⟩
    replace hb5:=below_next hb4 hb5
    refine ⟨_,rfl,but_of_below hb5,?_⟩
    (try simp only [pS])
    refine cl 6 (cy _) ?_
    rintro e V6 ⟨gy,rfl,hgy,ry,hb6⟩
    have hg6:V3.heap.size≤gy:=Nat.le_trans hb5.size hgy
    replace hb6:=below_next hb5 hb6
    refine ⟨_,rfl,but_of_below hb6,?_⟩
    (try simp only [pS])
    refine tg 8 (but_of_below hb6) ?_
    (try simp only [pS])
    refine ao 9 23 31 w.heap.size (w.heap.size+1+1) A N T (rW.below hb6) gy 16 16 (fun j=>T (A+j)) (fun j hj=>by
     have:=(ry j (by omega)).1
     rw [Nat.zero_add,hby j hj] at this
     exact this) hAm ?_
    intro V7 own7 bt7
    have ot7:But (fun q=>q=w.heap.size+1+1) V3 V7:=(but_of_below hb6).trans bt7
    refine ⟨ot7,?_⟩
    (try simp only [pS])
    replace own7:=own7.congr (Y:=T) (fun j _=>by
     unfold cat
     by_cases h:j<A
     · rw [if_pos h]
     · rw [if_neg h]
       dsimp only
       rw [show A+(j - A)=j by omega])
    replace rO:=rO.but ot7 (by omega)
    replace rN:=rN.but ot7 (by omega)
    obtain ⟨y0,y1⟩:=rO.one
    refine wpAnyH_done (by kernel_rfl) ?_ _
    refine lastRun 10 (w':=V7.setCell ⟨w.heap.size+1+1+1,0,none⟩ (.slice (some ⟨w.heap.size+1+1,0,none⟩) (A+16) N)) ?_
    refine OnlyN.normal ?_
    dsimp only [Act.put]
    have r8:=rO.stored [.slice (some ⟨w.heap.size+1+1,0,none⟩) (A+16) N] rfl
    have bt8:But (fun q=>q=w.heap.size+1+1+1) V7 (V7.setCells (w.heap.size+1+1+1) 0 [.slice (some ⟨w.heap.size+1+1,0,none⟩) (A+16) N]):=(Out.setCells (o:=0) (n:=1) _ _ (Nat.le_refl _) (Nat.le_refl _)).but
    have n8:=rN.but bt8 (by omega)
    have own8:=own7.but bt8 (by omega)
    obtain ⟨V8,hV8⟩:∃ V8,V8=V7.setCells (w.heap.size+1+1+1) 0 [.slice (some ⟨w.heap.size+1+1,0,none⟩) (A+16) N]:=⟨_,rfl⟩
    rw [←hV8] at r8 bt8 n8 own8
    rw [show V7.setCell ⟨w.heap.size+1+1+1,0,none⟩ (.slice (some ⟨w.heap.size+1+1,0,none⟩) (A+16) N)=V8 from hV8.symm]
    have bt9:But (fun q=>q=w.heap.size+1+1+1+1) V8 (V8.setCells (w.heap.size+1+1+1+1) 0 [.int .u32 (z1:Int)]):=(Out.setCells (o:=0) (n:=1) _ _ (Nat.le_refl _) (Nat.le_refl _)).but
    have n9:=n8.stored [.int .u32 (z1:Int)] rfl
    obtain ⟨y2,y3⟩:=n8.one
    have hf:=hfin (V8.setCells (w.heap.size+1+1+1+1) 0 [.int .u32 (z1:Int)]) ((((bdr.trans ot7).mono (fun q h => .inl h)).trans (bt8.mono (fun q h => .inr (.inl h)))).trans (bt9.mono (fun q h => .inr (.inr h)))) (own8.but bt9 (by omega)) (r8.but bt9 (by omega)) n9
    clear hfin hV8 bt9 n9 own8 r8 n8 bt8 bt7 ot7 own7 rO rN y0 y1 ca cp cy hby rB rL rW hb4 hb5 hb6 ry
    gi_wp2
    exact hf
  · have v1:IntKind.i64.wrap ((n:Int) - (A:Int))=(m:Int):=by simp only [IntKind.wrap_i64];omega
    have v3:(n:Int) - (A:Int)=(m:Int):=by omega
    have v2:¬(16:Int)≤(m:Int):=by omega
    have v4:(m:Int)<16:=by omega
    have v5:(0:Int)≤(m:Int):=by omega
    have v6:(m:Int)≤16:=by omega
    clear hm hm16
    gi_wp2
    rw [←HV1.out]
    refine ⟨V2,hbeg,?_⟩
    gi_wp2
    have hdr:Below V2.heap.size V2 V2.drew:=(Below.refl _ _).drew
    have bdr:But (fun q=>q=w.heap.size+1+1) V2 V2.drew:=⟨rfl,rfl,rfl,Nat.le_refl _,fun _ _ _=>rfl⟩
    replace rB:=rB.still hdr
    replace rL:=rL.still hdr
    replace rO:=rO.still hdr
    replace rN:=rN.still hdr
    replace rW:=rW.below hdr
    refine wpIn_last 10 (S:=fun u=>But (fun q=>q=w.heap.size+1+1) V2.drew u) (by kernel_rfl) (by kernel_rfl) (by kernel_rfl) (by kernel_rfl) (by kernel_rfl) (But.refl _ _) (fun hS => ?_)
    generalize V2.drew=V3 at *
    refine tlS 1 (fun u hu=>rB.but hu (by omega)) hS 101 Tryz.underlying101 info2 ?_
    (try simp only [pS])
    refine tlS 2 (fun u hu=>rL.but hu (by omega)) hS 97 Tryz.underlying97 hiL ?_
    (try simp only [pS])
    refine tc 0 hS (fun u hu=>(rO.but hu (by omega)).one.1) ?_
    (try simp only [pS])
    refine tc 3 hS (fun u hu=>(rN.but hu (by omega)).one.1) ?_
    (try simp only [pS])
    refine tg 7 hS ?_
    (try simp only [pS])
    refine cl 4 (ca _) ?_
    rintro e V4 ⟨rfl,hb4⟩
    refine ⟨_,rfl,but_of_below hb4,?_⟩
    (try simp only [pS])
    refine cl 5 (cp _) ?_
    rintro e V5 ⟨rfl,hb5⟩
    replace hb5:=below_next hb4 hb5
    refine ⟨_,rfl,but_of_below hb5,?_⟩
    (try simp only [pS])
    refine cl 6 (cy _) ?_
    rintro e V6 ⟨gy,rfl,hgy,ry,hb6⟩
    have hg6:V3.heap.size≤gy:=Nat.le_trans hb5.size hgy
    replace hb6:=below_next hb5 hb6
    refine ⟨_,rfl,but_of_below hb6,?_⟩
    (try simp only [pS])
    refine tg 8 (but_of_below hb6) ?_
    (try simp only [pS])
    refine ao 9 23 31 w.heap.size (w.heap.size+1+1) A N T (rW.below hb6) gy m 16 (fun j=>T (A+j)) (fun j hj=>by
     have:=(ry j (by omega)).1
     rw [Nat.zero_add,hby j hj] at this
     exact this) hAm ?_
    intro V7 own7 bt7
    have ot7:But (fun q=>q=w.heap.size+1+1) V3 V7:=(but_of_below hb6).trans bt7
    refine ⟨ot7,?_⟩
    (try simp only [pS])
    replace own7:=own7.congr (Y:=T) (fun j _=>by
     unfold cat
     by_cases h:j<A
     · rw [if_pos h]
     · rw [if_neg h]
       dsimp only
       rw [show A+(j - A)=j by omega])
    replace rO:=rO.but ot7 (by omega)
    replace rN:=rN.but ot7 (by omega)
    obtain ⟨y0,y1⟩:=rO.one
    refine wpAnyH_done (by kernel_rfl) ?_ _
    refine lastRun 10 (w':=V7.setCell ⟨w.heap.size+1+1+1,0,none⟩ (.slice (some ⟨w.heap.size+1+1,0,none⟩) (A+m) N)) ?_
    refine OnlyN.normal ?_
    dsimp only [Act.put]
    have r8:=rO.stored [.slice (some ⟨w.heap.size+1+1,0,none⟩) (A+m) N] rfl
    have bt8:But (fun q=>q=w.heap.size+1+1+1) V7 (V7.setCells (w.heap.size+1+1+1) 0 [.slice (some ⟨w.heap.size+1+1,0,none⟩) (A+m) N]):=(Out.setCells (o:=0) (n:=1) _ _ (Nat.le_refl _) (Nat.le_refl _)).but
    have n8:=rN.but bt8 (by omega)
    have own8:=own7.but bt8 (by omega)
    obtain ⟨V8,hV8⟩:∃ V8,V8=V7.setCells (w.heap.size+1+1+1) 0 [.slice (some ⟨w.heap.size+1+1,0,none⟩) (A+m) N]:=⟨_,rfl⟩
    rw [←hV8] at r8 bt8 n8 own8
    rw [show V7.setCell ⟨w.heap.size+1+1+1,0,none⟩ (.slice (some ⟨w.heap.size+1+1,0,none⟩) (A+m) N)=V8 from hV8.symm]
    have bt9:But (fun q=>q=w.heap.size+1+1+1+1) V8 (V8.setCells (w.heap.size+1+1+1+1) 0 [.int .u32 (z1:Int)]):=(Out.setCells (o:=0) (n:=1) _ _ (Nat.le_refl _) (Nat.le_refl _)).but
    have n9:=n8.stored [.int .u32 (z1:Int)] rfl
    obtain ⟨y2,y3⟩:=n8.one
    have hf:=hfin (V8.setCells (w.heap.size+1+1+1+1) 0 [.int .u32 (z1:Int)]) ((((bdr.trans ot7).mono (fun q h => .inl h)).trans (bt8.mono (fun q h => .inr (.inl h)))).trans (bt9.mono (fun q h => .inr (.inr h)))) (own8.but bt9 (by omega)) (r8.but bt9 (by omega)) n9
    clear hfin hV8 bt9 n9 own8 r8 n8 bt8 bt7 ot7 own7 rO rN y0 y1 ca cp cy hby rB rL rW hb4 hb5 hb6 ry
    gi_wp2
    exact hf
 have hmin:min n (16*nb n)=n:=by unfold nb;omega
 refine (giter_in (d - 1) l (w.heap.size+1+1+1+1+1+1) (w.heap.size+1+1+1+1+1) 1 (fun _=>n) (fun _=>X) (fun _=>hX) (fun _ => .slice xv n cv) (fun i k W=>CInv w l D q0' ks nn T n N (.slice xv n cv) (if i=0 then k else nb n) W) (fun i k W H=>H.box) (fun i k W H j hj=>by
  obtain rfl:j=0:=by omega
  exact H.lst) (fun i k W H j hj=>hv.keep H.bel) (fun _=>by omega) (by decide) (fun i k W W' H hb=>H.below hb) (fun i W H=>by
   rw [show (if i=0 then nb n else nb n)=nb n by split <;> rfl] at H
   rw [if_neg (by omega)]
   exact H) (fun i k V hi hk H=>by
    obtain rfl:i=0:=by omega
    rw [if_pos rfl] at H ⊢
    exact hY k V hk H) W1 hI0).mono ?_
 rintro e W2 ⟨⟨v,rfl⟩,hG⟩
 rw [if_neg (by decide)] at hG
 obtain ⟨V,hV⟩:∃ V,V=W2.putObj l (.loop { q0' with state := .exhausted }):=⟨_,rfl⟩
 have hbV:But (fun k=>k=l) W2 V:=by rw [hV];exact but_put _ _ _
 have hDV:V.heap[D]? = some (.deferred (some [])):=(hbV.block _ (Array.getElem?_eq_some_iff.1 hG.dfr).1 (by omega)).trans hG.dfr
 have hBV:Below w.heap.size w V:=hG.bel.trans (hbV.below hG.bel.size (by omega))
 have hout:=hG.out.but hbV (by omega)
 have hown:=hG.own.but hbV (by omega)
 rw [hmin] at hout hown
 refine ⟨none,V,?_,?_⟩
 · have h:=run_endLoop (P:=Tryz.prog) hG.lp (by rw [e1];simp)
   rw [←hV,e2] at h
   exact h
 have hD':D<V.heap.size:=(Array.getElem?_eq_some_iff.1 hDV).1
 obtain ⟨u0,-⟩:=hout.one
 have hb5:=but_put V D (.deferred none)
 have own5:=hown.but hb5 (by omega)
 have hB5:=hBV.trans (hb5.below hBV.size (by omega))
 clear hV hY hI0 e1 e2 e4 e5 e6 e7 hbl1 hl1 hD1 hG q0 q1 q2 q3 q4 q5 q6 hout hown hD hDc hs2
 gi_wp2
 refine ⟨by simp,.inl ⟨_,_,rfl,run_takeDeferred hDV,?_⟩⟩
 have hN:=HN.out
 subst hN
 rw [hT] at own5
 exact ⟨_,results_tmp rfl _ _ _,w.heap.size+1+1,rfl,own5,hB5⟩
theorem crossed_any (ks nn X:Nat→Nat) (n:Nat) (hn:n<200000) (hks:∀ j,ks j<256) (hnn:∀ j,nn j<256) (hX:∀ j,X j<256) (v:Value) (w:World) (hv:BytesIn w v n X) :
 Calls Tryz.prog 67 #[lkV ks nn,v] w fun e w'=>∃ g,e = .returned (.slice (some ⟨g,0,none⟩) n (n+16))∧Own w.heap.size w' (.slice (some ⟨g,0,none⟩) n (n+16)) n (trN ks nn X)∧Below w.heap.size w w' :=
 callsIn_wide.1 (crossed_in 9 ks nn X n hn hks hnn hX v w hv)
end Go.Proofs.YtcgkajlehdgpoaaGreatDoor
