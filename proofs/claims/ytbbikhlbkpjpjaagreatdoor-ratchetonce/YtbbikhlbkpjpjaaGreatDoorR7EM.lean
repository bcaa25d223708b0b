/- What the proof stands on: R7E, I2Fl, I2Fm, I2Tz, I2At. -/
import Derived.Test.YtbbikhlbkpjpjaaGreatDoorBaseM
import Derived.Test.YtbbikhlbkpjpjaaGreatDoorR7AM
import Derived.Laws.Externs
import Derived.Laws.FloatArith
import Derived.Lib.TrailingZeros
namespace Go.Proofs.YtbbikhlbkpjpjaaGreatDoor
open Go.RowKit
def keyS (g:Nat) (X:Nat→Nat):Nat→Nat:=rtE g X rKey 16
def nonS (g:Nat) (X:Nat→Nat):Nat→Nat:=rtE g X rNon 12
theorem kyL_len (A B:Nat→Nat):(kyL A B).length=28:=by unfold kyL;rw [List.length_append,ints_len,ints_len]
theorem infoKy (A B:Nat→Nat):(Tryz.prog.info? 86).map (·.size)=some (kyL A B).length:=by rw [kyL_len];kernel_rfl
theorem ky_size (A B:Nat→Nat):(kyL A B).toArray.size=28:=by rw [List.size_toArray,kyL_len]
theorem infoKyA (A B:Nat→Nat):(Tryz.prog.info? 86).map (·.size)=some (kyL A B).toArray.size:=by rw [ky_size];kernel_rfl
theorem oneKy (A B:Nat→Nat):(kyL A B).toArray.all (·.oneCell')=true:=by
 have h1:=oneU7 16 A
 have h2:=oneU7 12 B
 rw [List.all_toArray] at h1 h2 ⊢
 unfold kyL
 rw [List.all_append,h1,h2];rfl
theorem ky_zero (w:World):RW (w.alloc (.cells #[.int .u8 0,.int .u8 0,.int .u8 0,.int .u8 0,.int .u8 0,.int .u8 0,.int .u8 0,.int .u8 0,.int .u8 0,.int .u8 0,.int .u8 0,.int .u8 0,.int .u8 0,.int .u8 0,.int .u8 0,.int .u8 0,.int .u8 0,.int .u8 0,.int .u8 0,.int .u8 0,.int .u8 0,.int .u8 0,.int .u8 0,.int .u8 0,.int .u8 0,.int .u8 0,.int .u8 0,.int .u8 0] 86)) w.heap.size 0 (kyL lZ lZ):=RW.fresh w (kyL lZ lZ) 86
set_option maxRecDepth 20000 in
set_option maxHeartbeats 4000000 in
theorem rtKeys_any (g:Nat) (hg:g<4294967296) (X:Nat→Nat) (hX:∀ j,X j<256) (w:World) (hT:TabAt w) :
 Calls Tryz.prog 45 #[rtV g X] w fun e w'=>e = .returned (kyV (keyS g X) (nonS g X))∧Below w.heap.size w w':=by
 obtain ⟨W1,hW1⟩:∃ W,W=w.alloc (.cells (rtL g X).toArray 79):=⟨_,rfl⟩
 have b1:Below w.heap.size w W1:=by rw [hW1];exact (Below.refl _ _).alloc (Nat.le_refl _) _
 have k1:RW W1 w.heap.size 0 (rtL g X):=by rw [hW1];exact RW.fresh w _ _
 have s1:W1.heap.size=w.heap.size+1:=by rw [hW1];simp
 obtain ⟨W2,hW2⟩:∃ W,W=W1.alloc (.cells #[.int .u8 0,.int .u8 0,.int .u8 0,.int .u8 0,.int .u8 0,.int .u8 0,.int .u8 0,.int .u8 0,.int .u8 0,.int .u8 0,.int .u8 0,.int .u8 0,.int .u8 0,.int .u8 0,.int .u8 0,.int .u8 0,.int .u8 0,.int .u8 0,.int .u8 0,.int .u8 0,.int .u8 0,.int .u8 0,.int .u8 0,.int .u8 0,.int .u8 0,.int .u8 0,.int .u8 0,.int .u8 0] 86):=⟨_,rfl⟩
 have b2:Below W1.heap.size W1 W2:=by rw [hW2];exact (Below.refl _ _).alloc (Nat.le_refl _) _
 have kr:RW W2 W1.heap.size 0 (kyL lZ lZ):=by rw [hW2];exact ky_zero W1
 have s2:W2.heap.size=w.heap.size+2:=by rw [hW2];simp;omega
 obtain ⟨W3,hW3⟩:∃ W,W=W2.alloc (.cells #[.int .u8 0,.int .u8 0,.int .u8 0,.int .u8 0,.int .u8 0,.int .u8 0,.int .u8 0,.int .u8 0,.int .u8 0,.int .u8 0,.int .u8 0,.int .u8 0,.int .u8 0,.int .u8 0,.int .u8 0,.int .u8 0,.int .u8 0,.int .u8 0,.int .u8 0,.int .u8 0,.int .u8 0,.int .u8 0,.int .u8 0,.int .u8 0,.int .u8 0,.int .u8 0,.int .u8 0,.int .u8 0] 86):=⟨_,rfl⟩
 have b3:Below W2.heap.size W2 W3:=by rw [hW3];exact (Below.refl _ _).alloc (Nat.le_refl _) _
 have kk:RW W3 W2.heap.size 0 (kyL lZ lZ):=by rw [hW3];exact ky_zero W2
 replace k1:=(k1.still b2).still b3
 replace kr:=kr.still b3
 have bA:=below_next (below_next b1 b2) b3
 rw [s1] at kr
 rw [s2] at kk
 have p1:RW W3 (w.heap.size+2) 0 (ints .u8 16 lZ):=kk.left
 have p2:RW W3 (w.heap.size+2) 16 (ints .u8 12 lZ):=by have h:=kk.right;rwa [ints_len] at h
 have HW1:=Hid.mk' hW1
 have HW2:=Hid.mk' hW2
 have HW3:=Hid.mk' hW3
 obtain ⟨A,hA⟩:∃ A,A=rtE g X rKey 16:=⟨_,rfl⟩
 obtain ⟨B,hB⟩:∃ B,B=rtE g X rNon 12:=⟨_,rfl⟩
 have eV:kyV (keyS g X) (nonS g X) = .agg (kyL A B).toArray:=by rw [hA,hB];rfl
 rw [eV]
 unfold rtV
 clear hW1 hW2 hW3 b1 b2 b3 eV kk
 go_enter Tryz.func45,Tryz.ntmps45
 go_upto_region 2 with (fail)
 rw [←HW1.out,←HW2.out,←HW3.out]
 clear HW1 HW2 HW3
 go_upto_region 2 with (fail)
 have hdr:Below (W3).heap.size (W3) (W3).drew:=(Below.refl _ _).drew
 replace k1:=k1.still hdr
 replace p1:=p1.still hdr
 replace p2:=p2.still hdr
 replace kr:=kr.still hdr
 replace bA:=below_next bA hdr
 clear hdr
 have cx:=rtExpand_any g hg X hX rKey (by decide) (by decide) 16 (by decide) (W3).drew (hT.still bA)
 replace cx:Calls Tryz.prog 51 #[.agg (rtL g X).toArray,.string { data:=#[107,101,121] },.int .i64 16] (W3).drew _:=cx
 have e2:rtE g X rKey 16=A:=hA.symm
 rw [e2] at cx
 refine wp_region_noPanic ?_
 refine wp_region_held_drew (S:=fun u=>Out (w.heap.size+2) 0 28 (W3).drew u) (by kernel_rfl) (Out.refl _ _ _ _) (fun hS => ?_)
 generalize (W3).drew=V2 at *
 refine tg 0 hS (v:=pA (w.heap.size+2) 0) ?_
 (try simp only [pS])
 refine tg 1 hS (v := .slice (some ⟨w.heap.size+2,0,none⟩) 16 16) (hy:=by intro u hu;exact (show (execOp _ _).run Tryz.prog u=_ from by kernel_rfl)) ?_
 (try simp only [pS])
 refine tR 2 hS (fun u hu=>(k1.out hu (by omega)).range) 79 Tryz.underlying79 (infoRt g X) ?_
 (try simp only [pS])
 refine cl 3 cx ?_
 rintro e u1 ⟨x4,c4,rfl,B4,hb⟩
 have hS1:=out_below 0 28 hb p1.lt
 refine ⟨_,rfl,hS1,?_⟩
 have hsz1:=hb.size
 replace k1:=k1.still hb
 replace p1:=p1.still hb
 replace p2:=p2.still hb
 replace kr:=kr.still hb
 replace bA:=below_next bA hb
 clear hS hb cx
 obtain ⟨xo4,cc4,ee4,hxn4,-,src4⟩:=B4.src
 obtain ⟨rfl,rfl⟩:x4=xo4∧c4=cc4:=(by injection ee4 with h1 h2 h3;exact ⟨h1,h3⟩)
 (try simp only [pS])
 refine wpAnyH_ready (rs:=[4]) (by kernel_rfl) (by simp) ?_
 have hth:u1.there (w.heap.size+2) 0 16:=by have h:=p1.there;rwa [ints_len] at h
 have hrun:=run_copy_bytes (P:=Tryz.prog) u1 22 22 3 5 (w.heap.size+2) 0 16 16 x4 16 c4 16 A Tryz.underlying22 (by kernel_rfl) (src4 u1 (Below.refl _ _)) (by decide) hth
 have ho:=Out.setCells (b:=w.heap.size+2) (o:=0) u1 (ints .u8 16 A) (Nat.le_refl _) (Nat.le_refl _)
 rw [ints_len] at ho
 refine zRun 4 (run_copyB _ _ _ _ rfl rfl rfl hrun) (out_next hS1 ho (by decide) (by decide) hsz1) ?_ AllReadyH.nil
 (try simp only [pS])
 refine wpAnyH_done (by kernel_rfl) ?_ _
 refine NoPanic.normal ?_
 replace k1:=k1.far (w.heap.size+2) 0 (ints .u8 16 A) (.inl (by omega))
 replace kr:=kr.far (w.heap.size+2) 0 (ints .u8 16 A) (.inl (by omega))
 replace p2:=p2.far (w.heap.size+2) 0 (ints .u8 16 A) (.inr (by rw [ints_len,ints_len];omega))
 replace p1:=p1.stored (ints .u8 16 A) (by rw [ints_len,ints_len])
 replace bA:=below_setCells (show w.heap.size≤w.heap.size+2 by omega) (ints .u8 16 A) 0 _ bA
 clear hth hrun ho hS1 hsz1 src4 hxn4 ee4 B4
 go_upto_region 3 with (fail)
 have hdr:Below (u1.setCells (w.heap.size+2) 0 (ints .u8 16 A)).heap.size (u1.setCells (w.heap.size+2) 0 (ints .u8 16 A)) (u1.setCells (w.heap.size+2) 0 (ints .u8 16 A)).drew:=(Below.refl _ _).drew
 replace k1:=k1.still hdr
 replace p1:=p1.still hdr
 replace p2:=p2.still hdr
 replace kr:=kr.still hdr
 replace bA:=below_next bA hdr
 clear hdr
 have cx:=rtExpand_any g hg X hX rNon (by decide) (by decide) 12 (by decide) (u1.setCells (w.heap.size+2) 0 (ints .u8 16 A)).drew (hT.still bA)
 replace cx:Calls Tryz.prog 51 #[.agg (rtL g X).toArray,.string { data:=#[110,111,110,99,101] },.int .i64 12] (u1.setCells (w.heap.size+2) 0 (ints .u8 16 A)).drew _:=cx
 have e3:rtE g X rNon 12=B:=hB.symm
 rw [e3] at cx
 refine wp_region_noPanic ?_
 refine wp_region_held_drew (S:=fun u=>Out (w.heap.size+2) 0 28 (u1.setCells (w.heap.size+2) 0 (ints .u8 16 A)).drew u) (by kernel_rfl) (Out.refl _ _ _ _) (fun hS => ?_)
 generalize (u1.setCells (w.heap.size+2) 0 (ints .u8 16 A)).drew=V3 at *
 refine tg 0 hS (v:=pA (w.heap.size+2) 16) ?_
 (try simp only [pS])
 refine tg 1 hS (v := .slice (some ⟨w.heap.size+2,16,none⟩) 12 12) (hy:=by intro u hu;exact (show (execOp _ _).run Tryz.prog u=_ from by kernel_rfl)) ?_
 (try simp only [pS])
 refine tR 2 hS (fun u hu=>(k1.out hu (by omega)).range) 79 Tryz.underlying79 (infoRt g X) ?_
 (try simp only [pS])
 refine cl 3 cx ?_
 rintro e u2 ⟨x4,c4,rfl,B4,hb⟩
 have hS1:=out_below 0 28 hb p1.lt
 refine ⟨_,rfl,hS1,?_⟩
 have hsz1:=hb.size
 replace k1:=k1.still hb
 replace p1:=p1.still hb
 replace p2:=p2.still hb
 replace kr:=kr.still hb
 replace bA:=below_next bA hb
 clear hS hb cx
 obtain ⟨xo4,cc4,ee4,hxn4,-,src4⟩:=B4.src
 obtain ⟨rfl,rfl⟩:x4=xo4∧c4=cc4:=(by injection ee4 with h1 h2 h3;exact ⟨h1,h3⟩)
 (try simp only [pS])
 refine wpAnyH_ready (rs:=[4]) (by kernel_rfl) (by simp) ?_
 have hth:u2.there (w.heap.size+2) 16 12:=by have h:=p2.there;rwa [ints_len] at h
 have hrun:=run_copy_bytes (P:=Tryz.prog) u2 22 22 3 5 (w.heap.size+2) 16 12 12 x4 12 c4 12 B Tryz.underlying22 (by kernel_rfl) (src4 u2 (Below.refl _ _)) (by decide) hth
 have ho:=Out.setCells (b:=w.heap.size+2) (o:=16) u2 (ints .u8 12 B) (Nat.le_refl _) (Nat.le_refl _)
 rw [ints_len] at ho
 refine zRun 4 (run_copyB _ _ _ _ rfl rfl rfl hrun) (out_next hS1 ho (by decide) (by decide) hsz1) ?_ AllReadyH.nil
 (try simp only [pS])
 refine wpAnyH_done (by kernel_rfl) ?_ _
 refine NoPanic.normal ?_
 replace k1:=k1.far (w.heap.size+2) 16 (ints .u8 12 B) (.inl (by omega))
 replace kr:=kr.far (w.heap.size+2) 16 (ints .u8 12 B) (.inl (by omega))
 replace p1:=p1.far (w.heap.size+2) 16 (ints .u8 12 B) (.inr (by rw [ints_len,ints_len];omega))
 replace p2:=p2.stored (ints .u8 12 B) (by rw [ints_len,ints_len])
 replace bA:=below_setCells (show w.heap.size≤w.heap.size+2 by omega) (ints .u8 12 B) 16 _ bA
 clear hth hrun ho hS1 hsz1 src4 hxn4 ee4 B4
 have kw:RW (u2.setCells (w.heap.size+2) 16 (ints .u8 12 B)) (w.heap.size+2) 0 (kyL A B):=RW.whole p1 (by rw [ints_len];exact p2)
 have hkI:=infoKy A B
 have hkA:=infoKyA A B
 have hkO:=oneKy A B
 have hkl:=kyL_len A B
 have hth:(u2.setCells (w.heap.size+2) 16 (ints .u8 12 B)).there (w.heap.size+1) 0 (kyL A B).toArray.size:=by have h:=kr.there;rw [kyL_len] at h;rw [ky_size];exact h
 generalize u2.setCells (w.heap.size+2) 16 (ints .u8 12 B)=W9 at *
 obtain ⟨KL,hKL⟩:∃ L,L=kyL A B:=⟨_,rfl⟩
 rw [←hKL] at kw hkI hkA hkO hkl hth
 have HKL:=Hid.mk' hKL
 clear hKL
 clear p1 p2 k1 hT hX hA hB
 go_wp2_with (first
  | (refine wpList_load_mid rfl 86 _ rfl (w.heap.size+2) 0 rfl KL _ kw.range Tryz.underlying86 rfl hkI ?_)
  | (refine wpList_store_mid rfl 86 _ _ rfl (w.heap.size+1) 0 KL.toArray rfl rfl hth hkA hkO ?_))
 have rz:=kr.stored KL (by rw [kyL_len,hkl])
 exact bodyPost_ret (results_cell_mid Tryz.results45 _ _ (w.heap.size+1) 0 KL _ rfl rz.range Tryz.underlying86 rfl hkI) rfl ⟨by rw [HKL.out],below_setCells (Nat.le_succ _) _ 0 _ bA⟩
end Go.Proofs.YtbbikhlbkpjpjaaGreatDoor
namespace Go.Proofs.YtbbikhlbkpjpjaaGreatDoor
open Go.RowKit
def FB (c:Nat):Nat:=floatOfInt .f64 (c:Int)
structure Fin0 (x:Nat):Prop where
 abs:bits BinOp.andNot .u64 (x:Int) 9223372036854775808=(x:Int)
 max:FloatKind.f64.format.order x 9218868437227405311=some .lt
 self:FloatKind.f64.format.order x x=some .eq
 neg:FloatKind.f64.format.order x 0=some .gt∨FloatKind.f64.format.order x 0=some .eq
theorem fin_tab (c:Nat) (hc:c<128):Fin0 (FB c):=by
 have h:(List.range 128).all (fun c=>bits BinOp.andNot .u64 (FB c:Int) 9223372036854775808 == (FB c:Int) && FloatKind.f64.format.order (FB c) 9218868437227405311 == some .lt && FloatKind.f64.format.order (FB c) (FB c) == some .eq && (FloatKind.f64.format.order (FB c) 0 == some .gt || FloatKind.f64.format.order (FB c) 0 == some .eq))=true:=by kernel_rfl
 have:=List.all_eq_true.1 h c (List.mem_range.2 hc)
 simp only [Bool.and_eq_true,Bool.or_eq_true,beq_iff_eq] at this
 exact ⟨this.1.1.1,this.1.1.2,this.1.2,this.2⟩
theorem bits_run (x:Nat) (W:World):(callFunc 132 #[.float .f64 x]).run Tryz.prog W = .ok (.value (.int .u64 (x:Int))) W:=by
 rw [run_callFunc_extern (e:=Extern.MathFloatBits.float64bits) Tryz.func132 (by kernel_rfl) (by kernel_rfl) (by kernel_rfl) (by kernel_rfl)]
 rfl
theorem from_run (x:Nat) (W:World):(callFunc 131 #[.int .u64 (x:Int)]).run Tryz.prog W = .ok (.value (.float .f64 x)) W:=by
 rw [run_callFunc_extern (e:=Extern.MathFloatBits.float64frombits) Tryz.func131 (by kernel_rfl) (by kernel_rfl) (by kernel_rfl) (by kernel_rfl)]
 rfl
theorem abs_any (x:Nat) (hx:Fin0 x) (w:World):Calls Tryz.prog 121 #[.float .f64 x] w fun e w'=>e = .returned (.float .f64 x)∧w=w':=by
 have h1:=bits_run x
 have h2:=from_run x
 have h3:=hx.abs
 clear hx
 go_enter Tryz.func121,Tryz.ntmps121
 go_wp2
 go_ret
 exact ⟨rfl,rfl⟩
theorem isInf_any (x:Nat) (hx:Fin0 x) (w:World):Calls Tryz.prog 118 #[.float .f64 x,.int .i64 0] w fun e w'=>e = .returned (.bool false)∧w=w':=by
 have c:=abs_any x hx w
 have h:=hx.max
 clear hx
 go_enter Tryz.func118,Tryz.ntmps118
 go_wp2_with (go_at_call 121;refine c.mono ?_;clear c;rintro e w1 ⟨rfl,hw⟩;subst hw)
 go_ret
 exact ⟨rfl,rfl⟩
theorem isNaN_any (x:Nat) (hx:Fin0 x) (w:World):Calls Tryz.prog 119 #[.float .f64 x] w fun e w'=>e = .returned (.bool false)∧w=w':=by
 have h:=hx.self
 clear hx
 go_enter Tryz.func119,Tryz.ntmps119
 go_wp2
 go_ret
 exact ⟨rfl,rfl⟩
theorem normal_any (x:Nat) (hx:Fin0 x) (hs:FloatKind.f64.format.order x 4503599627370496=some .gt) (w:World):Calls Tryz.prog 149 #[.float .f64 x] w fun e w'=>e = .returned (.tuple #[.float .f64 x,.int .i64 0])∧w=w':=by
 have c:=abs_any x hx w
 clear hx
 go_enter Tryz.func149,Tryz.ntmps149
 go_wp2_with (go_at_call 121;refine c.mono ?_;clear c;rintro e w1 ⟨rfl,hw⟩;subst hw)
 go_ret2
 exact ⟨rfl,rfl⟩
structure Fin1 (x r:Nat) (z:Int):Prop where
 fin:Fin0 x
 pos:FloatKind.f64.format.order x 0=some .gt
 nor:FloatKind.f64.format.order x 4503599627370496=some .gt
 exp:wrap64 (wrap64 (wrap64 (wrap64 (bits .and .u64 ((x:Int) / 4503599627370496) 2047) - 1023)+1))=z
 frc:bits .or .u64 (bits .andNot .u64 (x:Int) 9218868437227405312) 4602678819172646912=(r:Int)
theorem frexp_any (x r:Nat) (z:Int) (hx:Fin1 x r z) (w:World):Calls Tryz.prog 134 #[.float .f64 x] w fun e w'=>e = .returned (.tuple #[.float .f64 r,.int .i64 z])∧w=w':=by
 have c1:=isInf_any x hx.fin w
 have c2:=isNaN_any x hx.fin w
 have c3:=normal_any x hx.fin hx.nor w
 have h1:=bits_run x
 have h2:=from_run r
 have h3:=hx.pos
 have h4:=hx.exp
 have h5:=hx.frc
 clear hx
 go_enter Tryz.func134,Tryz.ntmps134
 go_wp2_with (first
  | (go_at_call 118;refine c1.mono ?_;clear c1;rintro e w1 ⟨rfl,hw⟩;subst hw)
  | (go_at_call 119;refine c2.mono ?_;clear c2;rintro e w1 ⟨rfl,hw⟩;subst hw)
  | (go_at_call 149;refine c3.mono ?_;clear c3;rintro e w1 ⟨rfl,hw⟩;subst hw))
 rw [h4]
 go_ret2
 exact ⟨rfl,rfl⟩
theorem Frexp_any (x r:Nat) (z:Int) (hx:Fin1 x r z) (w:World):Calls Tryz.prog 122 #[.float .f64 x] w fun e w'=>e = .returned (.tuple #[.float .f64 r,.int .i64 z])∧w=w':=by
 have c:=frexp_any x r z hx w
 clear hx
 go_enter Tryz.func122,Tryz.ntmps122
 go_wp2_with (go_at_call 134;refine c.mono ?_;clear c;rintro e w1 ⟨rfl,hw⟩;subst hw)
 go_ret2
 exact ⟨rfl,rfl⟩
def frB (d:Nat):Nat:=(bits .or .u64 (bits .andNot .u64 (FB d:Int) 9218868437227405312) 4602678819172646912).toNat
theorem fin1_tab (d:Nat) (h0:0<d) (hd:d<128):Fin1 (FB d) (frB d) ((Nat.log2 d+1:Nat):Int):=by
 have h:(List.range 128).all (fun d=>d == 0 || (FloatKind.f64.format.order (FB d) 0 == some .gt && FloatKind.f64.format.order (FB d) 4503599627370496 == some .gt && wrap64 (wrap64 (wrap64 (wrap64 (bits .and .u64 ((FB d:Int) / 4503599627370496) 2047) - 1023)+1)) == ((Nat.log2 d+1:Nat):Int) && bits .or .u64 (bits .andNot .u64 (FB d:Int) 9218868437227405312) 4602678819172646912 == (frB d:Int)))=true:=by kernel_rfl
 have:=List.all_eq_true.1 h d (List.mem_range.2 hd)
 simp only [Bool.and_eq_true,Bool.or_eq_true,beq_iff_eq] at this
 have:=this.resolve_left (by omega)
 exact ⟨fin_tab d hd,this.1.1.1,this.1.1.2,this.1.2,this.2⟩
theorem ldexp_at (z:Int) (hz:0≤z) (hz4:z≤4) (v:Nat) (hv:bits BinOp.or IntKind.u64 0 ((z+1+1023)*4503599627370496)=(v:Int)) (hm:∀ W,(binOp .mul 133 (.float .f64 4607182418800017408) (.float .f64 v)).run Tryz.prog W = .ok (.float .f64 v) W) (w:World):Calls Tryz.prog 136 #[.float .f64 4611686018427387904,.int .i64 z] w fun e w'=>e = .returned (.float .f64 v)∧w=w':=by
 have hx:=fin1_tab 2 (by decide) (by decide)
 rw [show FB 2=4611686018427387904 by kernel_rfl] at hx
 have c1:=isInf_any _ hx.fin w
 have c2:=isNaN_any _ hx.fin w
 have c3:=normal_any _ hx.fin hx.nor w
 have h1:∀ W,(callFunc 132 #[.float .f64 4611686018427387904]).run Tryz.prog W = .ok (.value (.int .u64 4611686018427387904)) W:=bits_run 4611686018427387904
 have h2:=from_run v
 have h3:=hx.pos
 have h4:bits BinOp.and IntKind.i64 1024 2047=1024:=by kernel_rfl
 have h5:bits BinOp.andNot IntKind.u64 4611686018427387904 9218868437227405312=0:=by kernel_rfl
 have h6:wrap64 (1024 - 1023)=1:=by kernel_rfl
 have h7:wrap64 (z+1)=z+1:=by unfold wrap64;omega
 have t1:¬z+1 < -1075:=by omega
 have t2:¬z+1 > 1023:=by omega
 have t3:¬z+1 < -1022:=by omega
 clear hx
 go_enter Tryz.func136,Tryz.ntmps136
 go_wp2_with (first
  | (go_at_call 118;refine c1.mono ?_;clear c1;rintro e w1 ⟨rfl,hw⟩;subst hw)
  | (go_at_call 119;refine c2.mono ?_;clear c2;rintro e w1 ⟨rfl,hw⟩;subst hw)
  | (go_at_call 149;refine c3.mono ?_;clear c3;rintro e w1 ⟨rfl,hw⟩;subst hw))
 go_ret
 exact ⟨rfl,rfl⟩
theorem Ldexp_any (k:Nat) (hk:k≤4) (w:World):Calls Tryz.prog 123 #[.float .f64 4611686018427387904,.int .i64 (k:Int)] w fun e w'=>e = .returned (.float .f64 (FB (2 ^ (k+1))))∧w=w':=by
 have ht:(List.range 5).all (fun k=>bits BinOp.or IntKind.u64 0 (((k:Int)+1+1023)*4503599627370496) == (FB (2 ^ (k+1)):Int) && floatBits .mul .f64 4607182418800017408 (FB (2 ^ (k+1))) == some (FB (2 ^ (k+1))))=true:=by kernel_rfl
 have h:=List.all_eq_true.1 ht k (List.mem_range.2 (by omega))
 simp only [Bool.and_eq_true,beq_iff_eq] at h
 have c:=ldexp_at (k:Int) (by omega) (by omega) (FB (2 ^ (k+1))) h.1 (fun W=>run_float_arith W .mul _ .f64 _ _ _ h.2) w
 clear h ht
 generalize FB (2 ^ (k+1))=v at *
 go_enter Tryz.func123,Tryz.ntmps123
 go_wp2_with (go_at_call 136;refine c.mono ?_;clear c;rintro e w1 ⟨rfl,hw⟩;subst hw)
 go_ret
 exact ⟨rfl,rfl⟩
end Go.Proofs.YtbbikhlbkpjpjaaGreatDoor
namespace Go.Proofs.YtbbikhlbkpjpjaaGreatDoor
open Go.RowKit
def fltN:Value→Nat
 | .float _ b=>b
 | _=>0
theorem mod_tab (d:Nat) (hd:d<64) (h2:2≤d):(FloatKind.f64.format.order (FB d) 4611686018427387904=some .gt∨FloatKind.f64.format.order (FB d) 4611686018427387904=some .eq)∧(FloatKind.f64.format.order (frB d) 4602678819172646912 == some .lt)=false∧1≤Nat.log2 d∧Nat.log2 d≤5∧floatBits .sub .f64 (FB d) (FB (2 ^ (Nat.log2 d - 1+1)))=some (FB (d - 2 ^ Nat.log2 d))∧FB (d - 2 ^ Nat.log2 d)<FB d∧(d - 2 ^ Nat.log2 d)%2=d%2:=by
 have h:(List.range 64).all (fun d=>decide (d<2) || ((FloatKind.f64.format.order (FB d) 4611686018427387904 == some .gt || FloatKind.f64.format.order (FB d) 4611686018427387904 == some .eq) && (FloatKind.f64.format.order (frB d) 4602678819172646912 == some .lt) == false && decide (1≤Nat.log2 d) && decide (Nat.log2 d≤5) && floatBits .sub .f64 (FB d) (FB (2 ^ (Nat.log2 d - 1+1))) == some (FB (d - 2 ^ Nat.log2 d)) && decide (FB (d - 2 ^ Nat.log2 d)<FB d) && (d - 2 ^ Nat.log2 d)%2 == d%2))=true:=by kernel_rfl
 have:=List.all_eq_true.1 h d (List.mem_range.2 hd)
 simp only [Bool.and_eq_true,Bool.or_eq_true,beq_iff_eq,decide_eq_true_eq] at this
 obtain ⟨⟨⟨⟨⟨⟨a,b⟩,c⟩,d⟩,e⟩,f⟩,g⟩:=this.resolve_left (by omega)
 exact ⟨a,b,c,d,e,f,g⟩
theorem less_tab (d:Nat) (h2:d<2):FloatKind.f64.format.order (FB d) 4611686018427387904=some .lt:=by
 rcases (show d=0∨d=1 by omega) with rfl | rfl <;> kernel_rfl
theorem mod_any (c:Nat) (hc:c<64) (w:World):Calls Tryz.prog 106 #[.float .f64 (FB c),.float .f64 4611686018427387904] w fun e w'=>e = .returned (.float .f64 (FB (c%2)))∧w=w':=by
 have F2:=fin1_tab 2 (by decide) (by decide)
 rw [show FB 2=4611686018427387904 by kernel_rfl,show frB 2=4602678819172646912 by kernel_rfl,show ((Nat.log2 2+1:Nat):Int)=2 by kernel_rfl] at F2
 have F0:=fin_tab c (by omega)
 have c1:=isInf_any _ F0 w
 have c2:=isNaN_any _ F0 w
 have c3:=isNaN_any _ F2.fin w
 have c4:=abs_any _ F2.fin w
 have c5:=Frexp_any _ _ _ F2 w
 have h2:=F2.pos
 have hx:(FloatKind.f64.format.order (FB c) 0 == some .lt)=false:=by rcases F0.neg with h | h <;> rw [h] <;> rfl
 generalize hx0:FB c=x at *
 have HX0:=Hid.mk' hx0
 clear F2 F0 hx0
 go_enter Tryz.func106,Tryz.ntmps106
 go_wp2_with (first
  | (go_at_call 118;refine c1.mono ?_;clear c1;rintro e w1 ⟨rfl,hw⟩;subst hw)
  | (go_at_call 119;refine c2.mono ?_;clear c2;rintro e w1 ⟨rfl,hw⟩;subst hw)
  | (go_at_call 119;refine c3.mono ?_;clear c3;rintro e w1 ⟨rfl,hw⟩;subst hw)
  | (go_at_call 121;refine c4.mono ?_;clear c4;rintro e w1 ⟨rfl,hw⟩;subst hw)
  | (go_at_call 122;refine c5.mono ?_;clear c5;rintro e w1 ⟨rfl,hw⟩;subst hw))
 go_loopw [7] (fun r wr=>(∃ d:Nat,d<64∧r = .float .f64 (FB d)∧Hid (d%2=c%2))∧wr=w) (fun r _=>fltN r)
 case atStart=>exact ⟨⟨c,hc,by rw [HX0.out],Hid.mk' rfl⟩,rfl⟩
 case round =>
  obtain ⟨⟨d,hd,rfl,HD⟩,rfl⟩:=hrel
  by_cases h2d:d<2
  · have hl:=less_tab d h2d
    have hdd:d=c%2:=by have:=HD.out;omega
    have HP:Hid (FB d=FB (c%2)):=Hid.mk' (by rw [←hdd])
    generalize FB d=y at *
    clear hdd HD HX0
    go_wp2
    go_ret
    refine ⟨?_,rfl⟩
    rw [←HP.out]
    rfl
  · obtain ⟨g1,g2,g3,g4,g5,g6,g7⟩:=mod_tab d hd (by omega)
    have c6:=Frexp_any _ _ _ (fin1_tab d (by omega) (by omega)) wr
    have c7:=Ldexp_any (Nat.log2 d - 1) (by omega) wr
    have g8:∀ W,(binOp .sub 133 (.float .f64 (FB d)) (.float .f64 (FB (2 ^ (Nat.log2 d - 1+1))))).run Tryz.prog W = .ok (.float .f64 (FB (d - 2 ^ Nat.log2 d))) W:=fun W=>run_float_arith W .sub _ .f64 _ _ _ g5
    have u1:wrap64 (((Nat.log2 d+1:Nat):Int) - 2)=((Nat.log2 d - 1:Nat):Int):=by unfold wrap64;omega
    have HE:Hid ((d - 2 ^ Nat.log2 d)%2=c%2):=g7.trans HD.out
    have hlt:d - 2 ^ Nat.log2 d<64:=Nat.lt_of_le_of_lt (Nat.sub_le _ _) hd
    generalize FB (2 ^ (Nat.log2 d - 1+1))=q at *
    generalize d - 2 ^ Nat.log2 d=d' at *
    obtain ⟨z1,hz1⟩:∃ z:Int,z=((Nat.log2 d+1:Nat):Int):=⟨_,rfl⟩
    obtain ⟨z2,hz2⟩:∃ z:Int,z=((Nat.log2 d - 1:Nat):Int):=⟨_,rfl⟩
    rw [←hz1] at c6 u1
    rw [←hz2] at c7 u1
    have HM:Hid (FB d'<FB d):=g6
    clear hz1 hz2 g3 g4 g5 g6 g7 HX0
    generalize frB d=fr at *
    have g1':(FloatKind.f64.format.order (FB d) 4611686018427387904 == some .gt || FloatKind.f64.format.order (FB d) 4611686018427387904 == some .eq)=true:=by rcases g1 with h | h <;> rw [h] <;> rfl
    clear g1
    go_wp2_with (first
     | (go_at_call 122;refine c6.mono ?_;clear c6;rintro e w1 ⟨rfl,hw⟩;subst hw)
     | (go_at_call 123;refine c7.mono ?_;clear c7;rintro e w1 ⟨rfl,hw⟩;subst hw))
    go_roundw
    case rel=>exact ⟨⟨d',hlt,rfl,HE⟩,trivial⟩
    case measure=>exact HM.out
theorem Mod_any (c:Nat) (hc:c<64) (w:World):Calls Tryz.prog 91 #[.float .f64 (FB c),.float .f64 4611686018427387904] w fun e w'=>e = .returned (.float .f64 (FB (c%2)))∧w=w':=by
 have k:=mod_any c hc w
 generalize FB (c%2)=v at *
 generalize FB c=x at *
 go_enter Tryz.func91,Tryz.ntmps91
 go_wp2_with (go_at_call 106;refine k.mono ?_;clear k;rintro e w1 ⟨rfl,hw⟩;subst hw)
 go_ret
 exact ⟨rfl,rfl⟩
def flrB (x:Nat):Option Nat:=if (FloatKind.f64.decode x).isNaN then none else some (FloatKind.f64.encode ((FloatKind.f64.decode x).integral .down))
theorem flr_in (x r:Nat) (h:flrB x=some r):Extern.MathFloor.toIntegral "math.archFloor" .down #[.float .f64 x]=pure (.float .f64 r):=by
 unfold flrB at h
 suffices hh:∀ d,FloatKind.f64.decode x=d→d.isNaN=false→Extern.MathFloor.toIntegral "math.archFloor" .down #[.float .f64 x]=pure (.float .f64 (FloatKind.f64.encode (d.integral .down))) by
  cases hn:(FloatKind.f64.decode x).isNaN with
  | true=>rw [hn] at h;cases h
  | false=>rw [hn] at h;cases h;exact hh _ rfl hn
 intro d hd hn
 cases d with
 | nan s t=>cases hn
 | number a b c =>
  conv=>lhs;whnf
  rw [hd]
 | infinity a =>
  conv=>lhs;whnf
  rw [hd]
theorem flr_run (x r:Nat) (h:flrB x=some r) (W:World):(callFunc 111 #[.float .f64 x]).run Tryz.prog W = .ok (.value (.float .f64 r)) W:=by
 rw [run_callFunc_extern (e:=Extern.MathFloor.toIntegral "math.archFloor" .down) Tryz.func111 (by kernel_rfl) (by kernel_rfl) (by kernel_rfl) (by kernel_rfl),flr_in x r h]
 rfl
theorem Floor_any (x r:Nat) (h:flrB x=some r) (w:World):Calls Tryz.prog 95 #[.float .f64 x] w fun e w'=>e = .returned (.float .f64 r)∧w=w':=by
 have k:=flr_run x r h
 clear h
 go_enter Tryz.func95,Tryz.ntmps95
 go_wp2
 go_ret
 exact ⟨rfl,rfl⟩
def halfB (b:Nat):Nat:=((floatBits .quo .f64 (FB b) 4611686018427387904).getD 0)
theorem step_tab (b:Nat) (hb:b<64):floatBits .quo .f64 (FB b) 4611686018427387904=some (halfB b)∧flrB (halfB b)=some (FB (b / 2))∧floatBits .add .f64 (FB b) 4607182418800017408=some (FB (b+1))∧floatBits .mul .f64 4611686018427387904 (FB b)=some (FB (2*b))∧(0<b→floatBits .sub .f64 (FB b) 4607182418800017408=some (FB (b - 1)))∧floatBits .add .f64 (FB b) 0=some (FB b)∧floatBits .sub .f64 (FB b) 0=some (FB b):=by
 have h:(List.range 64).all (fun b=>floatBits .quo .f64 (FB b) 4611686018427387904 == some (halfB b) && flrB (halfB b) == some (FB (b / 2)) && floatBits .add .f64 (FB b) 4607182418800017408 == some (FB (b+1)) && floatBits .mul .f64 4611686018427387904 (FB b) == some (FB (2*b)) && (b == 0 || floatBits .sub .f64 (FB b) 4607182418800017408 == some (FB (b - 1))) && floatBits .add .f64 (FB b) 0 == some (FB b) && floatBits .sub .f64 (FB b) 0 == some (FB b))=true:=by kernel_rfl
 have:=List.all_eq_true.1 h b (List.mem_range.2 hb)
 simp only [Bool.and_eq_true,Bool.or_eq_true,beq_iff_eq] at this
 obtain ⟨⟨⟨⟨⟨⟨a1,a2⟩,a3⟩,a4⟩,a5⟩,a6⟩,a7⟩:=this
 exact ⟨a1,a2,a3,a4,fun h=>a5.resolve_left (by omega),a6,a7⟩
theorem above_any (a b:Nat) (ha:a<64) (hb:b<64) (w:World):Calls Tryz.prog 83 #[.complex .f64 (FB a) (FB b)] w fun e w'=>e = .returned (.complex .f64 (FB (a+1)) (FB (b / 2)))∧w=w':=by
 obtain ⟨-,-,s1,-⟩:=step_tab a ha
 obtain ⟨s2,s3,-⟩:=step_tab b hb
 have k:=Floor_any _ _ s3 w
 have r1:∀ W,_:=fun W=>run_float_arith (P:=Tryz.prog) W .add 133 .f64 _ _ _ s1
 have r2:∀ W,_:=fun W=>run_float_arith (P:=Tryz.prog) W .quo 133 .f64 _ _ _ s2
 clear s1 s2 s3
 generalize FB (a+1)=v1 at *
 generalize FB a=x at *
 generalize halfB b=h at *
 generalize FB (b / 2)=v2 at *
 generalize FB b=y at *
 go_enter Tryz.func83,Tryz.ntmps83
 go_wp2_with (go_at_call 95;refine k.mono ?_;clear k;rintro e w1 ⟨rfl,hw⟩;subst hw)
 go_ret
 exact ⟨rfl,rfl⟩
theorem leftOf_any (a b:Nat) (ha:a<64) (h0:0<a) (hb:b<64) (w:World):Calls Tryz.prog 76 #[.complex .f64 (FB a) (FB b)] w fun e w'=>e = .returned (.complex .f64 (FB (a - 1)) (FB (2*b)))∧w=w':=by
 obtain ⟨-,-,-,-,s1,-⟩:=step_tab a ha
 obtain ⟨-,-,-,s2,-⟩:=step_tab b hb
 have r1:∀ W,_:=fun W=>run_float_arith (P:=Tryz.prog) W .sub 133 .f64 _ _ _ (s1 h0)
 have r2:∀ W,_:=fun W=>run_float_arith (P:=Tryz.prog) W .mul 133 .f64 _ _ _ s2
 clear s1 s2
 generalize FB (a - 1)=v1 at *
 generalize FB a=x at *
 generalize FB (2*b)=v2 at *
 generalize FB b=y at *
 go_enter Tryz.func76,Tryz.ntmps76
 go_wp2
 go_ret
 exact ⟨rfl,rfl⟩
theorem cadd_run (a b c d x y:Nat) (h1:floatBits .add .f64 a c=some x) (h2:floatBits .add .f64 b d=some y) (W:World):(binOp .add 131 (.complex .f64 a b) (.complex .f64 c d)).run Tryz.prog W = .ok (.complex .f64 x y) W:=by
 replace h1:FloatKind.f64.format.add a c=some x:=h1
 replace h2:FloatKind.f64.format.add b d=some y:=h2
 simp [binOp,Op.complexOp,Op.Complex.arith,Op.floatArith,h1,h2]
theorem csub_run (a b c d x y:Nat) (h1:floatBits .sub .f64 a c=some x) (h2:floatBits .sub .f64 b d=some y) (W:World):(binOp .sub 131 (.complex .f64 a b) (.complex .f64 c d)).run Tryz.prog W = .ok (.complex .f64 x y) W:=by
 replace h1:FloatKind.f64.format.sub a c=some x:=h1
 replace h2:FloatKind.f64.format.sub b d=some y:=h2
 simp [binOp,Op.complexOp,Op.Complex.arith,Op.floatArith,h1,h2]
def othN (b:Nat):Nat:=if b%2=0 then b+1 else b - 1
theorem beside_any (a b:Nat) (ha:a<64) (hb:b<64) (w:World):Calls Tryz.prog 77 #[.complex .f64 (FB a) (FB b)] w fun e w'=>e = .returned (.complex .f64 (FB a) (FB (othN b)))∧w=w':=by
 obtain ⟨-,-,-,-,-,s1,s2⟩:=step_tab a ha
 obtain ⟨-,-,s3,-,s4,-,-⟩:=step_tab b hb
 have k:=Mod_any b hb w
 unfold othN
 by_cases h0:b%2=0
 · rw [h0,show FB 0=0 by kernel_rfl] at k
   rw [if_pos h0]
   have r:=cadd_run _ _ _ _ _ _ s1 s3
   have o:FloatKind.f64.format.order 0 0=some .eq:=by kernel_rfl
   clear s1 s2 s3 s4 h0
   generalize FB a=x at *
   generalize FB (b+1)=v at *
   generalize FB b=y at *
   go_enter Tryz.func77,Tryz.ntmps77
   go_wp2_with (go_at_call 91;refine k.mono ?_;clear k;rintro e w1 ⟨rfl,hw⟩;subst hw)
   go_ret
   exact ⟨rfl,rfl⟩
 · rw [show b%2=1 by omega,show FB 1=4607182418800017408 by kernel_rfl] at k
   rw [if_neg h0]
   have r:=csub_run _ _ _ _ _ _ s2 (s4 (by omega))
   have o:FloatKind.f64.format.order 4607182418800017408 0=some .gt:=by kernel_rfl
   clear s1 s2 s3 s4 h0
   generalize FB a=x at *
   generalize FB (b - 1)=v at *
   generalize FB b=y at *
   go_enter Tryz.func77,Tryz.ntmps77
   go_wp2_with (go_at_call 91;refine k.mono ?_;clear k;rintro e w1 ⟨rfl,hw⟩;subst hw)
   go_ret
   exact ⟨rfl,rfl⟩
end Go.Proofs.YtbbikhlbkpjpjaaGreatDoor
namespace Go.Proofs.YtbbikhlbkpjpjaaGreatDoor
open Go.RowKit
structure DbT (w:World):Prop where
 lt:1<w.heap.size
 cell:∀ j,j<64→w.cell? ⟨1,j,none⟩=some (.int .u8 ((Lib.deBruijn64tab.getD j 0:Nat):Int))
theorem DbT.keep {w w':World} (h:DbT w) (hb:Below w.heap.size w w'):DbT w' :=
 ⟨Nat.lt_of_lt_of_le h.lt hb.size,fun j hj=>(hb.cell (p:=⟨1,j,none⟩) h.lt).trans (h.cell j hj)⟩
set_option maxHeartbeats 1000000 in
theorem tz_core (x k idx:Nat) (w:World) (hx0:((x:Int) == 0)=false)
 (key:IntKind.u64.wrap (bits BinOp.and IntKind.u64 (x:Int) (IntKind.u64.wrap (-(x:Int)))*285870213051353865) / 288230376151711744=(idx:Int))
 (hi:idx<64) (hk:k<64) (hcell:w.cell? ⟨1,idx,none⟩=some (.int .u8 k)) :
 Calls Tryz.prog 102 #[.int .u64 x] w fun e w'=>e = .returned (.int .i64 k)∧w=w':=by
 go_enter Tryz.func102,Tryz.ntmps102
 go_wp2_with (simp only [key])
 go_ret
 exact ⟨rfl,rfl⟩
theorem tz_key (x a:Nat) (hx:x<18446744073709551616) (hx0:x≠0) (hlow:x &&& (18446744073709551616 - x)=a) :
 IntKind.u64.wrap (bits BinOp.and IntKind.u64 (x:Int) (IntKind.u64.wrap (-(x:Int)))*285870213051353865) / 288230376151711744=((a*285870213051353865%18446744073709551616 / 288230376151711744:Nat):Int):=by
 have e1:IntKind.u64.wrap (-(x:Int))=((18446744073709551616 - x:Nat):Int):=by rw [IntKind.wrap_u64];omega
 rw [e1,bits_and_u64_nat x _ hx (by omega),hlow,IntKind.wrap_u64]
 omega
theorem tz_any (x:Nat) (hx:x<18446744073709551616) (hx0:x≠0) (w:World) (hT:DbT w) :
 Calls Tryz.prog 102 #[.int .u64 x] w fun e w'=>e = .returned (.int .i64 (Lib.ctz 64 x))∧w=w':=by
 obtain ⟨hlow,hk⟩:=Lib.lowest_bit 64 x hx0 hx
 obtain ⟨hi,htab⟩:=Lib.deBruijn64_at _ hk
 have hcell:=hT.cell _ hi
 rw [htab] at hcell
 exact tz_core x _ _ w (by simp;omega) (tz_key x _ hx hx0 hlow) hi hk hcell
theorem ctz_lev:∀ f x,x<2 ^ f→Lib.ctzFrom (f+1) (2 ^ (f+1) - 1 - x)=levF (f+1) x
 | 0,x,h=>by
  have:x=0:=by simpa using h
  subst this
  rfl
 | f+1,x,h=>by
  have e:2 ^ (f+1+1)=2*2 ^ (f+1):=by rw [Nat.pow_succ 2 (f+1),Nat.mul_comm]
  have e':2 ^ (f+1)=2*2 ^ f:=by rw [Nat.pow_succ 2 f,Nat.mul_comm]
  show (if (2 ^ (f+1+1) - 1 - x)%2=1 then 0 else 1+Lib.ctzFrom (f+1) ((2 ^ (f+1+1) - 1 - x) / 2))=(if x%2=1 then levF (f+1) (x / 2)+1 else 0)
  by_cases ho:x%2=1
  · rw [if_neg (by omega),if_pos ho,show (2 ^ (f+1+1) - 1 - x) / 2=2 ^ (f+1) - 1 - x / 2 by omega,ctz_lev f (x / 2) (by omega),Nat.add_comm]
  · rw [if_pos (by omega),if_neg ho]
theorem ctz_levN (x:Nat) (h:x<9223372036854775808):Lib.ctz 64 (18446744073709551615 - x)=levN x:=by
 unfold Lib.ctz
 rw [if_neg (by omega)]
 exact ctz_lev 63 x h
def levA (x:Int):Int:=if x<0 then -1 else (levN x.toNat:Int)
theorem not_u64 (y:Nat) (h:y<9223372036854775808):bits BinOp.xor IntKind.u64 IntKind.u64.max (y:Int)=((18446744073709551615 - y:Nat):Int):=by
 show IntKind.u64.wrap ((BitVec.ofInt 64 IntKind.u64.max ^^^ BitVec.ofInt 64 (y:Int)).toNat:Int)=_
 rw [show BitVec.ofInt 64 IntKind.u64.max=BitVec.allOnes 64 by decide,BitVec.allOnes_xor,BitVec.toNat_not,BitVec.ofInt_natCast,BitVec.toNat_ofNat,Nat.mod_eq_of_lt (by omega),IntKind.wrap_u64]
 omega
theorem iLevel_any (x:Int) (hx:x≤9223372036854775807) (w:World) (hT:DbT w):Calls Tryz.prog 88 #[.int .i64 x] w fun e w'=>e = .returned (.int .i64 (levA x))∧w=w':=by
 unfold levA
 by_cases h:x<0
 · rw [if_pos h]
   go_enter Tryz.func88,Tryz.ntmps88
   go_wp2
   go_ret
   exact ⟨rfl,rfl⟩
 · rw [if_neg h]
   obtain ⟨y,rfl⟩:∃ y:Nat,x=(y:Int):=⟨x.toNat,by omega⟩
   have hy:y<9223372036854775808:=by omega
   rw [Int.toNat_natCast]
   have c:=tz_any (18446744073709551615 - y) (by omega) (by omega) w hT
   rw [ctz_levN y hy] at c
   have hn:=not_u64 y hy
   have hs:IntKind.u64.signed=false:=rfl
   have h0:(0:Int)≤(y:Int):=by omega
   clear hT
   generalize 18446744073709551615 - y=z at *
   go_enter Tryz.func88,Tryz.ntmps88
   go_wp2_with (go_at_call 102;refine c.mono ?_;clear c;rintro e w1 ⟨rfl,hw⟩;subst hw)
   go_ret
   exact ⟨rfl,rfl⟩
end Go.Proofs.YtbbikhlbkpjpjaaGreatDoor
namespace Go.Proofs.YtbbikhlbkpjpjaaGreatDoor
open Go.RowKit
set_option maxRecDepth 20000 in
theorem len64_at (w:World):Calls Tryz.prog 104 #[.int .u64 64] w fun e w'=>e = .returned (.int .i64 7)∧w=w':=by
 go_enter Tryz.func104,Tryz.ntmps104
 go_wp2
 go_ret
 refine ⟨congrArg Ending.returned (congrArg (Value.int IntKind.i64) ?_),rfl⟩
 kernel_rfl
theorem len_at (w:World):Calls Tryz.prog 90 #[.int .u64 64] w fun e w'=>e = .returned (.int .i64 7)∧w=w':=by
 have c:=len64_at w
 go_enter Tryz.func90,Tryz.ntmps90
 go_wp2_with (go_at_call 104;refine c.mono ?_;clear c;rintro e w1 ⟨rfl,hw⟩;subst hw)
 go_ret
 exact ⟨rfl,rfl⟩
def wbB (x r:Nat) (e:Int):Bool:=((FloatKind.f64.format.order x 0 == some .gt || FloatKind.f64.format.order x 0 == some .eq) && FloatKind.f64.format.order x (floatOfInt .f64 e) == some .lt) && FloatKind.f64.format.order x r == some .eq
theorem whole_any (x:Nat) (e:Int) (r:Nat) (h:flrB x=some r) (w:World):Calls Tryz.prog 89 #[.float .f64 x,.int .i64 e] w fun o w'=>o = .returned (.bool (wbB x r e))∧w=w':=by
 have c:=Floor_any x r h w
 clear h
 unfold wbB
 generalize hA:(FloatKind.f64.format.order x 0 == some .gt || FloatKind.f64.format.order x 0 == some .eq)=A at *
 generalize hB:(FloatKind.f64.format.order x (floatOfInt .f64 e) == some .lt)=B at *
 generalize hC:(FloatKind.f64.format.order x r == some .eq)=C at *
 cases A <;> cases B <;> cases C <;>
 · go_enter Tryz.func89,Tryz.ntmps89
   go_wp2_with (go_at_call 95;refine c.mono ?_;clear c;rintro e w1 ⟨rfl,hw⟩;subst hw)
   go_ret
   exact ⟨rfl,rfl⟩
theorem und_float:(Tryz.prog.underlying 133).isSome=true:=by kernel_rfl
def LevE (z e:Int):Prop:=(z=0∧e=64)∨(z=1∧e=32)∨(z=2∧e=16)∨(z=3∧e=8)∨(z=4∧e=4)∨(z=5∧e=2)∨(z=6∧e=1)
theorem at_yes (x:Nat) (z e:Int) (hz:LevE z e) (l1:flrB x=some x) (l2:wbB x x 7=true) (l3:floatToIntVal .f64 x .i64=some z) (y:Nat) (c:Int) (c0:0≤c) (cE:c<e) (h:flrB y=some y) (hw:wbB y y e=true) (h3:floatToIntVal .f64 y .i64=some c) (v:Int) (hv:v=c*2 ^ (z.toNat+1)+2 ^ z.toNat - 1) (w:World):Calls Tryz.prog 75 #[.complex .f64 x y] w fun o w'=>o = .returned (.int .i64 v)∧Below w.heap.size w w':=by
 have c1:=whole_any x 7 _ l1 w
 rw [l2] at c1
 have c2:=whole_any y e y h w
 rw [hw] at c2
 have k:=len_at w
 have cv:∀ W,_:=fun W=>run_convert_float_int (P:=Tryz.prog) W 133 3 .f64 .i64 _ _ und_float Tryz.underlying3 l3
 have cw:∀ W,_:=fun W=>run_convert_float_int (P:=Tryz.prog) W 133 3 .f64 .i64 _ _ und_float Tryz.underlying3 h3
 have HV:=Hid.mk' hv
 clear h hw l1 l2 l3 h3 hv
 rcases hz with ⟨rfl,rfl⟩ | ⟨rfl,rfl⟩ | ⟨rfl,rfl⟩ | ⟨rfl,rfl⟩ | ⟨rfl,rfl⟩ | ⟨rfl,rfl⟩ | ⟨rfl,rfl⟩ <;>
 · go_enter Tryz.func75,Tryz.ntmps75
   go_wp2_with (first
    | (go_at_call 90;refine k.mono ?_;clear k;rintro e w1 ⟨rfl,hw⟩;subst hw)
    | (go_at_call 89;refine c1.mono ?_;clear c1;rintro e w1 ⟨rfl,hw⟩;subst hw)
    | (go_at_call 89;refine c2.mono ?_;clear c2;rintro e w1 ⟨rfl,hw⟩;subst hw))
   go_region
   go_wp2
   go_ret
   refine ⟨congrArg Ending.returned (congrArg (Value.int IntKind.i64) ?_),(Below.refl _ _).drew⟩
   rw [HV.out]
   simp
theorem lev_tab (l:Nat) (hl:l<7):flrB (FB l)=some (FB l)∧wbB (FB l) (FB l) 7=true∧floatToIntVal .f64 (FB l) .i64=some (l:Int)∧LevE (l:Int) ((64 / 2 ^ l:Nat):Int):=by
 rcases (show l=0∨l=1∨l=2∨l=3∨l=4∨l=5∨l=6 by omega) with rfl | rfl | rfl | rfl | rfl | rfl | rfl <;> exact ⟨by kernel_rfl,by kernel_rfl,by kernel_rfl,by unfold LevE;simp⟩
theorem col_tab (l c:Nat) (hl:l<7) (hc:c<79):flrB (FB c)=some (FB c)∧floatToIntVal .f64 (FB c) .i64=some (c:Int)∧wbB (FB c) (FB c) ((64 / 2 ^ l:Nat):Int)=decide (c<64 / 2 ^ l):=by
 have h:(List.range 79).all (fun c=>flrB (FB c) == some (FB c) && floatToIntVal .f64 (FB c) .i64 == some (c:Int) && (List.range 7).all fun l=>wbB (FB c) (FB c) ((64 / 2 ^ l:Nat):Int) == decide (c<64 / 2 ^ l))=true:=by kernel_rfl
 have:=List.all_eq_true.1 h c (List.mem_range.2 hc)
 simp only [Bool.and_eq_true,beq_iff_eq] at this
 refine ⟨this.1.1,this.1.2,?_⟩
 have:=List.all_eq_true.1 this.2 l (List.mem_range.2 hl)
 exact beq_iff_eq.1 this
def plcN (l c:Nat):Nat:=c*2 ^ (l+1)+2 ^ l - 1
theorem at_in (l c:Nat) (hl:l<7) (hc:c<64 / 2 ^ l) (w:World):Calls Tryz.prog 75 #[.complex .f64 (FB l) (FB c)] w fun o w'=>o = .returned (.int .i64 (plcN l c:Int))∧Below w.heap.size w w':=by
 have h64:64 / 2 ^ l≤64:=Nat.div_le_self _ _
 obtain ⟨l1,l2,l3,l4⟩:=lev_tab l hl
 obtain ⟨c1,c2,c3⟩:=col_tab l c hl (by omega)
 refine at_yes (FB l) (l:Int) ((64 / 2 ^ l:Nat):Int) l4 l1 l2 l3 (FB c) (c:Int) (by omega) (by omega) c1 (by rw [c3];simpa using hc) c2 _ ?_ w
 unfold plcN
 have:1≤2 ^ l:=Nat.one_le_two_pow
 rw [Int.toNat_natCast,Int.natCast_sub (by omega)]
 simp
theorem lc_tab:∀ y,y<127→levN y<7∧colN y<64 / 2 ^ levN y∧plcN (levN y) (colN y)=y:=by
 have h:(List.range 127).all (fun y=>decide (levN y<7) && decide (colN y<64 / 2 ^ levN y) && plcN (levN y) (colN y) == y)=true:=by kernel_rfl
 intro y hy
 have:=List.all_eq_true.1 h y (List.mem_range.2 hy)
 simp only [Bool.and_eq_true,beq_iff_eq,decide_eq_true_eq] at this
 exact ⟨this.1.1,this.1.2,this.2⟩
theorem cl_tab:∀ l c,l<7→c<64 / 2 ^ l→plcN l c<127∧levN (plcN l c)=l∧colN (plcN l c)=c:=by
 have h:(List.range 7).all (fun l=>(List.range (64 / 2 ^ l)).all fun c=>decide (plcN l c<127) && levN (plcN l c) == l && colN (plcN l c) == c)=true:=by kernel_rfl
 intro l c hl hc
 have:=List.all_eq_true.1 (List.all_eq_true.1 h l (List.mem_range.2 hl)) c (List.mem_range.2 hc)
 simp only [Bool.and_eq_true,beq_iff_eq,decide_eq_true_eq] at this
 exact ⟨this.1.1,this.1.2,this.2⟩
end Go.Proofs.YtbbikhlbkpjpjaaGreatDoor
