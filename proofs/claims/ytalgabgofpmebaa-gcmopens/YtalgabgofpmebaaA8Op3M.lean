/- What the proof stands on: A8Op3, A8Nxt, A8Rks, A8Kys, A8Bad, A8RT, A8Thr, A8Stp, A8Blc, A8RI, A8RB, A8RS. -/
import Derived.Test.YtalgabgofpmebaaA8OpsM
namespace Go.Proofs.Ytalgabgofpmebaa
open Go.RowKit
theorem mx_idx (k:Nat) (hk:k<16):∃ s:Nat,s=k - k%4∧s+3<16∧(k:Int) - (k:Int)%4=(s:Int)∧∃ n:Nat,n<16∧n=s+(k+1)%4∧(s:Int)+((k:Int)+1)%4=(n:Int) :=
 ⟨k - k%4,rfl,by omega,by omega,k - k%4+(k+1)%4,by omega,rfl,by omega⟩
set_option maxRecDepth 20000 in
set_option maxHeartbeats 4000000 in
theorem mixed_any (X:Nat→Nat) (hX:B16 X) (w:World) :
 Calls Try.prog 59 #[sqV X] w fun e w'=>e = .returned (sqV (mxN X))∧Below w.heap.size w w':=by
 have hz:=zeroS
 have hi3:=infoS X
 have hix:=fun k hk=>index_u8 Try.underlying71 X k hk .i64
 obtain ⟨V,hV,hVs,hbV,hA0,hB0⟩:=two_new X (fun _=>0) w (zb 16) zb16 71 71
 obtain ⟨W,hW⟩:∃ W,W=V.alloc (.cells (zb 16) 71):=⟨_,rfl⟩
 have hbW:Below w.heap.size w W:=by rw [hW];exact hbV.alloc (by omega) _
 have hA:RowAt .u8 W w.heap.size 0 16 X:=by rw [hW];exact hA0.alloc (by omega) _
 have hB:RowAt .u8 W (w.heap.size+1) 0 16 (fun _=>0):=by rw [hW];exact hB0.alloc (by omega) _
 have hC:RowAt .u8 W (w.heap.size+1+1) 0 16 (fun _=>0):=by rw [hW,←hVs];exact RowAt.zero V 16 _
 rw [←hV] at hW
 have HW:=Hid.mk' hW
 have hAr:=hA.range
 unfold sqV
 obtain ⟨Z,hZ⟩:∃ Z:Nat→Nat,Z=mxN X:=⟨_,rfl⟩
 rw [←hZ]
 have HZ:=Hid.mk' hZ
 clear hW hV hZ hA0 hB0 hbV hVs
 go_enter Try.func59,Try.ntmps59
 go_wp2_with (first
  | (rw [←HW.out];refine wpList_load_mid rfl 71 _ rfl w.heap.size 0 rfl (ints .u8 16 X) _ hAr Try.underlying71 rfl hi3 ?_))
 go_loopw [9] (fun i wr=>∃ k:Nat,k≤16∧i = .int .i64 k∧RowAt .u8 wr w.heap.size 0 16 X∧RowAt .u8 wr (w.heap.size+1) 0 16 (fun _=>0)∧RowAt .u8 wr (w.heap.size+1+1) 0 16 (pr Z (fun _=>0) k)∧Below w.heap.size w wr) (fun i _=>16 - (intOf i).toNat)
 case atStart=>exact ⟨0,Nat.zero_le _,rfl,hA,hB,hC,hbW⟩
 case round =>
  clear hA hB hC hbW hz hAr
  obtain ⟨k,hk,rfl,hA,hB,hC,hb⟩:=hrel
  by_cases hlt:k<16
  · have ek:Z k=mx1 (X (k - k%4)) (X (k - k%4+1)) (X (k - k%4+2)) (X (k - k%4+3)) (X k) (X (k - k%4+(k+1)%4)):=by rw [HZ.out];rfl
    obtain ⟨s,hs,hs3,es,n,hn,hn',en⟩:=mx_idx k hlt
    rw [←hs,←hn'] at ek
    have hi:=hix k hlt
    obtain ⟨rk,fk⟩:=hC k hlt
    obtain ⟨r0,-⟩:=hA s (by omega)
    obtain ⟨r1,-⟩:=hA (s+1) (by omega)
    obtain ⟨r2,-⟩:=hA (s+2) (by omega)
    obtain ⟨r3,-⟩:=hA (s+3) (by omega)
    obtain ⟨r4,-⟩:=hA n hn
    rw [Nat.zero_add] at rk fk r0 r1 r2 r3 r4
    have b0:=hX s (by omega)
    have b1:=hX (s+1) (by omega)
    have b2:=hX (s+2) (by omega)
    have b3:=hX (s+3) (by omega)
    have b4:=hX n hn
    have bk:=hX k hlt
    have hst:=hC.drew.next hlt (v:=(Z k:Int)) rfl
    generalize X s=x0 at *
    generalize X (s+1)=x1 at *
    generalize X (s+2)=x2 at *
    generalize X (s+3)=x3 at *
    generalize X n=x4 at *
    generalize X k=x at *
    have q1:=u8_xor_nat x0 x1 b0 b1
    have q2:=u8_xor_nat (x0 ^^^ x1) x2 (xor_byte b0 b1) b2
    have q3:=u8_xor_nat (x0 ^^^ x1 ^^^ x2) x3 (xor_byte (xor_byte b0 b1) b2) b3
    have hsum:=xor_byte (xor_byte (xor_byte b0 b1) b2) b3
    have q4:=u8_xor_nat x (x0 ^^^ x1 ^^^ x2 ^^^ x3) bk hsum
    have q5:=u8_xor_nat x x4 bk b4
    have hxy:=xor_byte bk b4
    have cd:=double_any (x ^^^ x4) hxy
    have q6:=u8_xor_nat (x ^^^ (x0 ^^^ x1 ^^^ x2 ^^^ x3)) (dbN (x ^^^ x4)) (xor_byte bk hsum) (db_all _ hxy).2.2.2.2.1
    rw [show x ^^^ (x0 ^^^ x1 ^^^ x2 ^^^ x3) ^^^ dbN (x ^^^ x4)=Z k from ek.symm] at q6
    generalize dbN (x ^^^ x4)=d at *
    generalize x ^^^ (x0 ^^^ x1 ^^^ x2 ^^^ x3)=y at *
    generalize x0 ^^^ x1 ^^^ x2 ^^^ x3=s3 at *
    generalize x0 ^^^ x1 ^^^ x2=s2 at *
    generalize x0 ^^^ x1=s1 at *
    generalize x ^^^ x4=z at *
    have p1:(((s:Int)+1)).toNat=s+1:=by omega
    have p2:(((s:Int)+2)).toNat=s+2:=by omega
    have p3:(((s:Int)+3)).toNat=s+3:=by omega
    have i1:(0:Int)≤(s:Int)+1∧(s:Int)+1<16:=by omega
    have i2:(0:Int)≤(s:Int)+2∧(s:Int)+2<16:=by omega
    have i3:(0:Int)≤(s:Int)+3∧(s:Int)+3<16:=by omega
    clear hix ek hsum hxy b0 b1 b2 b3 b4 bk hs hn'
    go_wp2_with (rw [hi])
    go_region
    go_wp2_with (go_at_call 63;refine (cd _).mono ?_;clear cd;rintro e w1 ⟨rfl,hw1⟩;subst hw1)
    go_roundw
    case rel=>exact ⟨k+1,by omega,by go_num,hA.drew.far (by show w.heap.size+1+1≠w.heap.size;omega) _,hB.drew.far (by show w.heap.size+1+1≠w.heap.size+1;omega) _,hst,hb.drew.setCell (by show w.heap.size≤w.heap.size+1+1;omega) _⟩
    case measure=>simp [intOf];omega
  · obtain rfl:k=16:=by omega
    have hA':RowAt .u8 wr (w.heap.size+1+1) 0 16 Z:=hC.congr (fun j hj=>pr_full Z _ hj)
    have hi1:=infoS Z
    have hi2:=infoSA Z
    have ho:=oneU 16 Z
    have hth:wr.there (w.heap.size+1) 0 (ints .u8 16 Z).toArray.size:=by rw [ints_size];exact hB.there
    go_wp2_with (first
     | (refine wpList_load_mid rfl 71 _ rfl (w.heap.size+1+1) 0 rfl (ints .u8 16 Z) _ hA'.range Try.underlying71 rfl hi1 ?_)
     | (refine wpList_store_mid rfl 71 _ _ rfl (w.heap.size+1) 0 (ints .u8 16 Z).toArray rfl rfl hth hi2 ho ?_))
    (try simp only [Exit.inBlock,Exit.then])
    refine bodyPost_ret (results_cell_mid Try.results59 _ _ (w.heap.size+1) 0 (ints .u8 16 Z) _ rfl (World.rangeAt_setCells_same _ _ _ _ (by rw [ints_len];exact hB.there)) Try.underlying71 rfl hi1) rfl ⟨rfl,?_⟩
    exact below_setCells (by omega) _ _ _ hb
theorem ints_S {X Y:Nat→Nat} (h:S16 X Y):ints .u8 16 X=ints .u8 16 Y:=ints_congr _ _ _ _ h
theorem sqV_S {X Y:Nat→Nat} (h:S16 X Y):sqV X=sqV Y:=by unfold sqV;rw [ints_S h]
end Go.Proofs.Ytalgabgofpmebaa
namespace Go.Proofs.Ytalgabgofpmebaa
open Go.RowKit
def wdK (X:Nat→Nat) (p k r:Nat):Nat:=if k≤r then wd0 X p r else nxN X p (r+4*((k - 1 - r) / 4))
theorem wdK_at (X:Nat→Nat) (p k:Nat):wdK X p k (k%4) ^^^ X k=nxN X p k:=by
 unfold wdK
 by_cases h:k<4
 · rw [if_pos (by omega),nxN_lo X p k h,show k%4=k by omega]
 · rw [if_neg (by omega),nxN_hi X p k (by omega),show k%4+4*((k - 1 - k%4) / 4)=k - 4 by omega]
theorem wdK_step (X:Nat→Nat) (p k r:Nat) (hr:r<4):upd (wdK X p k) (k%4) (nxN X p k) r=wdK X p (k+1) r:=by
 unfold upd wdK
 by_cases e:r=k%4
 · rw [if_pos e,if_neg (by omega),show r+4*((k+1 - 1 - r) / 4)=k by omega]
 · rw [if_neg e]
   by_cases h:k≤r
   · rw [if_pos h,if_pos (by omega)]
   · rw [if_neg h,if_neg (by omega),show (k+1 - 1 - r) / 4=(k - 1 - r) / 4 by omega]
theorem wd0_lt {X:Nat→Nat} {p:Nat} (hX:B16 X) (hp:p<256) (k:Nat) (hk:k<4):wd0 X p k<256:=by
 unfold wd0
 split
 · exact xor_byte (box_all _ (hX 13 (by decide))).2.2.1 hp
 · split
   · exact (box_all _ (hX 12 (by decide))).2.2.1
   · exact (box_all _ (hX (13+k) (by omega))).2.2.1
theorem nxN_B {X:Nat→Nat} {p:Nat} (hX:B16 X) (hp:p<256):B16 (nxN X p):=by
 intro j
 induction j using Nat.strongRecOn with
 | ind j ih =>
  intro hj
  by_cases h:j<4
  · rw [nxN_lo _ _ _ h];exact xor_byte (wd0_lt hX hp j h) (hX j hj)
  · rw [nxN_hi _ _ _ (by omega)];exact xor_byte (ih (j - 4) (by omega) (by omega)) (hX j hj)
theorem wdK_lt {X:Nat→Nat} {p:Nat} (hX:B16 X) (hp:p<256) (k r:Nat) (hk:k≤16) (hr:r<4):wdK X p k r<256:=by
 unfold wdK
 split
 · exact wd0_lt hX hp r hr
 · exact nxN_B hX hp _ (by omega)
theorem zero4 (w:World):Sem.run Try.prog (zeroValue 85) w = .ok (.agg (zb 4)) w:=by kernel_rfl
theorem four_row {w:World} {g:Nat} {Y:Nat→Nat} (h:RowAt .u8 w g 0 4 Y) (a b c d:Nat):RowAt .u8 (w.setCells g 0 [.int .u8 a,.int .u8 b,.int .u8 c,.int .u8 d]) g 0 4 (fun r=>[a,b,c,d].getD r 0) :=
 h.stored (L:=fun r=>[a,b,c,d].getD r 0)
set_option maxRecDepth 20000 in
set_option maxHeartbeats 4000000 in
theorem next_any (X:Nat→Nat) (p:Nat) (hX:B16 X) (hp:p<256) (w:World) :
 Calls Try.prog 62 #[sqV X,.int .u8 p] w fun e w'=>e = .returned (sqV (nxN X p))∧Below w.heap.size w w':=by
 have hz:=zeroS
 have hz4:=zero4
 have hi3:=infoS X
 obtain ⟨W,hW,hWs,hbW,hA,hC⟩:=two_new X (fun _=>0) w (zb 16) zb16 71 71
 have HW:=Hid.mk' hW.symm
 have hAr:=hA.range
 have cb:=boxed_any X hX W
 obtain ⟨F,hF⟩:∃ F,F=thrN boxN X:=⟨_,rfl⟩
 rw [←hF] at cb
 have HF:∀ j,boxN (X j)=F j:=fun j=>by rw [hF];rfl
 have hFB:B16 F:=by rw [hF];exact box_B hX
 obtain ⟨Z,hZ⟩:∃ Z:Nat→Nat,Z=nxN X p:=⟨_,rfl⟩
 obtain ⟨D,hD⟩:∃ D:Nat→Nat→Nat,D=wdK X p:=⟨_,rfl⟩
 have hDa:∀ k,D k (k%4) ^^^ X k=Z k:=fun k=>by rw [hD,hZ];exact wdK_at X p k
 have hDs:∀ k r,r<4→upd (D k) (k%4) (Z k) r=D (k+1) r:=fun k r hr=>by rw [hD,hZ];exact wdK_step X p k r hr
 have hDl:∀ k r,k≤16→r<4→D k r<256:=fun k r hk hr=>by rw [hD];exact wdK_lt hX hp k r hk hr
 have hD0:∀ r,r<4→[F 13 ^^^ p,F 14,F 15,F 12].getD r 0=D 0 r:=fun r hr=>by
  rw [hD,←HF,←HF,←HF,←HF]
  rcases (show r=0∨r=1∨r=2∨r=3 by omega) with rfl | rfl | rfl | rfl <;> rfl
 rw [←hZ]
 have hq:=u8_xor_nat (F 13) p (hFB 13 (by decide)) hp
 have hj2:=infoSA F
 have hjo:=oneU 16 F
 have HD0:=Hid.mk' hD0
 have HDs:=Hid.mk' hDs
 unfold sqV at *
 clear hW hF hZ hD HF hD0 hDs
 generalize F 13 ^^^ p=f0 at *
 go_enter Try.func62,Try.ntmps62
 go_upto_region 2 with (first
  | (rw [←HW.out];refine wpList_load_mid rfl 71 _ rfl w.heap.size 0 rfl (ints .u8 16 X) _ hAr Try.underlying71 rfl hi3 ?_)
  | (go_at_call 57;refine cb.mono ?_;clear cb;rintro e w1 ⟨rfl,hb1⟩;(have hT1:=RowAt.zero w1 16 71);(have hth:(w1.alloc (.cells (zb 16) 71)).there w1.heap.size 0 (ints .u8 16 F).toArray.size:=by rw [ints_size];exact hT1.there))
  | (refine wpList_store_mid rfl 71 _ _ rfl w1.heap.size 0 (ints .u8 16 F).toArray rfl rfl hth hj2 hjo ?_))
 dsimp only [Act.put]
 have hs1:=hb1.size
 have ba:Below w1.heap.size w1 (w1.alloc (.cells (zb 16) 71)):=(Below.refl _ _).alloc (Nat.le_refl _) _
 have hT2:=hT1.stored (L:=F)
 have hA2:=((hA.below hb1 (by omega)).below ba (by omega)).farCells (show w.heap.size≠w1.heap.size by omega) 0 (ints .u8 16 F)
 have hC2:=((hC.below hb1 (by omega)).below ba (by omega)).farCells (show w.heap.size+1≠w1.heap.size by omega) 0 (ints .u8 16 F)
 have b2:=below_setCells (show w.heap.size≤w1.heap.size by omega) (ints .u8 16 F) 0 _ ((hbW.trans (hb1.mono hbW.size)).trans (ba.mono (by omega)))
 have hV1:((w1.alloc (.cells (zb 16) 71)).setCells w1.heap.size 0 (ints .u8 16 F)).heap.size=w1.heap.size+1:=by rw [(setCells_same _ _ _ _).2.2.2];simp
 have hg:w.heap.size+1<w1.heap.size:=by omega
 generalize (w1.alloc (.cells (zb 16) 71)).setCells w1.heap.size 0 (ints .u8 16 F)=V at *
 generalize w1.heap.size=g at *
 obtain ⟨r13,-⟩:=hT2 13 (by decide)
 obtain ⟨r14,-⟩:=hT2 14 (by decide)
 obtain ⟨r15,-⟩:=hT2 15 (by decide)
 obtain ⟨r12,-⟩:=hT2 12 (by decide)
 rw [Nat.zero_add] at r13 r14 r15 r12
 have hU:=RowAt.zero V 4 85
 have bv:Below V.heap.size V (V.alloc (.cells (zb 4) 85)):=(Below.refl _ _).alloc (Nat.le_refl _) _
 have hA3:=hA2.below bv (by omega)
 have hC3:=hC2.below bv (by omega)
 have b3:=b2.trans (bv.mono b2.size)
 rw [hV1] at hU
 have hth4:(V.alloc (.cells (zb 4) 85)).there (g+1) 0 (#[.int .u8 f0,.int .u8 (F 14),.int .u8 (F 15),.int .u8 (F 12)]:Array Value).size:=hU.there
 have hi4:(Try.prog.info? 85).map (·.size)=some (#[.int .u8 f0,.int .u8 (F 14),.int .u8 (F 15),.int .u8 (F 12)]:Array Value).size:=by kernel_rfl
 have ho4:(#[.int .u8 f0,.int .u8 (F 14),.int .u8 (F 15),.int .u8 (F 12)]:Array Value).all (·.oneCell')=true:=by simp [Value.oneCell']
 clear hT1 hth hA hC hbW hb1 hs1 ba hT2 hA2 hC2 b2 bv hWs hAr hj2 hjo hz
 go_upto_region 3 with (refine wpList_store_mid rfl 85 _ _ rfl (g+1) 0 #[.int .u8 f0,.int .u8 (F 14),.int .u8 (F 15),.int .u8 (F 12)] rfl rfl hth4 hi4 ho4 ?_)
 dsimp only [Act.put]
 have hU4:=(four_row hU f0 (F 14) (F 15) (F 12)).congr HD0.out
 have hA4:=hA3.farCells (show w.heap.size≠g+1 by omega) 0 [.int .u8 f0,.int .u8 (F 14),.int .u8 (F 15),.int .u8 (F 12)]
 have hC4:=hC3.farCells (show w.heap.size+1≠g+1 by omega) 0 [.int .u8 f0,.int .u8 (F 14),.int .u8 (F 15),.int .u8 (F 12)]
 have b4:=below_setCells (show w.heap.size≤g+1 by omega) [.int .u8 f0,.int .u8 (F 14),.int .u8 (F 15),.int .u8 (F 12)] 0 _ b3
 generalize (V.alloc (.cells (zb 4) 85)).setCells (g+1) 0 [.int .u8 f0,.int .u8 (F 14),.int .u8 (F 15),.int .u8 (F 12)]=U at *
 clear hth4 hi4 ho4 hU hA3 hC3 b3 r12 r13 r14 r15 hz4 HD0
 go_wp2
 go_loopw [21] (fun i wr=>∃ k:Nat,k≤16∧i = .int .i64 k∧RowAt .u8 wr w.heap.size 0 16 (pr Z X k)∧RowAt .u8 wr (g+1) 0 4 (D k)∧RowAt .u8 wr (w.heap.size+1) 0 16 (fun _=>0)∧Below w.heap.size w wr) (fun i _=>16 - (intOf i).toNat)
 case atStart=>exact ⟨0,Nat.zero_le _,rfl,hA4,hU4,hC4,b4⟩
 case round =>
  clear hA4 hU4 hC4 b4
  obtain ⟨k,hk,rfl,hA,hU,hC,hb⟩:=hrel
  by_cases hlt:k<16
  · obtain ⟨rk,fk⟩:=hA k hlt
    rw [Nat.zero_add] at rk fk
    rw [pr_at] at rk
    obtain ⟨rd,fd⟩:=hU (k%4) (by omega)
    rw [Nat.zero_add] at rd fd
    have q:=u8_xor_nat (D k (k%4)) (X k) (hDl k _ hk (by omega)) (hX k hlt)
    rw [hDa k] at q
    have q1:((k:Int)%4).toNat=k%4:=by omega
    have q2:(0:Int)≤(k:Int)%4∧(k:Int)%4<4:=by omega
    have hU5:=hU.set (i:=k%4) (by omega) (v:=(Z k:Int)) (u:=Z k) rfl
    rw [Nat.zero_add] at hU5
    replace hU5:=(hU5.congr (HDs.out k)).drew
    have hA5:=(hA.far (a:=⟨g+1,k%4,none⟩) (by show g+1≠w.heap.size;omega) (.int .u8 (Z k:Int))).drew.next hlt (v:=(Z k:Int)) rfl
    have hC5:=(hC.far (a:=⟨g+1,k%4,none⟩) (by show g+1≠w.heap.size+1;omega) (.int .u8 (Z k:Int))).drew
    have b5:=(hb.setCell (p:=⟨g+1,k%4,none⟩) (by show w.heap.size≤g+1;omega) (.int .u8 (Z k:Int))).drew
    have n1:¬w.heap.size=g+1:=by omega
    have n2:¬g+1=w.heap.size:=by omega
    clear hDa HDs hDl hX hFB hU hA hC hb hq
    go_wp2
    go_region
    go_wp2
    go_roundw
    case rel=>exact ⟨k+1,by omega,by go_num,hA5,hU5.far (by show w.heap.size≠g+1;omega) _,hC5.far (by show w.heap.size≠w.heap.size+1;omega) _,b5.setCell (Nat.le_refl _) _⟩
    case measure=>simp [intOf];omega
  · obtain rfl:k=16:=by omega
    have hA':RowAt .u8 wr w.heap.size 0 16 Z:=hA.congr (fun j hj=>pr_full Z X hj)
    have hi1:=infoS Z
    have hi2:=infoSA Z
    have ho:=oneU 16 Z
    have hth:wr.there (w.heap.size+1) 0 (ints .u8 16 Z).toArray.size:=by rw [ints_size];exact hC.there
    clear hDa HDs hDl hX hFB hq
    go_wp2_with (first
     | (refine wpList_load_mid rfl 71 _ rfl w.heap.size 0 rfl (ints .u8 16 Z) _ hA'.range Try.underlying71 rfl hi1 ?_)
     | (refine wpList_store_mid rfl 71 _ _ rfl (w.heap.size+1) 0 (ints .u8 16 Z).toArray rfl rfl hth hi2 ho ?_))
    (try simp only [Exit.inBlock,Exit.then])
    refine bodyPost_ret (results_cell_mid Try.results62 _ _ (w.heap.size+1) 0 (ints .u8 16 Z) _ rfl (World.rangeAt_setCells_same _ _ _ _ (by rw [ints_len];exact hC.there)) Try.underlying71 rfl hi1) rfl ⟨rfl,?_⟩
    exact below_setCells (by omega) _ _ _ hb
end Go.Proofs.Ytalgabgofpmebaa
namespace Go.Proofs.Ytalgabgofpmebaa
open Go.RowKit
theorem zeroK (w:World):Sem.run Try.prog (zeroValue 72) w = .ok (.agg (zb 176)) w:=by kernel_rfl
theorem infoK (X:Nat→Nat):(Try.prog.info? 72).map (·.size)=some (ints .u8 176 X).length:=by rw [ints_len];kernel_rfl
theorem infoKA (X:Nat→Nat):(Try.prog.info? 72).map (·.size)=some (ints .u8 176 X).toArray.size:=by rw [ints_size];kernel_rfl
theorem RowAt.part {K:IntKind} {w:World} {g n:Nat} {X:Nat→Nat} (h:RowAt K w g 0 n X) (a m:Nat) (hm:a+m≤n):RowAt K w g a m (fun j=>X (a+j)):=fun j hj=>by
 have:=h (a+j) (by omega)
 rwa [Nat.zero_add] at this
def kyV (key:Nat→Nat):Value := .agg (ints .u8 176 (kyN key)).toArray
theorem rc_db (n:Nat) (hn:n<10):dbN (rcN n)=rcN (n+1):=(db_all _ (rc_lt n hn)).2.1
set_option maxRecDepth 20000 in
set_option maxHeartbeats 4000000 in
theorem roundKeys_any (X:Nat→Nat) (hX:∀ j,X j<256) (w:World) :
 Calls Try.prog 53 #[sqV X] w fun e w'=>e = .returned (kyV X)∧Below w.heap.size w w':=by
 have hz:=zeroK
 have hi3:=infoS X
 have hKlt:=kyN_lt hX
 have hlo:=kyN_lo X
 have hnx:=ky_next X
 obtain ⟨W,hW⟩:∃ W,W=(w.alloc (.cells (ints .u8 16 X).toArray 71)).alloc (.cells (zb 176) 72):=⟨_,rfl⟩
 have hWs:W.heap.size=w.heap.size+1+1:=by rw [hW];simp
 have hbW:Below w.heap.size w W:=by rw [hW];exact ((Below.refl _ _).alloc (Nat.le_refl _) _).alloc (by simp) _
 have hA:RowAt .u8 W w.heap.size 0 16 X:=by rw [hW];exact (RowAt.box .u8 w 16 X _).alloc (by simp) _
 have hC:RowAt .u8 W (w.heap.size+1) 0 176 (fun _=>0):=by
  have:=RowAt.zero (w.alloc (.cells (ints .u8 16 X).toArray 71)) 176 72
  rw [World.size_alloc] at this
  rw [hW];exact this
 have HW:=Hid.mk' hW
 have hAr:=hA.range
 have hbuild:(ints .u8 176 (pr X (fun _=>0) 16))=(ints .u8 176 (pr (kyN X) (fun _=>0) 16)):=ints_congr _ _ _ _ (fun j _=>by
  unfold pr
  by_cases h:j<16
  · rw [if_pos h,if_pos h,hlo j h]
  · rw [if_neg h,if_neg h])
 unfold kyV sqV
 obtain ⟨Y,hY⟩:∃ Y,Y=kyN X:=⟨_,rfl⟩
 rw [←hY] at hbuild hKlt hnx ⊢
 obtain ⟨LK,hLK⟩:∃ LK,LK=ints .u8 176 Y:=⟨_,rfl⟩
 rw [←hLK]
 have HLK:=Hid.mk' hLK
 clear hLK
 obtain ⟨Z0,hZ0⟩:∃ Z0,Z0=ints .u8 176 (pr Y (fun _=>0) 16):=⟨_,rfl⟩
 have hj2:(Try.prog.info? 72).map (·.size)=some Z0.toArray.size:=by rw [hZ0];exact infoKA _
 have hjo:Z0.toArray.all (·.oneCell')=true:=by rw [hZ0];exact oneU 176 _
 have hWT:=RowAt.zero W 176 72
 have hth:(W.alloc (.cells (zb 176) 72)).there W.heap.size 0 Z0.toArray.size:=by rw [hZ0,ints_size];exact hWT.there
 have hT0:=hWT.stored (L:=pr Y (fun _=>0) 16)
 have bw:Below W.heap.size W (W.alloc (.cells (zb 176) 72)):=(Below.refl _ _).alloc (Nat.le_refl _) _
 have hC0:=(hC.below bw (by omega)).farCells (show w.heap.size+1≠W.heap.size by omega) 0 (ints .u8 176 (pr Y (fun _=>0) 16))
 have b0:=below_setCells (show w.heap.size≤W.heap.size by omega) (ints .u8 176 (pr Y (fun _=>0) 16)) 0 _ (hbW.trans (bw.mono hbW.size))
 have hs0:W.heap.size<((W.alloc (.cells (zb 176) 72)).setCells W.heap.size 0 (ints .u8 176 (pr Y (fun _=>0) 16))).heap.size:=by rw [(setCells_same _ _ _ _).2.2.2];simp
 rw [←hZ0] at hbuild hT0 hC0 b0 hs0
 have HB:=Hid.mk' hbuild
 rw [hWs] at hth hT0 hC0 b0 hs0
 have cn:=fun k (hk:k<10)=>next_any (fun j=>Y (k*16+j)) (rcN k) (fun j _=>hKlt _) (rc_lt k hk)
 have hnS:∀ k,k<10→S16 (nxN (fun j=>Y (k*16+j)) (rcN k)) (fun j=>Y ((k+1)*16+j)):=fun k hk j hj=>by
  have:=hnx k hk j hj
  rw [Nat.mul_comm 16 k,Nat.mul_comm 16 (k+1)] at this
  exact this
 have cn':∀ k,k<10→∀ W,Calls Try.prog 62 #[.agg (ints .u8 16 (fun j=>Y (k*16+j))).toArray,.int .u8 (rcN k)] W fun e w'=>e = .returned (.agg (ints .u8 16 (fun j=>Y ((k+1)*16+j))).toArray)∧Below W.heap.size W w':=fun k hk W=>by
  have h:=cn k hk W
  rw [sqV_S (hnS k hk)] at h
  exact h
 have cd:∀ k,k<10→∀ W,Calls Try.prog 63 #[.int .u8 (rcN k)] W fun e w'=>e = .returned (.int .u8 (rcN (k+1)))∧w'=W:=fun k hk W=>by
  have h:=double_any (rcN k) (rc_lt k hk) W
  rw [rc_db k hk] at h
  exact h
 have e1:rcN 0=1:=rfl
 generalize rcN=R at *
 clear hnS cn hnx hKlt hlo hX hY hZ0 hbuild hW hWT bw hA hC hbW
 go_enter Try.func53,Try.ntmps53
 go_upto_region 2 with (first
  | (rw [←HW.out];refine wpList_load_mid rfl 71 _ rfl w.heap.size 0 rfl (ints .u8 16 X) _ hAr Try.underlying71 rfl hi3 ?_)
  | (refine wpList_val (some 7) (.agg Z0.toArray) rfl rfl (by rw [←HB.out];kernel_rfl) ?_)
  | (refine wpList_store_mid rfl 72 _ _ rfl (w.heap.size+1+1) 0 Z0.toArray rfl rfl hth hj2 hjo ?_))
 dsimp only [Act.put]
 generalize (W.alloc (.cells (zb 176) 72)).setCells (w.heap.size+1+1) 0 Z0=V at *
 clear hth hj2 hjo HB HW hAr hWs hz hi3
 go_wp2
 go_loopw [4,5] (fun p i wr=>∃ k:Nat,k≤10∧p = .int .u8 (R k)∧i = .int .i64 ((k:Int)+1)∧RowAt .u8 wr (w.heap.size+1+1) 0 176 (pr Y (fun _=>0) ((k+1)*16))∧RowAt .u8 wr (w.heap.size+1) 0 176 (fun _=>0)∧Below w.heap.size w wr∧w.heap.size+1+1<wr.heap.size) (fun _ i _=>11 - (intOf i).toNat)
 case atStart=>exact ⟨0,Nat.zero_le _,by rw [e1];rfl,rfl,hT0,hC0,b0,hs0⟩
 case round =>
  clear hT0 hC0 b0 hs0 e1
  obtain ⟨k,hk,rfl,rfl,hT,hC,hb,hs⟩:=hrel
  by_cases hlt:k<10
  · have c1:=cn' k hlt wr
    have c2:=cd k hlt
    have hP:RowAt .u8 wr (w.heap.size+1+1) (k*16) 16 (fun j=>Y (k*16+j)):=(hT.part (k*16) 16 (by omega)).congr (fun j hj=>pr_full _ _ (by omega))
    have hPr:=hP.range
    have hi1:=infoS (fun j=>Y (k*16+j))
    have hi2:=infoSA (fun j=>Y ((k+1)*16+j))
    have ho:=oneU 16 (fun j=>Y ((k+1)*16+j))
    have q1:(k:Int)+1≤10:=by omega
    have q2:(k:Int)+1 - 1=k:=by omega
    have q3:(0:Int)≤(k:Int)∧(k:Int)<11:=by omega
    have q4:(0:Int)≤(k:Int)+1∧(k:Int)+1<11:=by omega
    have q5:((k:Int)+1).toNat=k+1:=by omega
    have hsp:∀ j,over (pr Y (fun _=>0) ((k+1)*16)) ((k+1)*16) 16 (fun j=>Y ((k+1)*16+j)) j=pr Y (fun _=>0) ((k+1+1)*16) j:=fun j=>by
     unfold over pr
     by_cases h1:(k+1)*16≤j∧j<(k+1)*16+16
     · rw [if_pos h1,if_pos (by omega)]
       show Y ((k+1)*16+(j - (k+1)*16))=Y j
       rw [show (k+1)*16+(j - (k+1)*16)=j by omega]
     · rw [if_neg h1]
       by_cases h2:j<(k+1)*16
       · rw [if_pos h2,if_pos (by omega)]
       · rw [if_neg h2,if_neg (by omega)]
    have hst:∀ W,RowAt .u8 W (w.heap.size+1+1) 0 176 (pr Y (fun _=>0) ((k+1)*16))→W.there (w.heap.size+1+1) ((k+1)*16) (ints .u8 16 (fun j=>Y ((k+1)*16+j))).toArray.size∧RowAt .u8 (W.setCells (w.heap.size+1+1) ((k+1)*16) (ints .u8 16 (fun j=>Y ((k+1)*16+j)))) (w.heap.size+1+1) 0 176 (pr Y (fun _=>0) ((k+1+1)*16)):=fun W h=>by
     refine ⟨by rw [ints_size];exact (h.part ((k+1)*16) 16 (by omega)).there,?_⟩
     have h1:=h.splice ((k+1)*16) 16 (fun j=>Y ((k+1)*16+j)) (by omega)
     rw [Nat.zero_add] at h1
     exact h1.congr (fun j _=>hsp j)
    have Hst:=Hid.mk' hst
    clear cn' cd hP hsp hst
    generalize ints .u8 16 (fun j=>Y (k*16+j))=LA at *
    generalize ints .u8 16 (fun j=>Y ((k+1)*16+j))=LB at *
    go_wp2_with (first
     | (refine wpList_load_mid rfl 71 _ rfl (w.heap.size+1+1) (k*16) rfl LA _ hPr Try.underlying71 rfl hi1 ?_)
     | (go_at_call 62;refine c1.mono ?_;clear c1;rintro e w1 ⟨rfl,hb1⟩;clear hPr;(have hT1:=hT.below hb1 hs);(have hC1:=hC.below hb1 (by omega));(have b1:=hb.trans (hb1.mono hb.size));(have hs1:=Nat.lt_of_lt_of_le hs hb1.size);(obtain ⟨hth,hT2⟩:=Hst.out w1 hT1);clear hT1)
     | (refine wpList_store_mid rfl 71 _ _ rfl (w.heap.size+1+1) ((k+1)*16) LB.toArray rfl rfl hth hi2 ho ?_)
     | (go_at_call 63;refine (c2 _).mono ?_;clear c2;rintro e w2 ⟨rfl,hw2⟩;subst hw2))
    go_roundw
    case rel =>
     exact ⟨k+1,by omega,rfl,by go_num,hT2,hC1.farCells (by omega) _ _,below_setCells (by omega) _ _ _ b1,by rw [(setCells_same _ _ _ _).2.2.2];exact hs1⟩
    case measure=>simp [intOf];omega
  · obtain rfl:k=10:=by omega
    have hA':RowAt .u8 wr (w.heap.size+1+1) 0 176 Y:=hT.congr (fun j hj=>pr_full _ _ hj)
    have hi1:=infoK Y
    have hi2:=infoKA Y
    have ho:=oneU 176 Y
    have hth:wr.there (w.heap.size+1) 0 (ints .u8 176 Y).toArray.size:=by rw [ints_size];exact hC.there
    have hth2:wr.there (w.heap.size+1) 0 (ints .u8 176 Y).length:=by rw [ints_len];exact hC.there
    have hAr:=hA'.range
    clear cn' cd hT hC hA'
    rw [←HLK.out] at hi1 hi2 ho hth hth2 hAr
    go_wp2_with (first
     | (refine wpList_load_mid rfl 72 _ rfl (w.heap.size+1+1) 0 rfl LK _ hAr Try.underlying72 rfl hi1 ?_)
     | (refine wpList_store_mid rfl 72 _ _ rfl (w.heap.size+1) 0 LK.toArray rfl rfl hth hi2 ho ?_))
    (try simp only [Exit.inBlock,Exit.then])
    refine bodyPost_ret (results_cell_mid Try.results53 _ _ (w.heap.size+1) 0 LK _ rfl (World.rangeAt_setCells_same _ _ _ _ hth2) Try.underlying72 rfl hi1) rfl ⟨rfl,?_⟩
    exact below_setCells (by omega) _ _ _ hb
end Go.Proofs.Ytalgabgofpmebaa
namespace Go.Proofs.Ytalgabgofpmebaa
open Go.RowKit
theorem squareOf_16 (v:Value) (bs:Nat→Nat) (w:World) (hv:BytesIn w v 16 bs):Calls Try.prog 54 #[v] w fun e w'=>e = .returned (.agg (ints .u8 16 bs).toArray)∧Below w.heap.size w w':=by
 have h:=squareOf_any v 16 bs w hv
 rw [sqV_S (fun j hj=>fit16_full bs hj)] at h
 exact h
end Go.Proofs.Ytalgabgofpmebaa
namespace Go.Proofs.Ytalgabgofpmebaa
open Go.RowKit
theorem rowB {w:World} {g n cap:Nat} {X:Nat→Nat} (h:RowAt .u8 w g 0 n X) (hn:0<n) (hc:n≤cap):BytesIn w (.slice (some ⟨g,0,none⟩) n cap) n X := .inr ⟨g,0,cap,rfl,block_lt_of_cell (h 0 hn).1,hc,fun j hj=>(h j hj).1⟩
end Go.Proofs.Ytalgabgofpmebaa
namespace Go.Proofs.Ytalgabgofpmebaa
open Go.RowKit
theorem i64_xor_nat (a b:Nat) (ha:a<2 ^ 62) (hb:b<2 ^ 62):bits .xor .i64 (a:Int) (b:Int)=((a ^^^ b:Nat):Int):=by
 have hp:2 ^ 62≤2 ^ IntKind.i64.bits:=by decide
 have ha':a%2 ^ IntKind.i64.bits=a:=Nat.mod_eq_of_lt (Nat.lt_of_lt_of_le ha hp)
 have hb':b%2 ^ IntKind.i64.bits=b:=Nat.mod_eq_of_lt (Nat.lt_of_lt_of_le hb hp)
 have hx:a ^^^ b<2 ^ 62:=Nat.xor_lt_two_pow ha hb
 simp only [bits,BitVec.ofInt_natCast,BitVec.toNat_xor,BitVec.toNat_ofNat,ha',hb']
 simp only [IntKind.wrap_i64]
 omega
theorem xt_ok:((List.range 256).all fun x=>decide (xt x<256))=true:=by kernel_rfl
theorem xt_lt (x:Nat) (hx:x<256):xt x<256:=by
 have h:=all256 xt_ok x hx
 simpa using h
theorem gmP_lt (a b:Nat) (ha:a<256):∀ k,(gmP b k a).1<256∧(gmP b k a).2<256
 | 0=>⟨(by decide:0<256),ha⟩
 | k+1=>by
  obtain ⟨h1,h2⟩:=gmP_lt a b ha k
  refine ⟨?_,xt_lt _ h2⟩
  show (if b / 2 ^ k%2=1 then (gmP b k a).1 ^^^ (gmP b k a).2 else (gmP b k a).1)<256
  split
  · exact xor_byte h1 h2
  · exact h1
theorem gm_lt (a b:Nat) (ha:a<256):gm a b<256:=(gmP_lt a b ha 8).1
set_option maxRecDepth 20000 in
set_option maxHeartbeats 4000000 in
theorem rtimes_any (a b:Nat) (ha:a<256) (hb:b<256) (w:World) :
 Calls Try.prog 61 #[.int .u8 a,.int .u8 b] w fun e w'=>e = .returned (.int .u8 (gm a b))∧w'=w:=by
 have hl:=gmP_lt a b ha
 have hg:gm a b=(gmP b 8 a).1:=rfl
 have hs:∀ k,(gmP b (k+1) a)=(if b / 2 ^ k%2=1 then (gmP b k a).1 ^^^ (gmP b k a).2 else (gmP b k a).1,xt (gmP b k a).2):=fun _=>rfl
 have h0:gmP b 0 a=(0,a):=rfl
 rw [hg]
 generalize (fun k=>gmP b k a)=Y at *
 obtain ⟨Y,hY⟩:∃ Y:Nat→Nat × Nat,Y=fun k=>gmP b k a:=⟨_,rfl⟩
 have e:∀ k,gmP b k a=Y k:=fun k=>by rw [hY]
 simp only [e] at hl hs h0 ⊢
 have HS:=Hid.mk' hs
 clear hY e hg hs
 go_enter Try.func61,Try.ntmps61
 go_wp2
 go_loopw [5,6,7] (fun p x i wr=>∃ k:Nat,k≤8∧p = .int .i64 ((Y k).1:Int)∧x = .int .i64 ((Y k).2:Int)∧i = .int .i64 k∧wr=w) (fun _ _ i _=>8 - (intOf i).toNat)
 case atStart=>exact ⟨0,Nat.zero_le _,by rw [h0];rfl,by rw [h0],rfl,rfl⟩
 case round =>
  clear h0
  obtain ⟨k,hk,rfl,rfl,rfl,hwr⟩:=hrel
  subst hwr
  by_cases hlt:k<8
  · obtain ⟨hP,hX⟩:=hl k
    have hn:=HS.out k
    generalize hYP:(Y k).1=P at *
    generalize hYX:(Y k).2=X at *
    have q1:=u8_and_nat (b / 2 ^ k) 1 (Nat.lt_of_le_of_lt (Nat.div_le_self _ _) hb) (by decide)
    rw [Nat.and_one_is_mod] at q1
    replace q1:bits .and .u8 ((b:Int) / 2 ^ k) 1=((b / 2 ^ k%2:Nat):Int):=by
     rw [←q1];simp
    have q2:=i64_xor_nat P X (by omega) (by omega)
    have q3:=i64_xor_nat (X*2) 283 (by omega) (by decide)
    replace q3:bits .xor .i64 ((X:Int)*2) 283=((X*2 ^^^ 283:Nat):Int):=q3
    have m1:k+1≤8:=by omega
    clear HS hl
    by_cases hbit:b / 2 ^ k%2=1
    · rw [hbit] at q1
      rw [if_pos hbit] at hn
      by_cases hx:255<X*2
      · have hx':(255:Int)<(X:Int)*2:=by omega
        have hxt:xt X=X*2 ^^^ 283:=if_pos hx
        rw [hxt] at hn
        generalize X*2 ^^^ 283=X2 at *
        generalize P ^^^ X=P2 at *
        clear hbit hx hxt
        go_wp2
        go_roundw
        case rel=>exact ⟨k+1,m1,by rw [hn],by rw [hn],by go_num,trivial⟩
        case measure=>simp [intOf];omega
      · have hx':¬(255:Int)<(X:Int)*2:=by omega
        have hxt:xt X=X*2:=if_neg hx
        rw [hxt] at hn
        generalize P ^^^ X=P2 at *
        clear hbit hx hxt
        go_wp2
        go_roundw
        case rel=>exact ⟨k+1,m1,by rw [hn],by rw [hn];rfl,by go_num,trivial⟩
        case measure=>simp [intOf];omega
    · have e0:b / 2 ^ k%2=0:=by omega
      rw [e0] at q1
      rw [if_neg hbit] at hn
      by_cases hx:255<X*2
      · have hx':(255:Int)<(X:Int)*2:=by omega
        have hxt:xt X=X*2 ^^^ 283:=if_pos hx
        rw [hxt] at hn
        generalize X*2 ^^^ 283=X2 at *
        clear hbit hx hxt
        go_wp2
        go_roundw
        case rel=>exact ⟨k+1,m1,by rw [hn],by rw [hn],by go_num,trivial⟩
        case measure=>simp [intOf];omega
      · have hx':¬(255:Int)<(X:Int)*2:=by omega
        have hxt:xt X=X*2:=if_neg hx
        rw [hxt] at hn
        clear hbit hx hxt
        go_wp2
        go_roundw
        case rel=>exact ⟨k+1,m1,by rw [hn],by rw [hn];rfl,by go_num,trivial⟩
        case measure=>simp [intOf];omega
  · obtain rfl:k=8:=by omega
    obtain ⟨hP,-⟩:=hl 8
    generalize hPe:(Y 8).1=P at *
    have HPe:=Hid.mk' hPe
    have hP':(P:Int)%256=P:=by omega
    clear HS hl hPe
    go_wp2
    go_ret
    exact ⟨by rw [HPe.out];rfl,rfl⟩
end Go.Proofs.Ytalgabgofpmebaa
namespace Go.Proofs.Ytalgabgofpmebaa
open Go.RowKit
theorem wpList_enter {P:Program} {w:World} {ops:Array Oper} {rest:List Oper} {o:Oper} {a:Act} {Q:Exit→Act→World→Prop} (d:Option Nat) (hgd:o.guard=none) (hd:o.dst=d) {f:FuncId} {v:Value} {R:Ending→World→Prop} (c:Calls P f #[v] w R) (hf:(callFunc f #[v]).run P w = .ok (.enter f #[v]) w)
 (x y:Operand) (ts:Array TypeId) (ho:o.op = .call { callee := .value x,args:=#[y],argTypes:=ts }) (hx:a.eval x = .func (.func f) #[] #[]) (hy:a.eval y=v)
 (h:∀ e w',R e w'→∃ r,e = .returned r∧wpList P ops Q rest (a.put d r) w'):wpList P ops Q (o :: rest) a w:=by
 subst hd
 refine wpList_plain hgd fun K hK => ?_
 have hrun:(execOp a.eval o).run P w = .ok (.enter f #[v]) w:=by
  simp [execOp,ho,resolve,Deferred.ofValue,hx,hy,invoke,hf]
 unfold Oper.wp
 rw [hrun,Oper.upon_enter]
 refine c.mono fun e w' hR => ?_
 obtain ⟨r,rfl,hk⟩:=h e w' hR
 exact hK _ _ hk
def stp (G:Nat→(Nat→Nat)→Nat→Nat) (X:Nat→Nat):Nat→Nat→Nat
 | 0=>X
 | n+1=>G n (stp G X n)
def StepsAt (w:World) (g n:Nat) (fs:Nat→FuncId):Prop:=g<w.heap.size∧∀ j,j<n→w.cell? ⟨g,j,none⟩=some (.func (.func (fs j)) #[] #[])
theorem StepsAt.below {w w':World} {g n B:Nat} {fs:Nat→FuncId} (h:StepsAt w g n fs) (hb:Below B w w') (hB:g<B):StepsAt w' g n fs:=⟨Nat.lt_of_lt_of_le h.1 hb.size,fun j hj=>(hb.cell (p:=⟨g,j,none⟩) hB).trans (h.2 j hj)⟩
set_option maxRecDepth 20000 in
set_option maxHeartbeats 4000000 in
theorem through_any (n:Nat) (hn:n<100) (fs:Nat→FuncId) (G:Nat→(Nat→Nat)→Nat→Nat) (hf:∀ j,j<n→∀ v W,(callFunc (fs j) #[v]).run Try.prog W = .ok (.enter (fs j) #[v]) W) (hc:∀ j,j<n→∀ X,B16 X→B16 (G j X)∧∀ W,Calls Try.prog (fs j) #[sqV X] W fun e w'=>e = .returned (sqV (G j X))∧Below W.heap.size W w')
 (X:Nat→Nat) (hX:B16 X) (g:Nat) (w:World) (hg:StepsAt w g n fs) :
 Calls Try.prog 56 #[sqV X,.slice (some ⟨g,0,none⟩) n n] w fun e w'=>e = .returned (sqV (stp G X n))∧Below w.heap.size w w':=by
 have hz:=zeroS
 obtain ⟨W,hW,hWs,hbW,hA,hC⟩:=two_new X (fun _=>0) w (zb 16) zb16 71 71
 have HW:=Hid.mk' hW.symm
 have hgW:=hg.below hbW hg.1
 have hgl:=hg.1
 have hB:∀ k,k≤n→B16 (stp G X k):=fun k=>by
  induction k with
  | zero=>exact fun _=>hX
  | succ k ih=>exact fun hk=>(hc k (by omega) _ (ih (by omega))).1
 have cs:∀ k,k<n→∀ W,Calls Try.prog (fs k) #[sqV (stp G X k)] W fun e w'=>e = .returned (sqV (stp G X (k+1)))∧Below W.heap.size W w':=fun k hk=>(hc k hk _ (hB k (by omega))).2
 have e0:X=stp G X 0:=rfl
 obtain ⟨Z,hZ⟩:∃ Z,Z=sqV (stp G X n):=⟨_,rfl⟩
 rw [←hZ]
 have HZ:=Hid.mk' hZ
 unfold sqV at cs ⊢
 rw [e0] at hA
 generalize stp G X=S at *
 clear hc hB hX hg hZ e0 hW
 go_enter Try.func56,Try.ntmps56
 go_wp2
 rw [←HW.out]
 go_loopw [9] (fun i wr=>∃ k:Nat,k≤n∧i = .int .i64 k∧RowAt .u8 wr w.heap.size 0 16 (S k)∧RowAt .u8 wr (w.heap.size+1) 0 16 (fun _=>0)∧StepsAt wr g n fs∧Below w.heap.size w wr∧w.heap.size+1<wr.heap.size) (fun i _=>n - (intOf i).toNat)
 case atStart=>exact ⟨0,Nat.zero_le _,rfl,hA,hC,hgW,hbW,by omega⟩
 case round =>
  clear hA hC hgW hbW hz
  obtain ⟨k,hk,rfl,hA,hC,hG,hb,hs⟩:=hrel
  by_cases hlt:k<n
  · have c1:=cs k hlt wr
    have hfk:=hf k hlt
    have rk:=hG.2 k hlt
    have hAr:=hA.range
    have hi1:=infoS (S k)
    have hi2:=infoSA (S (k+1))
    have ho:=oneU 16 (S (k+1))
    have hst:∀ W,RowAt .u8 W w.heap.size 0 16 (S k)→W.there w.heap.size 0 (ints .u8 16 (S (k+1))).toArray.size∧RowAt .u8 (W.setCells w.heap.size 0 (ints .u8 16 (S (k+1)))) w.heap.size 0 16 (S (k+1)):=fun W h=>⟨by rw [ints_size];exact h.there,h.stored⟩
    have Hst:=Hid.mk' hst
    clear cs hst hf
    generalize ints .u8 16 (S k)=LA at *
    generalize ints .u8 16 (S (k+1))=LB at *
    go_wp2_with (first
     | (refine wpList_load_mid rfl 71 _ rfl w.heap.size 0 rfl LA _ hAr Try.underlying71 rfl hi1 ?_)
     | (refine wpList_enter (some 15) rfl rfl c1 (hfk _ _) (.tmp 13) (.tmp 14) _ rfl rfl rfl ?_;clear c1;rintro e w1 ⟨rfl,hb1⟩;refine ⟨_,rfl,?_⟩;clear hAr;(have hA1:=hA.below hb1 (by omega));(have hC1:=hC.below hb1 (by omega));(have hG1:=hG.below hb1 hG.1);(have b1:=hb.trans (hb1.mono hb.size));(have hs1:=Nat.lt_of_lt_of_le hs hb1.size);(obtain ⟨hth,hA2⟩:=Hst.out w1 hA1))
     | (refine wpList_store_mid rfl 71 _ _ rfl w.heap.size 0 LB.toArray rfl rfl hth hi2 ho ?_))
    go_roundw
    case rel=>exact ⟨k+1,by omega,by go_num,hA2,hC1.farCells (by omega) _ _,hG1.below (below_setCells (Nat.le_refl w.heap.size) LB 0 w1 (Below.refl _ _)) hgl,below_setCells (Nat.le_refl _) _ _ _ b1,by rw [(setCells_same _ _ _ _).2.2.2];exact hs1⟩
    case measure=>simp [intOf];omega
  · obtain rfl:k=n:=by omega
    have hi1:=infoS (S k)
    have hi2:=infoSA (S k)
    have ho:=oneU 16 (S k)
    have hth:wr.there (w.heap.size+1) 0 (ints .u8 16 (S k)).toArray.size:=by rw [ints_size];exact hC.there
    have hth2:wr.there (w.heap.size+1) 0 (ints .u8 16 (S k)).length:=by rw [ints_len];exact hC.there
    have hAr:=hA.range
    have eZ:Z = .agg (ints .u8 16 (S k)).toArray:=HZ.out
    clear cs hf hG hA
    generalize ints .u8 16 (S k)=LA at *
    go_wp2_with (first
     | (refine wpList_load_mid rfl 71 _ rfl w.heap.size 0 rfl LA _ hAr Try.underlying71 rfl hi1 ?_)
     | (refine wpList_store_mid rfl 71 _ _ rfl (w.heap.size+1) 0 LA.toArray rfl rfl hth hi2 ho ?_))
    (try simp only [Exit.inBlock,Exit.then])
    refine bodyPost_ret (results_cell_mid Try.results56 _ _ (w.heap.size+1) 0 LA _ rfl (World.rangeAt_setCells_same _ _ _ _ hth2) Try.underlying71 rfl hi1) rfl ⟨by rw [eZ],?_⟩
    exact below_setCells (by omega) _ _ _ hb
end Go.Proofs.Ytalgabgofpmebaa
namespace Go.Proofs.Ytalgabgofpmebaa
open Go.RowKit
abbrev fnV (f:FuncId):Value := .func (.func f) #[] #[]
theorem steps_of {w:World} {g:Nat} (l:List FuncId) (h:RW w g 0 (l.map fnV)):StepsAt w g l.length (fun j=>l.getD j 0):=⟨h.lt,fun j hj=>by
 have:=h.range j (fnV (l.getD j 0)) (by simp [List.getElem?_eq_getElem hj])
 rwa [Nat.zero_add] at this⟩
theorem enter1 {f:FuncId} {v:Value} {W:World} (h:(callFunc f #[v]).run Try.prog W = .ok (.enter f #[v]) W):(callFunc f #[v]).run Try.prog W = .ok (.enter f #[v]) W:=h
theorem thr3 (X:Nat→Nat) (hX:B16 X) (g:Nat) (w:World) (h:RW w g 0 [fnV 57,fnV 58,fnV 59]) :
 Calls Try.prog 56 #[.agg (ints .u8 16 X).toArray,.slice (some ⟨g,0,none⟩) 3 3] w fun e w'=>e = .returned (.agg (ints .u8 16 (colN mT (rowN 1 (thrN boxN X)))).toArray)∧Below w.heap.size w w':=by
 have c:=through_any 3 (by decide) _ (fun j=>if j=0 then thrN boxN else if j=1 then tuN else mxN) (fun j hj v W=>by
  match j,hj with
  | 0,_=>exact enter1 (f:=57) (by kernel_rfl)
  | 1,_=>exact enter1 (f:=58) (by kernel_rfl)
  | 2,_=>exact enter1 (f:=59) (by kernel_rfl)) (fun j hj Y hY=>by
  match j,hj with
  | 0,_=>exact ⟨box_B hY,boxed_any Y hY⟩
  | 1,_=>exact ⟨tuN_B hY,turned_any Y⟩
  | 2,_=>exact ⟨mxN_B hY,mixed_any Y hY⟩) X hX g w (steps_of [57,58,59] h)
 have e:S16 (mxN (tuN (thrN boxN X))) (colN mT (rowN 1 (thrN boxN X))):=(mxN_S (tu_row _)).trans (mx_col _ (rowN_B (box_B hX) 1))
 rw [show stp (fun j=>if j=0 then thrN boxN else if j=1 then tuN else mxN) X 3=mxN (tuN (thrN boxN X)) from rfl,sqV_S e] at c
 exact c
theorem thr2 (X:Nat→Nat) (hX:B16 X) (g:Nat) (w:World) (h:RW w g 0 [fnV 57,fnV 58]) :
 Calls Try.prog 56 #[.agg (ints .u8 16 X).toArray,.slice (some ⟨g,0,none⟩) 2 2] w fun e w'=>e = .returned (.agg (ints .u8 16 (rowN 1 (thrN boxN X))).toArray)∧Below w.heap.size w w':=by
 have c:=through_any 2 (by decide) _ (fun j=>if j=0 then thrN boxN else tuN) (fun j hj v W=>by
  match j,hj with
  | 0,_=>exact enter1 (f:=57) (by kernel_rfl)
  | 1,_=>exact enter1 (f:=58) (by kernel_rfl)) (fun j hj Y hY=>by
  match j,hj with
  | 0,_=>exact ⟨box_B hY,boxed_any Y hY⟩
  | 1,_=>exact ⟨tuN_B hY,turned_any Y⟩) X hX g w (steps_of [57,58] h)
 rw [show stp (fun j=>if j=0 then thrN boxN else tuN) X 2=tuN (thrN boxN X) from rfl,sqV_S (tu_row _)] at c
 exact c
theorem plus_key (X K:Nat→Nat) (r:Nat) (hX:B16 X) (hK:∀ j,K j<256) (w:World) :
 Calls Try.prog 55 #[.agg (ints .u8 16 X).toArray,.agg (ints .u8 16 (fun j=>K (16*r+j))).toArray] w fun e w'=>e = .returned (.agg (ints .u8 16 (addN K r X)).toArray)∧Below w.heap.size w w':=plus_any X _ hX (fun _ _=>hK _) w
theorem RowAt.rw {K:IntKind} {w:World} {g o n:Nat} {X:Nat→Nat} (h:RowAt K w g o n X) (hn:0<n):RW w g o (ints K n X):=⟨h.range,by rw [ints_len];exact h.there,block_lt_of_cell (h 0 hn).1⟩
theorem rowAt_of {K:IntKind} {w:World} {g o n:Nat} {X:Nat→Nat} (h:RW w g o (ints K n X)):RowAt K w g o n X:=fun j hj=>⟨h.range j _ (ints_at K n X j hj),(h.there j (by rw [ints_len];exact hj)).2⟩
theorem key_at {w:World} {g:Nat} {K:Nat→Nat} (h:RowAt .u8 w g 0 176 K) (r:Nat) (hr:r<11):RW w g (16*r) (ints .u8 16 (fun j=>K (16*r+j))):=(h.part (16*r) 16 (by omega)).rw (by decide)
end Go.Proofs.Ytalgabgofpmebaa
namespace Go.Proofs.Ytalgabgofpmebaa
open Go.RowKit
abbrev qb46:Oper:=oS (Op.store 71 (oT 7) (oT 25)) "aes.go:27" #[jD 5,jD 4,jC 4,jP 0,jP 1,jP 2,jP 3,jP 4,jP 5]
abbrev qb45:Oper:=oN 7 (Op.alloc 71) 0 "aes.go:27" #[]
abbrev qb44:Oper:=oN 25 (cF1 55 #[oT 22,oT 24] #[71,71]) 71 "aes.go:27" #[jD 1,jD 3,jC 1]
abbrev qb41:Oper:=oN 22 (cF1 54 #[oT 21] #[22]) 71 "aes.go:27" #[jD 0]
abbrev qb85:Oper:=oS (Op.store 71 (oT 7) (oT 36)) "aes.go:29" #[jD 4,jC 4,jP 0,jP 1,jP 2,jP 3,jP 4]
abbrev qb84:Oper:=oN 36 (cF1 55 #[oT 34,oT 35] #[71,71]) 71 "aes.go:29" #[jD 2,jD 3,jC 2]
abbrev qb82:Oper:=oN 34 (cF1 56 #[oT 32,oT 33] #[71,82]) 71 "aes.go:29" #[jD 0,jD 1]
abbrev qb81:Oper:=oN 33 (Op.buildSlice 82 3 #[(0,Operand.func 57),(1,Operand.func 58),(2,Operand.func 59)]) 82 "aes.go:29" #[]
abbrev qb80:Oper:=oN 32 (Op.load 71 (oT 7)) 71 "aes.go:29" #[]
abbrev qbx6:Oper:=oS (Op.store 71 (oT 7) (oT 43)) "aes.go:31" #[jD 5,jC 5,jP 0,jP 1,jP 2,jP 3,jP 4,jP 5]
abbrev qbx5:Oper:=oN 43 (cF1 55 #[oT 40,oT 42] #[71,71]) 71 "aes.go:31" #[jD 2,jD 4,jC 2]
abbrev qbx2:Oper:=oN 40 (cF1 56 #[oT 38,oT 39] #[71,82]) 71 "aes.go:31" #[jD 0,jD 1]
abbrev qbx1:Oper:=oN 39 (Op.buildSlice 82 2 #[(0,Operand.func 57),(1,Operand.func 58)]) 82 "aes.go:31" #[]
abbrev qbx0:Oper:=oN 38 (Op.load 71 (oT 7)) 71 "aes.go:31" #[]
theorem RowAt.still {K:IntKind} {w w':World} {g o n:Nat} {X:Nat→Nat} (h:RowAt K w g o n X) (hb:Below w.heap.size w w'):RowAt K w' g o n X:=fun j hj=>⟨(hb.cell (p:=⟨g,o+j,none⟩) (block_lt_of_cell (h j hj).1)).trans (h j hj).1,(hb.frozen (p:=⟨g,o+j,none⟩) (block_lt_of_cell (h j hj).1)).trans (h j hj).2⟩
set_option maxRecDepth 20000 in
set_option maxHeartbeats 8000000 in
theorem block_good (v u:Value) (ks bs:Nat→Nat) (hks:∀ j,ks j<256) (hbB:B16 bs) (w:World) (hv:BytesIn w v 16 ks) (hu:BytesIn w u 16 bs) :
 Calls Try.prog 46 #[v,u] w fun e w'=>∃ g,e = .returned (.tuple #[.slice (some ⟨g,0,none⟩) 16 16,.int .i64 0])∧RowAt .u8 w' g 0 16 (blkN (kyN ks) bs)∧Below w.heap.size w w':=by
 have hz:=zeroK
 have cs:=squareOf_16 v ks w hv
 have cr:=roundKeys_any ks hks
 have hK:=kyN_lt hks
 obtain ⟨xk,ck,rfl,-,-,-⟩:=hv.src
 obtain ⟨xb,cb,rfl,-,-,-⟩:=hu.src
 unfold kyV sqV at cr
 obtain ⟨K,hKe⟩:∃ K,K=kyN ks:=⟨_,rfl⟩
 rw [←hKe] at cr hK ⊢
 have hj2:=infoKA K
 have hjo:=oneU 176 K
 have hst:∀ W:World,(W.alloc (.cells (zb 176) 72)).there W.heap.size 0 (ints .u8 176 K).toArray.size∧RowAt .u8 ((W.alloc (.cells (zb 176) 72)).setCells W.heap.size 0 (ints .u8 176 K)) W.heap.size 0 176 K∧Below W.heap.size W ((W.alloc (.cells (zb 176) 72)).setCells W.heap.size 0 (ints .u8 176 K)):=fun W=>by
  have h:=RowAt.zero W 176 72
  exact ⟨by rw [ints_size];exact h.there,h.stored,below_setCells (Nat.le_refl _) _ _ _ ((Below.refl _ _).alloc (Nat.le_refl _) _)⟩
 have Hst:=Hid.mk' hst
 obtain ⟨LK,hLK⟩:∃ LK,LK=ints .u8 176 K:=⟨_,rfl⟩
 rw [←hLK] at cr hj2 hjo Hst
 clear hKe hLK hst hv hks
 obtain ⟨Z,hZe⟩:∃ Z,Z=blkN K bs:=⟨_,rfl⟩
 rw [←hZe]
 have HZ:=Hid.mk' hZe
 clear hZe
 go_enter Try.func46,Try.ntmps46
 go_upto_region 4 with (first
  | (go_at_call 54;refine cs.mono ?_;clear cs;rintro e w1 ⟨rfl,hb1⟩;(have cr1:=cr w1);clear cr)
  | (go_at_call 53;refine cr1.mono ?_;clear cr1;rintro e w2 ⟨rfl,hb2⟩;(obtain ⟨hth,hKy,hb3⟩:=Hst.out w2);(have b:=below_next (below_next hb1 hb2) hb3);clear hb1 hb2)
  | (with_reducible (refine id (?_:wpList _ _ _ _ _ _));refine wpList_store_mid rfl 72 _ _ rfl w2.heap.size 0 LK.toArray rfl rfl hth hj2 hjo ?_))
 dsimp only [Act.put]
 have hgk:w2.heap.size<((w2.alloc (.cells (zb 176) 72)).setCells w2.heap.size 0 LK).heap.size:=block_lt_of_cell (hKy 0 (by decide)).1
 clear hth hb3 Hst hj2 hjo hz
 generalize (w2.alloc (.cells (zb 176) 72)).setCells w2.heap.size 0 LK=U at *
 generalize w2.heap.size=gk at *
 go_cut [7] from 10 (fun s7 wc=>∃ gs,s7 = .pointer (some ⟨gs,0,none⟩)∧RowAt .u8 wc gs 0 16 (addN K 0 bs)∧U.heap.size≤gs∧RowAt .u8 wc gk 0 176 K∧Below w.heap.size w wc)
 case first =>
  have hdrew:Below U.heap.size U U.drew:=(Below.refl _ _).drew
  replace hKy:=hKy.still hdrew
  refine wp_region_noPanic ?_
  refine wp_region_held_drew (S:=fun w'=>Below U.drew.heap.size U.drew w') (by kernel_rfl) (Below.refl _ _) (fun hS => ?_)
  generalize U.drew=Vb4 at *
  refine tk 0 (.slice xb 16 cb) hS (hy:=(yR)) (h := ?_)
  (try simp only [pS])
  refine tk 2 (pA gk 0) hS (hy:=(yR)) (h := ?_)
  (try simp only [pS])
  refine tk 3 (.agg (ints .u8 16 (fun j=>K (16*0+j))).toArray) hS (hy:=(ldH (key_at hKy 0 (by decide)) 71 23 Try.underlying71 (infoS _))) (h := ?_)
  (try simp only [pS])
  refine dag_root (fun G hG0 => ?_)
  have hG:=Hid.mk' hG0
  clear hG0
  obtain ⟨F,hF0⟩:∃ F:Value→Value→Value→Act,∀ v7 v22 v25,F v7 v22 v25={ tmps:=#[.slice xk 16 ck,.slice xb 16 cb,undef,undef,.slice none 0 0,.int .i64 0,pA gk 0,v7,undef,undef,.slice xk 16 ck,.int .i64 16,.bool false,.bool false,.slice xb 16 cb,.int .i64 16,.bool false,.bool false,.slice xk 16 ck,.agg (ints .u8 16 (ks)).toArray,.agg LK.toArray,.slice xb 16 cb,v22,pA gk 0,.agg (ints .u8 16 (fun j=>K (16*0+j))).toArray,v25,undef,undef,undef,undef,undef,undef,undef,undef,undef,undef,undef,undef,undef,undef,undef,undef,undef,undef,undef],defers:=[] }:=⟨_,fun _ _ _=>rfl⟩
  have hF:=Hid.mk' hF0
  clear hF0
  have stb40:Hid (∀ (cur:World) (g5:Nat),Below Vb4.heap.size Vb4 cur→RW cur g5 0 (ints .u8 16 (addN K 0 bs))→Vb4.heap.size≤g5→G 0 #[true,true,true,true,true,true,true] (F (pA g5 0) (.agg (ints .u8 16 (bs)).toArray) (.agg (ints .u8 16 (addN K 0 bs)).toArray)) cur):=Hid.mk' (by
   intro cur g5 hS r5 G5
   rw [hF.out,hG.out]
   refine wpAnyH_done (by kernel_rfl) ?_ _
   refine NoPanic.normal ?_
   go_wp2
   go_meet
   case rel=>exact ⟨g5,rfl,rowAt_of r5,Nat.le_trans hdrew.size G5,hKy.still hS,below_next (below_next b hdrew) hS⟩)
  have stb41:Hid (∀ (cur:World) (g5:Nat),Below Vb4.heap.size Vb4 cur→RW cur g5 0 (ints .u8 16 (fun _=>0))→Vb4.heap.size≤g5→G 1 #[true,true,true,true,true,true,false] (F (pA g5 0) (.agg (ints .u8 16 (bs)).toArray) (.agg (ints .u8 16 (addN K 0 bs)).toArray)) cur):=Hid.mk' (by
   intro cur g5 hS r5 G5
   rw [hF.out,hG.out]
   refine wpAnyH_ready (rs:=[6]) (by kernel_rfl) (by simp) ?_
   refine aT qb46 71 7 25 (ints .u8 16 (addN K 0 bs)) r5 (by rw [ints_len,ints_len]) (below_setCells G5 _ _ _ hS) (infoSA _) (oneU 16 _) (fun rr=>dagW hG (stb40.out _ g5 (below_setCells G5 _ _ _ hS) rr G5) (hF.out _ _ _)) ?_
   exact AllReadyH.nil)
  have stb42:Hid (∀ (cur:World),Below Vb4.heap.size Vb4 cur→G 2 #[true,true,true,true,true,false,false] (F undef (.agg (ints .u8 16 (bs)).toArray) (.agg (ints .u8 16 (addN K 0 bs)).toArray)) cur):=Hid.mk' (by
   intro cur  hS 
   rw [hF.out,hG.out]
   clear stb40
   refine wpAnyH_ready (rs:=[5]) (by kernel_rfl) (by simp) ?_
   refine aG qb45 (fun g=>pA g 0) (ints .u8 16 (fun _=>0)) 71 (fun u hb=>below_next hS hb) (fun w1 g5 lg hb rr=>dagW hG (stb41.out w1 g5 (below_next hS hb) rr (Nat.le_trans hS.size lg)) (hF.out _ _ _)) ?_
   exact AllReadyH.nil)
  have stb43:Hid (∀ (cur:World) (g5:Nat),Below Vb4.heap.size Vb4 cur→RW cur g5 0 (ints .u8 16 (fun _=>0))→Vb4.heap.size≤g5→G 2 #[true,true,true,true,false,true,false] (F (pA g5 0) (.agg (ints .u8 16 (bs)).toArray) undef) cur):=Hid.mk' (by
   intro cur g5 hS r5 G5
   rw [hF.out,hG.out]
   clear stb40 stb42
   refine wpAnyH_ready (rs:=[4]) (by kernel_rfl) (by simp) ?_
   refine arC qb44 (plus_key bs K 0 hbB hK cur) (fun e w1 ⟨he,hb⟩=>⟨_,he,below_next hS hb,dagW hG (stb41.out w1 g5 (below_next hS hb) (r5.still hb) G5) (hF.out _ _ _)⟩) ?_
   exact AllReadyH.nil)
  have stb44:Hid (∀ (cur:World),Below Vb4.heap.size Vb4 cur→G 3 #[true,true,true,true,false,false,false] (F undef (.agg (ints .u8 16 (bs)).toArray) undef) cur):=Hid.mk' (by
   intro cur  hS 
   rw [hF.out,hG.out]
   clear stb40 stb41
   refine wpAnyH_ready (rs:=[4,5]) (by kernel_rfl) (by simp) ?_
   refine arC qb44 (plus_key bs K 0 hbB hK cur) (fun e w1 ⟨he,hb⟩=>⟨_,he,below_next hS hb,dagW hG (stb42.out w1  (below_next hS hb) ) (hF.out _ _ _)⟩) ?_
   refine aG qb45 (fun g=>pA g 0) (ints .u8 16 (fun _=>0)) 71 (fun u hb=>below_next hS hb) (fun w1 g5 lg hb rr=>dagW hG (stb43.out w1 g5 (below_next hS hb) rr (Nat.le_trans hS.size lg)) (hF.out _ _ _)) ?_
   exact AllReadyH.nil)
  have stb45:Hid (∀ (cur:World) (g5:Nat),Below Vb4.heap.size Vb4 cur→RW cur g5 0 (ints .u8 16 (fun _=>0))→Vb4.heap.size≤g5→G 3 #[true,false,true,true,false,true,false] (F (pA g5 0) undef undef) cur):=Hid.mk' (by
   intro cur g5 hS r5 G5
   rw [hF.out,hG.out]
   clear stb40 stb41 stb42 stb44
   refine wpAnyH_ready (rs:=[1]) (by kernel_rfl) (by simp) ?_
   refine arC qb41 (squareOf_16 _ bs cur (hu.keep (below_next (below_next b hdrew) hS))) (fun e w1 ⟨he,hb⟩=>⟨_,he,below_next hS hb,dagW hG (stb43.out w1 g5 (below_next hS hb) (r5.still hb) G5) (hF.out _ _ _)⟩) ?_
   exact AllReadyH.nil)
  have stb46:Hid (∀ (cur:World),Below Vb4.heap.size Vb4 cur→G 4 #[true,false,true,true,false,false,false] (F undef undef undef) cur):=Hid.mk' (by
   intro cur  hS 
   rw [hF.out,hG.out]
   clear stb40 stb41 stb42 stb43
   refine wpAnyH_ready (rs:=[1,5]) (by kernel_rfl) (by simp) ?_
   refine arC qb41 (squareOf_16 _ bs cur (hu.keep (below_next (below_next b hdrew) hS))) (fun e w1 ⟨he,hb⟩=>⟨_,he,below_next hS hb,dagW hG (stb44.out w1  (below_next hS hb) ) (hF.out _ _ _)⟩) ?_
   refine aG qb45 (fun g=>pA g 0) (ints .u8 16 (fun _=>0)) 71 (fun u hb=>below_next hS hb) (fun w1 g5 lg hb rr=>dagW hG (stb45.out w1 g5 (below_next hS hb) rr (Nat.le_trans hS.size lg)) (hF.out _ _ _)) ?_
   exact AllReadyH.nil)
  rw [hG.out]
  exact dagW hG (stb46.out Vb4 hS ) (hF.out _ _ _)
 case rest =>
 obtain ⟨gs,rfl,hs0,hgs,hKy0,b0⟩:=hcut
 have ngk:gk<gs:=Nat.lt_of_lt_of_le hgk hgs
 have wgs:w.heap.size≤gs:=Nat.le_trans b.size hgs
 clear hKy b hu hgk hgs
 obtain ⟨B,hBe⟩:∃ B,B=blkS K bs:=⟨_,rfl⟩
 have hBB:∀ r,B16 (B r):=fun r=>by rw [hBe];exact blkS_B hbB hK r
 have hB0:addN K 0 bs=B 0:=by rw [hBe];rfl
 have hBs:∀ r,addN K (r+1) (colN mT (rowN 1 (thrN boxN (B r))))=B (r+1):=fun r=>by rw [hBe];rfl
 have hBn:addN K 10 (rowN 1 (thrN boxN (B 9)))=blkN K bs:=by rw [hBe];rfl
 rw [hB0] at hs0
 have hz:=zeroS
 have sz0:=block_lt_of_cell (hs0 0 (by decide)).1
 have HBs:=Hid.mk' hBs
 have HBn:=Hid.mk' hBn
 clear hBe hB0 hBs hBn
 go_wp2
 go_loopw [28] (fun i wr=>∃ k:Nat,k≤9∧i = .int .i64 k∧RowAt .u8 wr gs 0 16 (B k)∧RowAt .u8 wr gk 0 176 K∧Below w.heap.size w wr) (fun i _=>9 - (intOf i).toNat)
 case atStart=>exact ⟨0,Nat.zero_le _,rfl,hs0,hKy0,b0⟩
 case round =>
  clear hs0 hKy0 b0 sz0
  obtain ⟨k,hk,rfl,hs,hKy,b⟩:=hrel
  have sz:=block_lt_of_cell (hs 0 (by decide)).1
  by_cases hlt:k<9
  · have hPr:=(key_at hKy (k+1) (by omega)).range
    rw [show 16*(k+1)=16+k*16 by omega] at hPr
    have q1:(0:Int)≤(k:Int)∧(k:Int)<9:=by omega
    have hi1:=infoS (fun j=>K (16+k*16+j))
    have hj2:=infoSA (fun j=>K (16+k*16+j))
    have hjo:=oneU 16 (fun j=>K (16+k*16+j))
    have hT:=RowAt.zero wr 16 71
    have hth:(wr.alloc (.cells (zb 16) 71)).there wr.heap.size 0 (ints .u8 16 (fun j=>K (16+k*16+j))).toArray.size:=by rw [ints_size];exact hT.there
    have hL9:=(hT.stored (L:=fun j=>K (16+k*16+j))).rw (by decide)
    have hb2:Below wr.heap.size wr ((wr.alloc (.cells (zb 16) 71)).setCells wr.heap.size 0 (ints .u8 16 (fun j=>K (16+k*16+j)))):=below_setCells (Nat.le_refl _) _ _ _ ((Below.refl _ _).alloc (Nat.le_refl _) _)
    replace hs:=(hs.still hb2).rw (by decide)
    replace hKy:=hKy.still hb2
    replace b:=below_next b hb2
    have c1:=fun g W h=>thr3 (B k) (hBB k) g W h
    have c2:=fun W=>plus_key (colN mT (rowN 1 (thrN boxN (B k)))) K (k+1) (colT_B (rowN_B (box_B (hBB k)) 1)) hK W
    rw [HBs.out k,show 16*(k+1)=16+k*16 by omega] at c2
    generalize colN mT (rowN 1 (thrN boxN (B k)))=X2 at *
    generalize hLL:ints .u8 16 (fun j=>K (16+k*16+j))=LL at *
    go_upto_region 8 with (first
     | (refine wpList_load_mid rfl 71 _ rfl gk (16+k*16) rfl LL _ hPr Try.underlying71 rfl hi1 ?_)
     | (with_reducible (refine id (?_:wpList _ _ _ _ _ _));refine wpList_store_mid rfl 71 _ _ rfl wr.heap.size 0 LL.toArray rfl rfl hth hj2 hjo ?_))
    dsimp only [Act.put]
    have n9:wr.heap.size≠gs:=fun h=>Nat.lt_irrefl _ (h ▸ sz)
    clear hT hth hb2 hPr hj2 hjo hLL hz sz HBs HBn
    generalize (wr.alloc (.cells (zb 16) 71)).setCells wr.heap.size 0 LL=U8 at *
    generalize wr.heap.size=g9 at *
    have hdrew:Below U8.heap.size U8 U8.drew:=(Below.refl _ _).drew
    replace hs:=hs.still hdrew
    replace hKy:=hKy.still hdrew
    replace hL9:=hL9.still hdrew
    refine wp_region_noPanic ?_
    refine wp_region_held_drew (S:=fun w'=>Out gs 0 16 U8.drew w') (by kernel_rfl) (Out.refl _ _ _ _) (fun hS => ?_)
    generalize U8.drew=Vb8 at *
    refine tk 3 (.agg LL.toArray) hS (hy:=(ldO hL9 n9 71 9 Try.underlying71 hi1)) (h := ?_)
    (try simp only [pS])
    refine dag_root (fun G hG0 => ?_)
    have hG:=Hid.mk' hG0
    clear hG0
    obtain ⟨F,hF0⟩:∃ F:Value→Value→Value→Value→Act,∀ v32 v33 v34 v36,F v32 v33 v34 v36={ tmps:=#[.slice xk 16 ck,.slice xb 16 cb,undef,undef,.slice none 0 0,.int .i64 0,pA gk 0,pA gs 0,undef,pA g9 0,u10,u11,u12,u13,u14,u15,u16,u17,u18,u19,u20,u21,u22,u23,u24,u25,.slice (some ⟨gk,16,none⟩) 9 10,.int .i64 9,.int .i64 k,.bool true,pA gk (16+k*16),.agg LL.toArray,v32,v33,v34,.agg LL.toArray,v36,u37,u38,u39,u40,u41,u42,u43,u44],defers:=[] }:=⟨_,fun _ _ _ _=>rfl⟩
    have hF:=Hid.mk' hF0
    clear hF0
    have stb80:Hid (∀ (cur:World) (g1:Nat),Out gs 0 16 Vb8 cur→RW cur gs 0 (ints .u8 16 (B (k+1)))→Vb8.heap.size≤g1→G 0 #[true,true,true,true,true,true] (F (.agg (ints .u8 16 (B k)).toArray) (.slice (some ⟨g1,0,none⟩) 3 3) (.agg (ints .u8 16 (X2)).toArray) (.agg (ints .u8 16 (B (k+1))).toArray)) cur):=Hid.mk' (by
     intro cur g1 hS ro G1
     rw [hF.out,hG.out]
     refine wpAnyH_done (by kernel_rfl) ?_ _
     refine NoPanic.normal ?_
     go_wp2
     go_roundw
     case rel=>exact ⟨k+1,by omega,by go_num,rowAt_of ro,hS.row hKy (Nat.ne_of_lt ngk),(below_next b hdrew).trans (hS.below wgs (below_next b hdrew).size)⟩
     case measure=>simp [intOf];omega)
    have stb81:Hid (∀ (cur:World) (g1:Nat),Out gs 0 16 Vb8 cur→RW cur gs 0 (ints .u8 16 (B k))→Vb8.heap.size≤g1→G 1 #[true,true,true,true,true,false] (F (.agg (ints .u8 16 (B k)).toArray) (.slice (some ⟨g1,0,none⟩) 3 3) (.agg (ints .u8 16 (X2)).toArray) (.agg (ints .u8 16 (B (k+1))).toArray)) cur):=Hid.mk' (by
     intro cur g1 hS ro G1
     rw [hF.out,hG.out]
     refine wpAnyH_ready (rs:=[5]) (by kernel_rfl) (by simp) ?_
     refine aT qb85 71 7 36 (ints .u8 16 (B (k+1))) ro (by rw [ints_len,ints_len]) (hS.trans (Out.setCells _ _ (Nat.le_refl _) (by rw [ints_len];exact Nat.le_refl _))) (infoSA _) (oneU 16 _) (fun rr=>dagW hG (stb80.out _ g1 (hS.trans (Out.setCells _ _ (Nat.le_refl _) (by rw [ints_len];exact Nat.le_refl _))) rr G1) (hF.out _ _ _ _)) ?_
     exact AllReadyH.nil)
    have stb82:Hid (∀ (cur:World) (g1:Nat),Out gs 0 16 Vb8 cur→RW cur gs 0 (ints .u8 16 (B k))→Vb8.heap.size≤g1→G 2 #[true,true,true,true,false,false] (F (.agg (ints .u8 16 (B k)).toArray) (.slice (some ⟨g1,0,none⟩) 3 3) (.agg (ints .u8 16 (X2)).toArray) u36) cur):=Hid.mk' (by
     intro cur g1 hS ro G1
     rw [hF.out,hG.out]
     clear stb80
     refine wpAnyH_ready (rs:=[4]) (by kernel_rfl) (by simp) ?_
     refine arC qb84 (c2 cur) (fun e w1 ⟨he,hb⟩=>⟨_,he,hS.trans (Out.of_below hb ro.lt),dagW hG (stb81.out w1 g1 (hS.trans (Out.of_below hb ro.lt)) (ro.still hb) G1) (hF.out _ _ _ _)⟩) ?_
     exact AllReadyH.nil)
    have stb83:Hid (∀ (cur:World) (g1:Nat),Out gs 0 16 Vb8 cur→RW cur gs 0 (ints .u8 16 (B k))→RW cur g1 0 ([fnV 57,fnV 58,fnV 59])→Vb8.heap.size≤g1→G 3 #[true,true,false,true,false,false] (F (.agg (ints .u8 16 (B k)).toArray) (.slice (some ⟨g1,0,none⟩) 3 3) u34 u36) cur):=Hid.mk' (by
     intro cur g1 hS ro r1 G1
     rw [hF.out,hG.out]
     clear stb80 stb81
     refine wpAnyH_ready (rs:=[2]) (by kernel_rfl) (by simp) ?_
     refine arC qb82 (c1 _ cur r1) (fun e w1 ⟨he,hb⟩=>⟨_,he,hS.trans (Out.of_below hb ro.lt),dagW hG (stb82.out w1 g1 (hS.trans (Out.of_below hb ro.lt)) (ro.still hb) G1) (hF.out _ _ _ _)⟩) ?_
     exact AllReadyH.nil)
    have stb84:Hid (∀ (cur:World),Out gs 0 16 Vb8 cur→RW cur gs 0 (ints .u8 16 (B k))→G 4 #[true,false,false,true,false,false] (F (.agg (ints .u8 16 (B k)).toArray) u33 u34 u36) cur):=Hid.mk' (by
     intro cur  hS ro
     rw [hF.out,hG.out]
     clear stb80 stb81 stb82
     refine wpAnyH_ready (rs:=[1]) (by kernel_rfl) (by simp) ?_
     refine aG qb81 (fun g => .slice (some ⟨g,0,none⟩) 3 3) ([fnV 57,fnV 58,fnV 59]) 75 (fun u hb=>hS.trans (Out.of_below hb ro.lt)) (fun w1 g1 lg hb rr=>dagW hG (stb83.out w1 g1 (hS.trans (Out.of_below hb ro.lt)) (ro.still hb) rr (Nat.le_trans hS.size lg)) (hF.out _ _ _ _)) ?_
     exact AllReadyH.nil)
    have stb85:Hid (∀ (cur:World) (g1:Nat),Out gs 0 16 Vb8 cur→RW cur gs 0 (ints .u8 16 (B k))→RW cur g1 0 ([fnV 57,fnV 58,fnV 59])→Vb8.heap.size≤g1→G 4 #[false,true,false,true,false,false] (F u32 (.slice (some ⟨g1,0,none⟩) 3 3) u34 u36) cur):=Hid.mk' (by
     intro cur g1 hS ro r1 G1
     rw [hF.out,hG.out]
     clear stb80 stb81 stb82 stb84
     refine wpAnyH_ready (rs:=[0]) (by kernel_rfl) (by simp) ?_
     refine aL qb80 71 7 ro hS Try.underlying71 (infoS _) (dagW hG (stb83.out cur g1 hS ro r1 G1) (hF.out _ _ _ _)) ?_
     exact AllReadyH.nil)
    have stb86:Hid (∀ (cur:World),Out gs 0 16 Vb8 cur→RW cur gs 0 (ints .u8 16 (B k))→G 5 #[false,false,false,true,false,false] (F u32 u33 u34 u36) cur):=Hid.mk' (by
     intro cur  hS ro
     rw [hF.out,hG.out]
     clear stb80 stb81 stb82 stb83
     refine wpAnyH_ready (rs:=[0,1]) (by kernel_rfl) (by simp) ?_
     refine aL qb80 71 7 ro hS Try.underlying71 (infoS _) (dagW hG (stb84.out cur  hS ro) (hF.out _ _ _ _)) ?_
     refine aG qb81 (fun g => .slice (some ⟨g,0,none⟩) 3 3) ([fnV 57,fnV 58,fnV 59]) 75 (fun u hb=>hS.trans (Out.of_below hb ro.lt)) (fun w1 g1 lg hb rr=>dagW hG (stb85.out w1 g1 (hS.trans (Out.of_below hb ro.lt)) (ro.still hb) rr (Nat.le_trans hS.size lg)) (hF.out _ _ _ _)) ?_
     exact AllReadyH.nil)
    rw [hG.out]
    exact dagW hG (stb86.out Vb8 hS hs) (hF.out _ _ _ _)
  · obtain rfl:k=9:=by omega
    have n9:gk≠gs:=Nat.ne_of_lt ngk
    replace hs:=hs.rw (by decide)
    have c1:=fun g W h=>thr2 (B 9) (hBB 9) g W h
    have c2:=fun W=>plus_key (rowN 1 (thrN boxN (B 9))) K 10 (rowN_B (box_B (hBB 9)) 1) hK W
    rw [HBn.out,←HZ.out] at c2
    generalize rowN 1 (thrN boxN (B 9))=X2 at *
    clear hz sz HBs HBn
    go_upto_region 10 with (fail)
    have hdrew:Below wr.heap.size wr wr.drew:=(Below.refl _ _).drew
    replace hs:=hs.still hdrew
    replace hKy:=hKy.still hdrew
    refine wp_region_noPanic ?_
    refine wp_region_held_drew (S:=fun w'=>Out gs 0 16 wr.drew w') (by kernel_rfl) (Out.refl _ _ _ _) (fun hS => ?_)
    generalize wr.drew=Vbx at *
    refine tk 3 (pA gk 160) hS (hy:=(yR)) (h := ?_)
    (try simp only [pS])
    refine tk 4 (.agg (ints .u8 16 (fun j=>K (16*10+j))).toArray) hS (hy:=(ldO (key_at hKy 10 (by decide)) n9 71 41 Try.underlying71 (infoS _))) (h := ?_)
    (try simp only [pS])
    refine dag_root (fun G hG0 => ?_)
    have hG:=Hid.mk' hG0
    clear hG0
    obtain ⟨F,hF0⟩:∃ F:Value→Value→Value→Value→Act,∀ v38 v39 v40 v43,F v38 v39 v40 v43={ tmps:=#[.slice xk 16 ck,.slice xb 16 cb,undef,undef,.slice none 0 0,.int .i64 0,pA gk 0,pA gs 0,undef,u9,u10,u11,u12,u13,u14,u15,u16,u17,u18,u19,u20,u21,u22,u23,u24,u25,.slice (some ⟨gk,16,none⟩) 9 10,.int .i64 9,.int .i64 9,.bool false,u30,u31,u32,u33,u34,u35,u36,u37,v38,v39,v40,pA gk 160,.agg (ints .u8 16 (fun j=>K (16*10+j))).toArray,v43,u44],defers:=[] }:=⟨_,fun _ _ _ _=>rfl⟩
    have hF:=Hid.mk' hF0
    clear hF0
    have stbx0:Hid (∀ (cur:World) (g1:Nat),Out gs 0 16 Vbx cur→RW cur gs 0 (ints .u8 16 (Z))→Vbx.heap.size≤g1→G 0 #[true,true,true,true,true,true,true] (F (.agg (ints .u8 16 (B 9)).toArray) (.slice (some ⟨g1,0,none⟩) 2 2) (.agg (ints .u8 16 (X2)).toArray) (.agg (ints .u8 16 (Z)).toArray)) cur):=Hid.mk' (by
     intro cur g1 hS ro G1
     rw [hF.out,hG.out]
     refine wpAnyH_done (by kernel_rfl) ?_ _
     refine NoPanic.normal ?_
     go_wp2
     go_ret2
     exact ⟨gs,rfl,rowAt_of ro,(below_next b hdrew).trans (hS.below wgs (below_next b hdrew).size)⟩)
    have stbx1:Hid (∀ (cur:World) (g1:Nat),Out gs 0 16 Vbx cur→RW cur gs 0 (ints .u8 16 (B 9))→Vbx.heap.size≤g1→G 1 #[true,true,true,true,true,true,false] (F (.agg (ints .u8 16 (B 9)).toArray) (.slice (some ⟨g1,0,none⟩) 2 2) (.agg (ints .u8 16 (X2)).toArray) (.agg (ints .u8 16 (Z)).toArray)) cur):=Hid.mk' (by
     intro cur g1 hS ro G1
     rw [hF.out,hG.out]
     refine wpAnyH_ready (rs:=[6]) (by kernel_rfl) (by simp) ?_
     refine aT qbx6 71 7 43 (ints .u8 16 (Z)) ro (by rw [ints_len,ints_len]) (hS.trans (Out.setCells _ _ (Nat.le_refl _) (by rw [ints_len];exact Nat.le_refl _))) (infoSA _) (oneU 16 _) (fun rr=>dagW hG (stbx0.out _ g1 (hS.trans (Out.setCells _ _ (Nat.le_refl _) (by rw [ints_len];exact Nat.le_refl _))) rr G1) (hF.out _ _ _ _)) ?_
     exact AllReadyH.nil)
    have stbx2:Hid (∀ (cur:World) (g1:Nat),Out gs 0 16 Vbx cur→RW cur gs 0 (ints .u8 16 (B 9))→Vbx.heap.size≤g1→G 2 #[true,true,true,true,true,false,false] (F (.agg (ints .u8 16 (B 9)).toArray) (.slice (some ⟨g1,0,none⟩) 2 2) (.agg (ints .u8 16 (X2)).toArray) u43) cur):=Hid.mk' (by
     intro cur g1 hS ro G1
     rw [hF.out,hG.out]
     clear stbx0
     refine wpAnyH_ready (rs:=[5]) (by kernel_rfl) (by simp) ?_
     refine arC qbx5 (c2 cur) (fun e w1 ⟨he,hb⟩=>⟨_,he,hS.trans (Out.of_below hb ro.lt),dagW hG (stbx1.out w1 g1 (hS.trans (Out.of_below hb ro.lt)) (ro.still hb) G1) (hF.out _ _ _ _)⟩) ?_
     exact AllReadyH.nil)
    have stbx3:Hid (∀ (cur:World) (g1:Nat),Out gs 0 16 Vbx cur→RW cur gs 0 (ints .u8 16 (B 9))→RW cur g1 0 ([fnV 57,fnV 58])→Vbx.heap.size≤g1→G 3 #[true,true,false,true,true,false,false] (F (.agg (ints .u8 16 (B 9)).toArray) (.slice (some ⟨g1,0,none⟩) 2 2) u40 u43) cur):=Hid.mk' (by
     intro cur g1 hS ro r1 G1
     rw [hF.out,hG.out]
     clear stbx0 stbx1
     refine wpAnyH_ready (rs:=[2]) (by kernel_rfl) (by simp) ?_
     refine arC qbx2 (c1 _ cur r1) (fun e w1 ⟨he,hb⟩=>⟨_,he,hS.trans (Out.of_below hb ro.lt),dagW hG (stbx2.out w1 g1 (hS.trans (Out.of_below hb ro.lt)) (ro.still hb) G1) (hF.out _ _ _ _)⟩) ?_
     exact AllReadyH.nil)
    have stbx4:Hid (∀ (cur:World),Out gs 0 16 Vbx cur→RW cur gs 0 (ints .u8 16 (B 9))→G 4 #[true,false,false,true,true,false,false] (F (.agg (ints .u8 16 (B 9)).toArray) u39 u40 u43) cur):=Hid.mk' (by
     intro cur  hS ro
     rw [hF.out,hG.out]
     clear stbx0 stbx1 stbx2
     refine wpAnyH_ready (rs:=[1]) (by kernel_rfl) (by simp) ?_
     refine aG qbx1 (fun g => .slice (some ⟨g,0,none⟩) 2 2) ([fnV 57,fnV 58]) 75 (fun u hb=>hS.trans (Out.of_below hb ro.lt)) (fun w1 g1 lg hb rr=>dagW hG (stbx3.out w1 g1 (hS.trans (Out.of_below hb ro.lt)) (ro.still hb) rr (Nat.le_trans hS.size lg)) (hF.out _ _ _ _)) ?_
     exact AllReadyH.nil)
    have stbx5:Hid (∀ (cur:World) (g1:Nat),Out gs 0 16 Vbx cur→RW cur gs 0 (ints .u8 16 (B 9))→RW cur g1 0 ([fnV 57,fnV 58])→Vbx.heap.size≤g1→G 4 #[false,true,false,true,true,false,false] (F u38 (.slice (some ⟨g1,0,none⟩) 2 2) u40 u43) cur):=Hid.mk' (by
     intro cur g1 hS ro r1 G1
     rw [hF.out,hG.out]
     clear stbx0 stbx1 stbx2 stbx4
     refine wpAnyH_ready (rs:=[0]) (by kernel_rfl) (by simp) ?_
     refine aL qbx0 71 7 ro hS Try.underlying71 (infoS _) (dagW hG (stbx3.out cur g1 hS ro r1 G1) (hF.out _ _ _ _)) ?_
     exact AllReadyH.nil)
    have stbx6:Hid (∀ (cur:World),Out gs 0 16 Vbx cur→RW cur gs 0 (ints .u8 16 (B 9))→G 5 #[false,false,false,true,true,false,false] (F u38 u39 u40 u43) cur):=Hid.mk' (by
     intro cur  hS ro
     rw [hF.out,hG.out]
     clear stbx0 stbx1 stbx2 stbx3
     refine wpAnyH_ready (rs:=[0,1]) (by kernel_rfl) (by simp) ?_
     refine aL qbx0 71 7 ro hS Try.underlying71 (infoS _) (dagW hG (stbx4.out cur  hS ro) (hF.out _ _ _ _)) ?_
     refine aG qbx1 (fun g => .slice (some ⟨g,0,none⟩) 2 2) ([fnV 57,fnV 58]) 75 (fun u hb=>hS.trans (Out.of_below hb ro.lt)) (fun w1 g1 lg hb rr=>dagW hG (stbx5.out w1 g1 (hS.trans (Out.of_below hb ro.lt)) (ro.still hb) rr (Nat.le_trans hS.size lg)) (hF.out _ _ _ _)) ?_
     exact AllReadyH.nil)
    rw [hG.out]
    exact dagW hG (stbx6.out Vbx hS hs) (hF.out _ _ _ _)
end Go.Proofs.Ytalgabgofpmebaa
namespace Go.Proofs.Ytalgabgofpmebaa
open Go.RowKit
def RowS (w:World) (v:Value) (n:Nat) (X:Nat→Nat):Prop:=∃ g cap,v = .slice (some ⟨g,0,none⟩) n cap∧n≤cap∧RowAt .u8 w g 0 n X
theorem RowS.still {w w':World} {v:Value} {n:Nat} {X:Nat→Nat} (h:RowS w v n X) (hb:Below w.heap.size w w'):RowS w' v n X:=by
 obtain ⟨g,cap,rfl,hc,hr⟩:=h
 exact ⟨g,cap,rfl,hc,hr.still hb⟩
theorem RowS.bytes {w:World} {v:Value} {n:Nat} {X:Nat→Nat} (h:RowS w v n X) (hn:0<n):BytesIn w v n X:=by
 obtain ⟨g,cap,rfl,hc,hr⟩:=h
 exact rowB hr hn hc
set_option maxRecDepth 20000 in
set_option maxHeartbeats 4000000 in
theorem inverses_any (w:World) :
 Calls Try.prog 60 #[] w fun e w'=>∃ v,e = .returned v∧RowS w' v 256 invN∧Below w.heap.size w w':=by
 have hpw:=pw_all
 have hp0:pwN 0=1:=by kernel_rfl
 have hinv:=inv_all
 have hun:∀ i,invF (i+1)=upd (invF i) (pwN i) (pwN ((255 - i)%255)):=fun _=>rfl
 have hz0:invF 0=fun _=>0:=rfl
 have ct:=fun i (hi:i<255) W=>rtimes_any (pwN i) 3 (pw_all i hi).1 (by decide) W
 generalize pwN=P at *
 generalize invF=V at *
 go_enter Try.func60,Try.ntmps60
 go_wp2
 go_loopw [1,2,3] (fun o x i wr=>∃ k:Nat,k≤255∧x = .int .u8 (P (k%255))∧i = .int .i64 k∧Own w.heap.size wr o k P∧Below w.heap.size w wr) (fun _ _ i _=>255 - (intOf i).toNat)
 case atStart=>exact ⟨0,Nat.zero_le _,by rw [show 0%255=0 from rfl,hp0];rfl,rfl,Own.nil _ _ _,Below.refl _ _⟩
 case round =>
  obtain ⟨k,hk,rfl,rfl,own,b⟩:=hrel
  by_cases hlt:k<255
  · have c1:=ct k hlt
    obtain ⟨hp,hn⟩:=hpw k hlt
    rw [hn] at c1
    rw [show k%255=k by omega] at *
    have hs:=b.size
    have HP:∀ y:Int,y=(P k:Int)→y=(P k:Int):=fun _ h=>h
    clear hpw hinv hun hz0 ct hn hp0
    go_wp2_with (first
     | (at_builtin;refine wpList_append_next rfl (.tmp 10) (.tmp 12) rfl w.heap.size _ k P _ rfl own rfl rfl (by omega) hs ?_;intro v2 w2 own2 hb2;(have b2:=b.trans hb2);clear own)
     | (go_at_call 61;refine (c1 _).mono ?_;clear c1;rintro e w3 ⟨rfl,hw3⟩;subst hw3))
    go_roundw
    case rel=>exact ⟨k+1,by omega,rfl,by go_num,own2,b2⟩
    case measure=>simp [intOf];omega
  · obtain rfl:k=255:=by omega
    obtain ⟨g,cap,hv,hg,hgl,hcap,hrow⟩:=own.form.resolve_left (fun h=>by omega)
    subst hv
    have hmk:=make_bytes wr 256 256 rfl (by decide)
    have hb1:Below wr.heap.size wr (wr.alloc (.cells (zb 256) 5)):=(Below.refl _ _).alloc (Nat.le_refl _) _
    have hT0:=RowAt.zero wr 256 5
    rw [←hz0] at hT0
    replace hrow:=hrow.still hb1
    replace b:=below_next b hb1
    have hwg:w.heap.size≤wr.heap.size:=Nat.le_trans hg (Nat.le_of_lt hgl)
    generalize wr.alloc (.cells (zb 256) 5)=U at *
    generalize wr.heap.size=G at *
    clear hb1 own ct hp0 hz0
    go_wp2_with (rw [hmk])
    go_loopw [5] (fun i wq=>∃ k:Nat,k≤255∧i = .int .i64 k∧RowAt .u8 wq g 0 255 P∧RowAt .u8 wq G 0 256 (V k)∧Below w.heap.size w wq) (fun i _=>255 - (intOf i).toNat)
    case atStart=>exact ⟨0,Nat.zero_le _,rfl,hrow,hT0,b⟩
    case round =>
     clear hrow hT0 b hmk
     obtain ⟨k,hk,rfl,hrow,hT,b⟩:=hrel
     by_cases hlt:k<255
     · obtain ⟨hp,-⟩:=hpw k hlt
       obtain ⟨r1,-⟩:=hrow k hlt
       obtain ⟨r2,-⟩:=hrow ((255 - k)%255) (by omega)
       obtain ⟨r3,f3⟩:=hT (P k) hp
       rw [Nat.zero_add] at r1 r2 r3 f3
       have hs:=hT.set (i:=P k) hp (v:=(P ((255 - k)%255):Int)) (u:=P ((255 - k)%255)) rfl
       rw [Nat.zero_add,←hun] at hs
       have q1:(-(k:Int)%255).toNat=(255 - k)%255:=by omega
       have q2:(0:Int)≤-(k:Int)%255∧-(k:Int)%255<255:=by omega
       have q3:(P k:Int)<256:=by omega
       have ng:¬G=g:=by omega
       have ng2:¬g=G:=by omega
       have m1:k+1≤255:=by omega
       clear hpw hinv hun
       go_wp2
       go_region
       go_wp2
       go_roundw
       case rel=>exact ⟨k+1,m1,by go_num,(hrow.far (by show G≠g;omega) _).drew,hs.drew,(b.setCell (by show w.heap.size≤G;omega) _).drew⟩
       case measure=>simp [intOf];omega
     · obtain rfl:k=255:=by omega
       have hT':=hT.congr (fun j hj=>(hinv j hj).1)
       clear hpw hinv hun hT
       go_wp2
       go_ret
       exact ⟨_,rfl,⟨G,256,rfl,Nat.le_refl _,hT'⟩,b⟩
end Go.Proofs.Ytalgabgofpmebaa
namespace Go.Proofs.Ytalgabgofpmebaa
open Go.RowKit
theorem boxF_lt (y:Nat) (hy:y<256):∀ n,n≤4→boxF y n<256
 | 0,_=>xor_byte hy (by decide)
 | n+1,h=>by
  show boxF y n ^^^ (y*2 ^ (n+1)%256 ||| y / 2 ^ (8 - (n+1)))<256
  exact xor_byte (boxF_lt y hy n (by omega)) (Nat.or_lt_two_pow (n:=8) (Nat.mod_lt _ (by decide)) (Nat.lt_of_le_of_lt (Nat.div_le_self _ _) hy))
set_option maxRecDepth 20000 in
set_option maxHeartbeats 4000000 in
theorem rboxes_any (w:World) :
 Calls Try.prog 47 #[] w fun e w'=>∃ v,e = .returned v∧RowS w' v 256 boxN∧Below w.heap.size w w':=by
 have ci:=inverses_any w
 have hinv:=fun x hx=>(inv_all x hx).2
 have hbox:=boxF_all
 have hbl:=boxF_lt
 have hb0:∀ y,boxF y 0=y ^^^ 99:=fun _=>rfl
 have hbs:∀ y n,boxF y (n+1)=boxF y n ^^^ (y*2 ^ (n+1)%256 ||| y / 2 ^ (8 - (n+1))):=fun _ _=>rfl
 generalize invN=I at *
 generalize boxN=F at *
 generalize boxF=Y at *
 go_enter Try.func47,Try.ntmps47
 go_wp2_with (go_at_call 60;refine ci.mono ?_;clear ci;rintro e w1 ⟨v1,rfl,⟨g,cap,rfl,hcap,hr1⟩,b1⟩)
 go_loopw [2,3] (fun o i wr=>∃ k:Nat,k≤256∧i = .int .i64 k∧Own w1.heap.size wr o k F∧Below w1.heap.size w1 wr) (fun _ i _=>256 - (intOf i).toNat)
 case atStart=>exact ⟨0,Nat.zero_le _,rfl,Own.nil _ _ _,Below.refl _ _⟩
 case round =>
  obtain ⟨k,hk,rfl,own,b⟩:=hrel
  have hr:=hr1.still b
  by_cases hlt:k<256
  · obtain ⟨rk,-⟩:=hr k hlt
    rw [Nat.zero_add] at rk
    have hy:=hinv k hlt
    have hfin:=hbox k hlt
    have hl:=hbl (I k) hy
    have hs:=hbs (I k)
    have h0:=hb0 (I k)
    have q0:=u8_xor_nat (I k) 99 hy (by decide)
    rw [←h0] at q0
    replace q0:bits .xor .u8 ((I k:Nat):Int) 99=((Y (I k) 0:Nat):Int):=q0
    have hsz:=b.size
    have hrange:(0:Int)≤(k:Int)∧(k:Int)<256:=by omega
    generalize I k=y at *
    obtain ⟨B,hB⟩:∃ B,B=Y y:=⟨_,rfl⟩
    rw [←hB] at hfin hl hs h0 q0
    have HS:=Hid.mk' hs
    have HF:=Hid.mk' hfin
    clear hB hinv hbox hbl hb0 hbs hs h0 hfin
    go_wp2
    go_loopw [5,6] (fun x n wq=>∃ m:Nat,m≤4∧x = .int .u8 (B m)∧n = .int .i64 ((m:Int)+1)∧wq=wr) (fun _ n _=>5 - (intOf n).toNat)
    case atStart=>exact ⟨0,Nat.zero_le _,rfl,rfl,rfl⟩
    case round =>
     clear q0
     obtain ⟨m,hm,rfl,rfl,hwq⟩:=hrel
     subst hwq
     by_cases hlm:m<4
     · have e1:=HS.out m
       have b1:=hl m hm
       have hq1:=u8_or_nat (y*2 ^ (m+1)%256) (y / 2 ^ (8 - (m+1))) (Nat.mod_lt _ (by decide)) (Nat.lt_of_le_of_lt (Nat.div_le_self _ _) hy)
       have hq2:=u8_xor_nat (B m) (y*2 ^ (m+1)%256 ||| y / 2 ^ (8 - (m+1))) b1 (Nat.or_lt_two_pow (n:=8) (Nat.mod_lt _ (by decide)) (Nat.lt_of_le_of_lt (Nat.div_le_self _ _) hy))
       rw [←e1] at hq2
       clear HS e1 own
       rcases (show m=0∨m=1∨m=2∨m=3 by omega) with rfl | rfl | rfl | rfl
       all_goals
        simp only [Nat.zero_add,Nat.reduceAdd,Nat.reduceSub,Nat.reducePow] at hq1 hq2
        rw [←hq1] at hq2
        push_cast at hq2
        clear hq1
        go_wp2
        go_roundw
        case rel=>exact ⟨_,by decide,rfl,rfl,trivial⟩
        case measure=>simp [intOf]
     · obtain rfl:m=4:=by omega
       have eF:=HF.out
       clear HS HF
       go_wp2_with (at_builtin;refine wpList_append_next rfl (.tmp 34) (.tmp 36) rfl w1.heap.size _ k F _ rfl own rfl (by rw [←eF]) (by omega) hsz ?_;intro v2 w2 own2 hb2;(have b2:=b.trans hb2);clear own)
       go_roundw
       case rel=>exact ⟨k+1,by omega,by go_num,own2,b2⟩
       case measure=>simp [intOf];omega
  · obtain rfl:k=256:=by omega
    obtain ⟨g3,cap3,hv,hg,hgl,hcap3,hrow⟩:=own.form.resolve_left (fun h=>by omega)
    subst hv
    clear hbox hbl hb0 hbs own hinv
    go_wp2
    go_ret
    exact ⟨_,rfl,⟨g3,cap3,rfl,hcap3,hrow⟩,below_next b1 b⟩
end Go.Proofs.Ytalgabgofpmebaa
namespace Go.Proofs.Ytalgabgofpmebaa
open Go.RowKit
theorem step_append_one {ops:Array Oper} {o:Oper} {a:Act} {w:World} {K:Act→World→Prop} {Q:Exit→Act→World→Prop} {E:Prop} (hgd:o.guard=none) (s x:Operand)
 (ho:o.op = .call { callee := .builtin .append,args:=#[s,x],argTypes:=#[22,22] }) (hty:o.type=22) (base:Nat)
 (v:Value) (n:Nat) (F:Nat→Nat) (y:Int) (hs:a.eval s=v) (hown:Own base w v n F) (g:Nat) (hg:w.heap.size=g) (hx:a.eval x = .slice (some ⟨g,0,none⟩) 1 1) (hF:y=(F n:Int))
 (hl:n+1≤1000000) (hbase:base≤w.heap.size)
 (h:∀ v' w',Own base w' v' (n+1) F→Below base w w'→K (a.put o.dst v') w') :
 if Region.wanted o (yielded ops a.tmps)=true then Oper.wp Try.prog o a (w.alloc (.cells #[.int .u8 y] 5)) K Q else E:=by
 have hw:Region.wanted o (yielded ops a.tmps)=true:=by simp [Region.wanted,hgd]
 rw [if_pos hw]
 subst hg
 have hz:base≤(w.alloc (.cells #[.int .u8 y] 5)).heap.size:=by simp only [World.size_alloc];omega
 obtain ⟨v',w',hrun,h1,h2⟩:=run_append_bytes (w.alloc (.cells #[.int .u8 y] 5)) base v n F (hown.alloc _) _ 1 1 _ (src_one w y (F n) hF) (fun h=>by cases h) (by omega) hz
 have h3:Own base w' v' (n+1) F:=h1.congr (fun j hj=>by
  by_cases e:j<n
  · rw [cat_left e]
  · obtain rfl:j=n:=by omega
    unfold cat;rw [if_neg e])
 unfold Oper.wp
 simp [execOp,ho,hty,resolve,invoke,builtin,hs,hx,hrun,Result.andThen]
 exact h v' w' h3 (((Below.refl _ _).alloc hbase _).trans h2)
def RowF (base:Nat) (w:World) (v:Value) (n:Nat) (X:Nat→Nat):Prop:=∃ g cap,v = .slice (some ⟨g,0,none⟩) n cap∧base≤g∧n≤cap∧RowAt .u8 w g 0 n X
theorem RowF.row {base:Nat} {w:World} {v:Value} {n:Nat} {X:Nat→Nat} (h:RowF base w v n X):RowS w v n X:=by
 obtain ⟨g,cap,e,_,hc,hr⟩:=h
 exact ⟨g,cap,e,hc,hr⟩
theorem RowF.mono {base base':Nat} {w:World} {v:Value} {n:Nat} {X:Nat→Nat} (h:RowF base w v n X) (hb:base'≤base):RowF base' w v n X:=by
 obtain ⟨g,cap,e,h1,hc,hr⟩:=h
 exact ⟨g,cap,e,Nat.le_trans hb h1,hc,hr⟩
set_option maxRecDepth 20000 in
set_option maxHeartbeats 4000000 in
theorem add_fresh (v u:Value) (X K:Nat→Nat) (r:Nat) (hr:r≤10) (hX:B16 X) (hK:∀ j,K j<256) (w:World) (hv:BytesIn w v 16 X) (hu:RowS w u 176 K) :
 Calls Try.prog 49 #[v,u,.int .i64 r] w fun e w'=>∃ s,e = .returned s∧RowF w.heap.size w' s 16 (addN K r X)∧Below w.heap.size w w':=by
 obtain ⟨bb,ob,cb,rfl,hbb,hcb,hcell⟩:=hv.resolve_left (fun ⟨_,_,h⟩=>by omega)
 obtain ⟨gk,ck,rfl,hck,hrow⟩:=hu
 have hgk:gk<w.heap.size:=block_lt_of_cell (hrow 0 (by decide)).1
 obtain ⟨Z,hZ⟩:∃ Z,Z=addN K r X:=⟨_,rfl⟩
 have hZe:∀ j,X j ^^^ K (16*r+j)=Z j:=fun j=>by rw [hZ];rfl
 rw [←hZ]
 clear hZ hv
 go_enter Try.func49,Try.ntmps49
 go_wp2
 go_loopw [7,8] (fun o i wr=>∃ k:Nat,k≤16∧i = .int .i64 k∧Own w.heap.size wr o k Z∧Below w.heap.size w wr) (fun _ i _=>16 - (intOf i).toNat)
 case atStart=>exact ⟨0,Nat.zero_le _,rfl,Own.nil _ _ _,Below.refl _ _⟩
 case round =>
  obtain ⟨k,hk,rfl,own,b⟩:=hrel
  by_cases hlt:k<16
  · have r1:wr.cell? ⟨bb,ob+k,none⟩=some (.int .u8 (X k)):=(b.cell (p:=⟨bb,ob+k,none⟩) hbb).trans (hcell k hlt)
    have r2:wr.cell? ⟨gk,16*r+k,none⟩=some (.int .u8 (K (16*r+k))):=(b.cell (p:=⟨gk,16*r+k,none⟩) hgk).trans (by have:=(hrow (16*r+k) (by omega)).1;rwa [Nat.zero_add] at this)
    have q:=u8_xor_nat (X k) (K (16*r+k)) (hX k hlt) (hK _)
    rw [hZe] at q
    have q1:(16*(r:Int)+(k:Int)).toNat=16*r+k:=by omega
    have q2:(0:Int)≤16*(r:Int)+(k:Int)∧16*(r:Int)+(k:Int)<176:=by omega
    have q3:(0:Int)≤(k:Int)∧(k:Int)<16:=by omega
    have e1:IntKind.i64.wrap (16*(r:Int))=16*(r:Int):=by simp only [IntKind.wrap_i64];omega
    have e2:IntKind.i64.wrap (16*(r:Int)+(k:Int))=16*(r:Int)+(k:Int):=by simp only [IntKind.wrap_i64];omega
    have hS:∀ w':World,Below w.heap.size wr w'→∀ b o,b<w.heap.size→w'.cell? ⟨b,o,none⟩=wr.cell? ⟨b,o,none⟩:=fun w' h b o hb=>h.cell (p:=⟨b,o,none⟩) hb
    have hb0:Below w.heap.size wr wr.drew:=(Below.refl _ _).drew
    have own0:Own w.heap.size wr.drew _ k Z:=own.below ((Below.refl _ _).drew)
    have hsz0:w.heap.size≤wr.drew.heap.size:=b.size
    have m1:k+1≤16:=by omega
    clear hcell hrow hX hK hZe own
    generalize K (16*r+k)=y at *
    generalize X k=x at *
    go_wp2
    go_region_held3 (fun w'=>Below w.heap.size wr w') (first | assumption | exact Below.alloc (by assumption) (by assumption) _) (first | (refine step_append_one rfl (.tmp 13) (.tmp 26) rfl rfl w.heap.size _ k Z _ rfl own0 _ rfl rfl rfl (by omega) hsz0 ?_;intro v' w' own1 hbx;have hbn:Below w.heap.size wr w':=hb0.trans hbx))
    clear hS hb0 r1 r2 q q1 q2 q3 e1 e2
    go_wp2
    go_roundw
    case rel=>exact ⟨k+1,m1,by go_num,own1,b.trans hbn⟩
    case measure=>simp [intOf];omega
  · obtain rfl:k=16:=by omega
    obtain ⟨g3,cap3,hv3,hg,hgl,hcap3,hrow3⟩:=own.form.resolve_left (fun h=>by omega)
    subst hv3
    clear hX hK hZe own hcell hrow
    go_wp2
    go_ret
    exact ⟨_,rfl,⟨g3,cap3,rfl,hg,hcap3,hrow3⟩,b⟩
theorem add_any (v u:Value) (X K:Nat→Nat) (r:Nat) (hr:r≤10) (hX:B16 X) (hK:∀ j,K j<256) (w:World) (hv:BytesIn w v 16 X) (hu:RowS w u 176 K) :
 Calls Try.prog 49 #[v,u,.int .i64 r] w fun e w'=>∃ s,e = .returned s∧RowS w' s 16 (addN K r X)∧Below w.heap.size w w' :=
 (add_fresh v u X K r hr hX hK w hv hu).mono fun _ _ ⟨s,he,hr,hb⟩=>⟨s,he,hr.row,hb⟩
set_option maxRecDepth 20000 in
set_option maxHeartbeats 4000000 in
theorem rthrough_any (v u:Value) (X S:Nat→Nat) (hX:B16 X) (w:World) (hv:RowS w v 16 X) (hu:RowS w u 256 S) :
 Calls Try.prog 51 #[v,u] w fun e w'=>∃ s,e = .returned s∧RowS w' s 16 (thrN S X)∧Below w.heap.size w w':=by
 obtain ⟨bb,cb,rfl,hcb,hrow1⟩:=hv
 obtain ⟨gk,ck,rfl,hck,hrow⟩:=hu
 obtain ⟨Z,hZ⟩:∃ Z,Z=thrN S X:=⟨_,rfl⟩
 have hZe:∀ j,S (X j)=Z j:=fun j=>by rw [hZ];rfl
 rw [←hZ]
 clear hZ
 go_enter Try.func51,Try.ntmps51
 go_wp2
 go_loopw [5,6] (fun o i wr=>∃ k:Nat,k≤16∧i = .int .i64 k∧Own w.heap.size wr o k Z∧Below w.heap.size w wr) (fun _ i _=>16 - (intOf i).toNat)
 case atStart=>exact ⟨0,Nat.zero_le _,rfl,Own.nil _ _ _,Below.refl _ _⟩
 case round =>
  obtain ⟨k,hk,rfl,own,b⟩:=hrel
  by_cases hlt:k<16
  · obtain ⟨r1,-⟩:=(hrow1.still b) k hlt
    have hxk:=hX k hlt
    obtain ⟨r2,-⟩:=(hrow.still b) (X k) hxk
    rw [Nat.zero_add] at r1 r2
    rw [hZe] at r2
    have q3:(0:Int)≤(k:Int)∧(k:Int)<16:=by omega
    have q4:(0:Int)≤(X k:Int)∧(X k:Int)<256:=by omega
    have hs:=b.size
    have m1:k+1≤16:=by omega
    clear hrow1 hrow hX hZe
    go_wp2_with (at_builtin;refine wpList_append_next rfl (.tmp 11) (.tmp 19) rfl w.heap.size _ k Z _ rfl own rfl rfl (by omega) hs ?_;intro v2 w2 own2 hb2;(have b2:=b.trans hb2);clear own)
    go_roundw
    case rel=>exact ⟨k+1,m1,by go_num,own2,b2⟩
    case measure=>simp [intOf];omega
  · obtain rfl:k=16:=by omega
    obtain ⟨g3,cap3,hv3,hg,hgl,hcap3,hrow3⟩:=own.form.resolve_left (fun h=>by omega)
    subst hv3
    clear hX hZe own hrow hrow1
    go_wp2
    go_ret
    exact ⟨_,rfl,⟨g3,cap3,rfl,hcap3,hrow3⟩,b⟩
set_option maxRecDepth 20000 in
set_option maxHeartbeats 4000000 in
theorem rows1_any (v:Value) (X:Nat→Nat) (w:World) (hv:RowS w v 16 X) :
 Calls Try.prog 50 #[v,.int .i64 1] w fun e w'=>∃ s,e = .returned s∧RowS w' s 16 (rowN 1 X)∧Below w.heap.size w w':=by
 obtain ⟨bb,cb,rfl,hcb,hrow⟩:=hv
 have hbb:bb<w.heap.size:=block_lt_of_cell (hrow 0 (by decide)).1
 have hmk:=make_bytes w 16 16 rfl (by decide)
 have hT0:=RowAt.zero w 16 5
 have hb1:Below w.heap.size w (w.alloc (.cells (zb 16) 5)):=(Below.refl _ _).alloc (Nat.le_refl _) _
 obtain ⟨Z,hZ⟩:∃ Z,Z=rowN 1 X:=⟨_,rfl⟩
 have hZe:∀ c r,c<4→r<4→X (4*((c+r)%4)+r)=Z (4*c+r):=fun c r hc hr=>by
  rw [hZ]
  unfold rowN
  rw [show (4*c+r) / 4=c by omega,show (4*c+r)%4=r by omega,Nat.mul_one]
 rw [←hZ]
 replace hrow:=hrow.still hb1
 generalize w.alloc (.cells (zb 16) 5)=U at *
 clear hZ
 go_enter Try.func50,Try.ntmps50
 go_wp2_with (rw [hmk])
 go_loopw [6] (fun i wr=>∃ c:Nat,c≤4∧i = .int .i64 c∧RowAt .u8 wr w.heap.size 0 16 (pr Z (fun _=>0) (4*c))∧RowAt .u8 wr bb 0 16 X∧Below w.heap.size w wr) (fun i _=>4 - (intOf i).toNat)
 case atStart=>exact ⟨0,Nat.zero_le _,rfl,hT0,hrow,hb1⟩
 case round =>
  clear hT0 hrow hb1 hmk
  obtain ⟨c,hc,rfl,hT,hrow,b⟩:=hrel
  by_cases hlt:c<4
  · have hci:(c:Int)<4:=by omega
    go_wp2
    go_loopw [7] (fun i wq=>∃ r:Nat,r≤4∧i = .int .i64 r∧RowAt .u8 wq w.heap.size 0 16 (pr Z (fun _=>0) (4*c+r))∧RowAt .u8 wq bb 0 16 X∧Below w.heap.size w wq) (fun i _=>4 - (intOf i).toNat)
    case atStart=>exact ⟨0,Nat.zero_le _,rfl,hT,hrow,b⟩
    case round =>
     clear hT hrow b
     obtain ⟨r,hr,rfl,hT,hrow,b⟩:=hrel
     by_cases hlr:r<4
     · obtain ⟨r1,-⟩:=hrow (4*((c+r)%4)+r) (by omega)
       rw [Nat.zero_add,hZe c r hlt hlr] at r1
       obtain ⟨r2,f2⟩:=hT (4*c+r) (by omega)
       rw [Nat.zero_add] at r2 f2
       have hs:=hT.next (k:=4*c+r) (by omega) (v:=(Z (4*c+r):Int)) rfl
       have p1:(4*(c:Int)+(r:Int)).toNat=4*c+r:=by omega
       have p2:(0:Int)≤4*(c:Int)+(r:Int)∧4*(c:Int)+(r:Int)<16:=by omega
       have p0:4*(((c:Int)+(r:Int))%4)+(r:Int)=((4*((c+r)%4)+r:Nat):Int):=by push_cast;simp
       have p3:(4*(((c:Int)+(r:Int))%4)+(r:Int)).toNat=4*((c+r)%4)+r:=by rw [p0,Int.toNat_natCast]
       have p4:(0:Int)≤4*(((c:Int)+(r:Int))%4)+(r:Int)∧4*(((c:Int)+(r:Int))%4)+(r:Int)<16:=by omega
       have m1:r+1≤4:=by omega
       clear hZe p0
       go_wp2
       go_roundw
       case rel=>exact ⟨r+1,m1,by go_num,hs,hrow.far (by show w.heap.size≠bb;omega) _,b.setCell (Nat.le_refl _) _⟩
       case measure=>simp [intOf];omega
     · obtain rfl:r=4:=by omega
       have m1:c+1≤4:=by omega
       clear hZe
       go_wp2
       go_roundw
       case rel=>exact ⟨c+1,m1,by go_num,hT,hrow,b⟩
       case measure=>simp [intOf];omega
  · obtain rfl:c=4:=by omega
    have hT':=hT.congr (fun j hj=>pr_full Z _ hj)
    clear hZe hT
    go_wp2
    go_ret
    exact ⟨_,rfl,⟨w.heap.size,16,rfl,Nat.le_refl _,hT'⟩,b⟩
end Go.Proofs.Ytalgabgofpmebaa
