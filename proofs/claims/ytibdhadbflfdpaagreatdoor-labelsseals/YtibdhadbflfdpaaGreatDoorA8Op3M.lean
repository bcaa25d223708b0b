/- What the proof stands on: A8Op3, A8Nxt, A8Rks, A8Kys, A8Bad, A8RT, A8Thr, A8Stp. -/
import Derived.Test.YtibdhadbflfdpaaGreatDoorA8MathM
import Derived.Test.YtibdhadbflfdpaaGreatDoorPNumM
namespace Go.Proofs.YtibdhadbflfdpaaGreatDoor
open Go.RowKit
theorem mx_idx (k:Nat) (hk:k<16):∃ s:Nat,s=k - k%4∧s+3<16∧(k:Int) - (k:Int)%4=(s:Int)∧∃ n:Nat,n<16∧n=s+(k+1)%4∧(s:Int)+((k:Int)+1)%4=(n:Int) :=
 ⟨k - k%4,rfl,by omega,by omega,k - k%4+(k+1)%4,by omega,rfl,by omega⟩
set_option maxRecDepth 20000 in
set_option maxHeartbeats 4000000 in
theorem mixed_any (X:Nat→Nat) (hX:B16 X) (w:World) :
 Calls Tryz.prog 282 #[sqV X] w fun e w'=>e = .returned (sqV (mxN X))∧Below w.heap.size w w':=by
 have hz:=zeroS
 have hi3:=infoS X
 have hix:=fun k hk=>index_u8 Tryz.underlying286 X k hk .i64
 obtain ⟨V,hV,hVs,hbV,hA0,hB0⟩:=two_new X (fun _=>0) w (zb 16) zb16 286 286
 obtain ⟨W,hW⟩:∃ W,W=V.alloc (.cells (zb 16) 286):=⟨_,rfl⟩
 have hbW:Below w.heap.size w W:=by rw [hW];exact hbV.alloc (by omega) _
 have hA:RowAt .u8 W w.heap.size 0 16 X:=by rw [hW];exact hA0.alloc (by omega) _
 have hB:RowAt .u8 W (w.heap.size+1) 0 16 (fun _=>0):=by rw [hW];exact hB0.alloc (by omega) _
 have hC:RowAt .u8 W (w.heap.size+1+1) 0 16 (fun _=>0):=by rw [hW,←hVs];exact RowAt.zero V 16 _
 rw [←hV] at hW
 have HW:=Hid.mk' hW
 have hAr:=hA.range
 unfold sqV
 obtain ⟨Z,hZ⟩:∃ Z:Nat→Nat,Z=mxN X:=⟨_,rfl⟩
 rw [←hZ]
 have HZ:=Hid.mk' hZ
 clear hW hV hZ hA0 hB0 hbV hVs
 go_enter Tryz.func282,Tryz.ntmps282
 go_wp2_with (first
  | (rw [←HW.out];refine wpList_load_mid rfl 286 _ rfl w.heap.size 0 rfl (ints .u8 16 X) _ hAr Tryz.underlying286 rfl hi3 ?_))
 go_loopw [9] (fun i wr=>∃ k:Nat,k≤16∧i = .int .i64 k∧RowAt .u8 wr w.heap.size 0 16 X∧RowAt .u8 wr (w.heap.size+1) 0 16 (fun _=>0)∧RowAt .u8 wr (w.heap.size+1+1) 0 16 (pr Z (fun _=>0) k)∧Below w.heap.size w wr) (fun i _=>16 - (intOf i).toNat)
 case atStart=>exact ⟨0,Nat.zero_le _,rfl,hA,hB,hC,hbW⟩
 case round =>
  clear hA hB hC hbW hz hAr
  obtain ⟨k,hk,rfl,hA,hB,hC,hb⟩:=hrel
  by_cases hlt:k<16
  · have ek:Z k=mx1 (X (k - k%4)) (X (k - k%4+1)) (X (k - k%4+2)) (X (k - k%4+3)) (X k) (X (k - k%4+(k+1)%4)):=by rw [HZ.out];rfl
    obtain ⟨s,hs,hs3,es,n,hn,hn',en⟩:=mx_idx k hlt
    rw [←hs,←hn'] at ek
    have hi:=hix k hlt
    obtain ⟨rk,fk⟩:=hC k hlt
    obtain ⟨r0,-⟩:=hA s (by omega)
    obtain ⟨r1,-⟩:=hA (s+1) (by omega)
    obtain ⟨r2,-⟩:=hA (s+2) (by omega)
    obtain ⟨r3,-⟩:=hA (s+3) (by omega)
    obtain ⟨r4,-⟩:=hA n hn
    rw [Nat.zero_add] at rk fk r0 r1 r2 r3 r4
    have b0:=hX s (by omega)
    have b1:=hX (s+1) (by omega)
    have b2:=hX (s+2) (by omega)
    have b3:=hX (s+3) (by omega)
    have b4:=hX n hn
    have bk:=hX k hlt
    have hst:=hC.drew.next hlt (v:=(Z k:Int)) rfl
    generalize X s=x0 at *
    generalize X (s+1)=x1 at *
    generalize X (s+2)=x2 at *
    generalize X (s+3)=x3 at *
    generalize X n=x4 at *
    generalize X k=x at *
    have q1:=u8_xor_nat x0 x1 b0 b1
    have q2:=u8_xor_nat (x0 ^^^ x1) x2 (xor_byte b0 b1) b2
    have q3:=u8_xor_nat (x0 ^^^ x1 ^^^ x2) x3 (xor_byte (xor_byte b0 b1) b2) b3
    have hsum:=xor_byte (xor_byte (xor_byte b0 b1) b2) b3
    have q4:=u8_xor_nat x (x0 ^^^ x1 ^^^ x2 ^^^ x3) bk hsum
    have q5:=u8_xor_nat x x4 bk b4
    have hxy:=xor_byte bk b4
    have cd:=double_any (x ^^^ x4) hxy
    have q6:=u8_xor_nat (x ^^^ (x0 ^^^ x1 ^^^ x2 ^^^ x3)) (dbN (x ^^^ x4)) (xor_byte bk hsum) (db_all _ hxy).2.2.2.2.1
    rw [show x ^^^ (x0 ^^^ x1 ^^^ x2 ^^^ x3) ^^^ dbN (x ^^^ x4)=Z k from ek.symm] at q6
    generalize dbN (x ^^^ x4)=d at *
    generalize x ^^^ (x0 ^^^ x1 ^^^ x2 ^^^ x3)=y at *
    generalize x0 ^^^ x1 ^^^ x2 ^^^ x3=s3 at *
    generalize x0 ^^^ x1 ^^^ x2=s2 at *
    generalize x0 ^^^ x1=s1 at *
    generalize x ^^^ x4=z at *
    have p1:(((s:Int)+1)).toNat=s+1:=by omega
    have p2:(((s:Int)+2)).toNat=s+2:=by omega
    have p3:(((s:Int)+3)).toNat=s+3:=by omega
    have i1:(0:Int)≤(s:Int)+1∧(s:Int)+1<16:=by omega
    have i2:(0:Int)≤(s:Int)+2∧(s:Int)+2<16:=by omega
    have i3:(0:Int)≤(s:Int)+3∧(s:Int)+3<16:=by omega
    clear hix ek hsum hxy b0 b1 b2 b3 b4 bk hs hn'
    go_wp2_with (rw [hi])
    go_region
    go_wp2_with (go_at_call 289;refine (cd _).mono ?_;clear cd;rintro e w1 ⟨rfl,hw1⟩;subst hw1)
    go_roundw
    case rel=>exact ⟨k+1,by omega,by go_num,hA.drew.far (by show w.heap.size+1+1≠w.heap.size;omega) _,hB.drew.far (by show w.heap.size+1+1≠w.heap.size+1;omega) _,hst,hb.drew.setCell (by show w.heap.size≤w.heap.size+1+1;omega) _⟩
    case measure=>simp [intOf];omega
  · obtain rfl:k=16:=by omega
    have hA':RowAt .u8 wr (w.heap.size+1+1) 0 16 Z:=hC.congr (fun j hj=>pr_full Z _ hj)
    have hi1:=infoS Z
    have hi2:=infoSA Z
    have ho:=oneU 16 Z
    have hth:wr.there (w.heap.size+1) 0 (ints .u8 16 Z).toArray.size:=by rw [ints_size];exact hB.there
    go_wp2_with (first
     | (refine wpList_load_mid rfl 286 _ rfl (w.heap.size+1+1) 0 rfl (ints .u8 16 Z) _ hA'.range Tryz.underlying286 rfl hi1 ?_)
     | (refine wpList_store_mid rfl 286 _ _ rfl (w.heap.size+1) 0 (ints .u8 16 Z).toArray rfl rfl hth hi2 ho ?_))
    (try simp only [Exit.inBlock,Exit.then])
    refine bodyPost_ret (results_cell_mid Tryz.results282 _ _ (w.heap.size+1) 0 (ints .u8 16 Z) _ rfl (World.rangeAt_setCells_same _ _ _ _ (by rw [ints_len];exact hB.there)) Tryz.underlying286 rfl hi1) rfl ⟨rfl,?_⟩
    exact below_setCells (by omega) _ _ _ hb
theorem ints_S {X Y:Nat→Nat} (h:S16 X Y):ints .u8 16 X=ints .u8 16 Y:=ints_congr _ _ _ _ h
theorem sqV_S {X Y:Nat→Nat} (h:S16 X Y):sqV X=sqV Y:=by unfold sqV;rw [ints_S h]
end Go.Proofs.YtibdhadbflfdpaaGreatDoor
namespace Go.Proofs.YtibdhadbflfdpaaGreatDoor
open Go.RowKit
def wdK (X:Nat→Nat) (p k r:Nat):Nat:=if k≤r then wd0 X p r else nxN X p (r+4*((k - 1 - r) / 4))
theorem wdK_at (X:Nat→Nat) (p k:Nat):wdK X p k (k%4) ^^^ X k=nxN X p k:=by
 unfold wdK
 by_cases h:k<4
 · rw [if_pos (by omega),nxN_lo X p k h,show k%4=k by omega]
 · rw [if_neg (by omega),nxN_hi X p k (by omega),show k%4+4*((k - 1 - k%4) / 4)=k - 4 by omega]
theorem wdK_step (X:Nat→Nat) (p k r:Nat) (hr:r<4):upd (wdK X p k) (k%4) (nxN X p k) r=wdK X p (k+1) r:=by
 unfold upd wdK
 by_cases e:r=k%4
 · rw [if_pos e,if_neg (by omega),show r+4*((k+1 - 1 - r) / 4)=k by omega]
 · rw [if_neg e]
   by_cases h:k≤r
   · rw [if_pos h,if_pos (by omega)]
   · rw [if_neg h,if_neg (by omega),show (k+1 - 1 - r) / 4=(k - 1 - r) / 4 by omega]
theorem wd0_lt {X:Nat→Nat} {p:Nat} (hX:B16 X) (hp:p<256) (k:Nat) (hk:k<4):wd0 X p k<256:=by
 unfold wd0
 split
 · exact xor_byte (box_all _ (hX 13 (by decide))).2.2.1 hp
 · split
   · exact (box_all _ (hX 12 (by decide))).2.2.1
   · exact (box_all _ (hX (13+k) (by omega))).2.2.1
theorem nxN_B {X:Nat→Nat} {p:Nat} (hX:B16 X) (hp:p<256):B16 (nxN X p):=by
 intro j
 induction j using Nat.strongRecOn with
 | ind j ih =>
  intro hj
  by_cases h:j<4
  · rw [nxN_lo _ _ _ h];exact xor_byte (wd0_lt hX hp j h) (hX j hj)
  · rw [nxN_hi _ _ _ (by omega)];exact xor_byte (ih (j - 4) (by omega) (by omega)) (hX j hj)
theorem wdK_lt {X:Nat→Nat} {p:Nat} (hX:B16 X) (hp:p<256) (k r:Nat) (hk:k≤16) (hr:r<4):wdK X p k r<256:=by
 unfold wdK
 split
 · exact wd0_lt hX hp r hr
 · exact nxN_B hX hp _ (by omega)
theorem zero4 (w:World):Sem.run Tryz.prog (zeroValue 302) w = .ok (.agg (zb 4)) w:=by kernel_rfl
theorem four_row {w:World} {g:Nat} {Y:Nat→Nat} (h:RowAt .u8 w g 0 4 Y) (a b c d:Nat):RowAt .u8 (w.setCells g 0 [.int .u8 a,.int .u8 b,.int .u8 c,.int .u8 d]) g 0 4 (fun r=>[a,b,c,d].getD r 0) :=
 h.stored (L:=fun r=>[a,b,c,d].getD r 0)
set_option maxRecDepth 20000 in
set_option maxHeartbeats 4000000 in
theorem next_any (X:Nat→Nat) (p:Nat) (hX:B16 X) (hp:p<256) (w:World) :
 Calls Tryz.prog 288 #[sqV X,.int .u8 p] w fun e w'=>e = .returned (sqV (nxN X p))∧Below w.heap.size w w':=by
 have hz:=zeroS
 have hz4:=zero4
 have hi3:=infoS X
 obtain ⟨W,hW,hWs,hbW,hA,hC⟩:=two_new X (fun _=>0) w (zb 16) zb16 286 286
 have HW:=Hid.mk' hW.symm
 have hAr:=hA.range
 have cb:=boxed_any X hX W
 obtain ⟨F,hF⟩:∃ F,F=thrN boxN X:=⟨_,rfl⟩
 rw [←hF] at cb
 have HF:∀ j,boxN (X j)=F j:=fun j=>by rw [hF];rfl
 have hFB:B16 F:=by rw [hF];exact box_B hX
 obtain ⟨Z,hZ⟩:∃ Z:Nat→Nat,Z=nxN X p:=⟨_,rfl⟩
 obtain ⟨D,hD⟩:∃ D:Nat→Nat→Nat,D=wdK X p:=⟨_,rfl⟩
 have hDa:∀ k,D k (k%4) ^^^ X k=Z k:=fun k=>by rw [hD,hZ];exact wdK_at X p k
 have hDs:∀ k r,r<4→upd (D k) (k%4) (Z k) r=D (k+1) r:=fun k r hr=>by rw [hD,hZ];exact wdK_step X p k r hr
 have hDl:∀ k r,k≤16→r<4→D k r<256:=fun k r hk hr=>by rw [hD];exact wdK_lt hX hp k r hk hr
 have hD0:∀ r,r<4→[F 13 ^^^ p,F 14,F 15,F 12].getD r 0=D 0 r:=fun r hr=>by
  rw [hD,←HF,←HF,←HF,←HF]
  rcases (show r=0∨r=1∨r=2∨r=3 by omega) with rfl | rfl | rfl | rfl <;> rfl
 rw [←hZ]
 have hq:=u8_xor_nat (F 13) p (hFB 13 (by decide)) hp
 have hj2:=infoSA F
 have hjo:=oneU 16 F
 have HD0:=Hid.mk' hD0
 have HDs:=Hid.mk' hDs
 unfold sqV at *
 clear hW hF hZ hD HF hD0 hDs
 generalize F 13 ^^^ p=f0 at *
 go_enter Tryz.func288,Tryz.ntmps288
 go_upto_region 2 with (first
  | (rw [←HW.out];refine wpList_load_mid rfl 286 _ rfl w.heap.size 0 rfl (ints .u8 16 X) _ hAr Tryz.underlying286 rfl hi3 ?_)
  | (go_at_call 280;refine cb.mono ?_;clear cb;rintro e w1 ⟨rfl,hb1⟩;(have hT1:=RowAt.zero w1 16 286);(have hth:(w1.alloc (.cells (zb 16) 286)).there w1.heap.size 0 (ints .u8 16 F).toArray.size:=by rw [ints_size];exact hT1.there))
  | (refine wpList_store_mid rfl 286 _ _ rfl w1.heap.size 0 (ints .u8 16 F).toArray rfl rfl hth hj2 hjo ?_))
 dsimp only [Act.put]
 have hs1:=hb1.size
 have ba:Below w1.heap.size w1 (w1.alloc (.cells (zb 16) 286)):=(Below.refl _ _).alloc (Nat.le_refl _) _
 have hT2:=hT1.stored (L:=F)
 have hA2:=((hA.below hb1 (by omega)).below ba (by omega)).farCells (show w.heap.size≠w1.heap.size by omega) 0 (ints .u8 16 F)
 have hC2:=((hC.below hb1 (by omega)).below ba (by omega)).farCells (show w.heap.size+1≠w1.heap.size by omega) 0 (ints .u8 16 F)
 have b2:=below_setCells (show w.heap.size≤w1.heap.size by omega) (ints .u8 16 F) 0 _ ((hbW.trans (hb1.mono hbW.size)).trans (ba.mono (by omega)))
 have hV1:((w1.alloc (.cells (zb 16) 286)).setCells w1.heap.size 0 (ints .u8 16 F)).heap.size=w1.heap.size+1:=by rw [(setCells_same _ _ _ _).2.2.2];simp
 have hg:w.heap.size+1<w1.heap.size:=by omega
 generalize (w1.alloc (.cells (zb 16) 286)).setCells w1.heap.size 0 (ints .u8 16 F)=V at *
 generalize w1.heap.size=g at *
 obtain ⟨r13,-⟩:=hT2 13 (by decide)
 obtain ⟨r14,-⟩:=hT2 14 (by decide)
 obtain ⟨r15,-⟩:=hT2 15 (by decide)
 obtain ⟨r12,-⟩:=hT2 12 (by decide)
 rw [Nat.zero_add] at r13 r14 r15 r12
 have hU:=RowAt.zero V 4 302
 have bv:Below V.heap.size V (V.alloc (.cells (zb 4) 302)):=(Below.refl _ _).alloc (Nat.le_refl _) _
 have hA3:=hA2.below bv (by omega)
 have hC3:=hC2.below bv (by omega)
 have b3:=b2.trans (bv.mono b2.size)
 rw [hV1] at hU
 have hth4:(V.alloc (.cells (zb 4) 302)).there (g+1) 0 (#[.int .u8 f0,.int .u8 (F 14),.int .u8 (F 15),.int .u8 (F 12)]:Array Value).size:=hU.there
 have hi4:(Tryz.prog.info? 302).map (·.size)=some (#[.int .u8 f0,.int .u8 (F 14),.int .u8 (F 15),.int .u8 (F 12)]:Array Value).size:=by kernel_rfl
 have ho4:(#[.int .u8 f0,.int .u8 (F 14),.int .u8 (F 15),.int .u8 (F 12)]:Array Value).all (·.oneCell')=true:=by simp [Value.oneCell']
 clear hT1 hth hA hC hbW hb1 hs1 ba hT2 hA2 hC2 b2 bv hWs hAr hj2 hjo hz
 go_upto_region 3 with (refine wpList_store_mid rfl 302 _ _ rfl (g+1) 0 #[.int .u8 f0,.int .u8 (F 14),.int .u8 (F 15),.int .u8 (F 12)] rfl rfl hth4 hi4 ho4 ?_)
 dsimp only [Act.put]
 have hU4:=(four_row hU f0 (F 14) (F 15) (F 12)).congr HD0.out
 have hA4:=hA3.farCells (show w.heap.size≠g+1 by omega) 0 [.int .u8 f0,.int .u8 (F 14),.int .u8 (F 15),.int .u8 (F 12)]
 have hC4:=hC3.farCells (show w.heap.size+1≠g+1 by omega) 0 [.int .u8 f0,.int .u8 (F 14),.int .u8 (F 15),.int .u8 (F 12)]
 have b4:=below_setCells (show w.heap.size≤g+1 by omega) [.int .u8 f0,.int .u8 (F 14),.int .u8 (F 15),.int .u8 (F 12)] 0 _ b3
 generalize (V.alloc (.cells (zb 4) 302)).setCells (g+1) 0 [.int .u8 f0,.int .u8 (F 14),.int .u8 (F 15),.int .u8 (F 12)]=U at *
 clear hth4 hi4 ho4 hU hA3 hC3 b3 r12 r13 r14 r15 hz4 HD0
 go_wp2
 go_loopw [21] (fun i wr=>∃ k:Nat,k≤16∧i = .int .i64 k∧RowAt .u8 wr w.heap.size 0 16 (pr Z X k)∧RowAt .u8 wr (g+1) 0 4 (D k)∧RowAt .u8 wr (w.heap.size+1) 0 16 (fun _=>0)∧Below w.heap.size w wr) (fun i _=>16 - (intOf i).toNat)
 case atStart=>exact ⟨0,Nat.zero_le _,rfl,hA4,hU4,hC4,b4⟩
 case round =>
  clear hA4 hU4 hC4 b4
  obtain ⟨k,hk,rfl,hA,hU,hC,hb⟩:=hrel
  by_cases hlt:k<16
  · obtain ⟨rk,fk⟩:=hA k hlt
    rw [Nat.zero_add] at rk fk
    rw [pr_at] at rk
    obtain ⟨rd,fd⟩:=hU (k%4) (by omega)
    rw [Nat.zero_add] at rd fd
    have q:=u8_xor_nat (D k (k%4)) (X k) (hDl k _ hk (by omega)) (hX k hlt)
    rw [hDa k] at q
    have q1:((k:Int)%4).toNat=k%4:=by omega
    have q2:(0:Int)≤(k:Int)%4∧(k:Int)%4<4:=by omega
    have hU5:=hU.set (i:=k%4) (by omega) (v:=(Z k:Int)) (u:=Z k) rfl
    rw [Nat.zero_add] at hU5
    replace hU5:=(hU5.congr (HDs.out k)).drew
    have hA5:=(hA.far (a:=⟨g+1,k%4,none⟩) (by show g+1≠w.heap.size;omega) (.int .u8 (Z k:Int))).drew.next hlt (v:=(Z k:Int)) rfl
    have hC5:=(hC.far (a:=⟨g+1,k%4,none⟩) (by show g+1≠w.heap.size+1;omega) (.int .u8 (Z k:Int))).drew
    have b5:=(hb.setCell (p:=⟨g+1,k%4,none⟩) (by show w.heap.size≤g+1;omega) (.int .u8 (Z k:Int))).drew
    have n1:¬w.heap.size=g+1:=by omega
    have n2:¬g+1=w.heap.size:=by omega
    clear hDa HDs hDl hX hFB hU hA hC hb hq
    go_wp2
    go_region
    go_wp2
    go_roundw
    case rel=>exact ⟨k+1,by omega,by go_num,hA5,hU5.far (by show w.heap.size≠g+1;omega) _,hC5.far (by show w.heap.size≠w.heap.size+1;omega) _,b5.setCell (Nat.le_refl _) _⟩
    case measure=>simp [intOf];omega
  · obtain rfl:k=16:=by omega
    have hA':RowAt .u8 wr w.heap.size 0 16 Z:=hA.congr (fun j hj=>pr_full Z X hj)
    have hi1:=infoS Z
    have hi2:=infoSA Z
    have ho:=oneU 16 Z
    have hth:wr.there (w.heap.size+1) 0 (ints .u8 16 Z).toArray.size:=by rw [ints_size];exact hC.there
    clear hDa HDs hDl hX hFB hq
    go_wp2_with (first
     | (refine wpList_load_mid rfl 286 _ rfl w.heap.size 0 rfl (ints .u8 16 Z) _ hA'.range Tryz.underlying286 rfl hi1 ?_)
     | (refine wpList_store_mid rfl 286 _ _ rfl (w.heap.size+1) 0 (ints .u8 16 Z).toArray rfl rfl hth hi2 ho ?_))
    (try simp only [Exit.inBlock,Exit.then])
    refine bodyPost_ret (results_cell_mid Tryz.results288 _ _ (w.heap.size+1) 0 (ints .u8 16 Z) _ rfl (World.rangeAt_setCells_same _ _ _ _ (by rw [ints_len];exact hC.there)) Tryz.underlying286 rfl hi1) rfl ⟨rfl,?_⟩
    exact below_setCells (by omega) _ _ _ hb
end Go.Proofs.YtibdhadbflfdpaaGreatDoor
namespace Go.Proofs.YtibdhadbflfdpaaGreatDoor
open Go.RowKit
theorem zeroK (w:World):Sem.run Tryz.prog (zeroValue 287) w = .ok (.agg (zb 176)) w:=by kernel_rfl
theorem infoK (X:Nat→Nat):(Tryz.prog.info? 287).map (·.size)=some (ints .u8 176 X).length:=by rw [ints_len];kernel_rfl
theorem infoKA (X:Nat→Nat):(Tryz.prog.info? 287).map (·.size)=some (ints .u8 176 X).toArray.size:=by rw [ints_size];kernel_rfl
theorem RowAt.part {K:IntKind} {w:World} {g n:Nat} {X:Nat→Nat} (h:RowAt K w g 0 n X) (a m:Nat) (hm:a+m≤n):RowAt K w g a m (fun j=>X (a+j)):=fun j hj=>by
 have:=h (a+j) (by omega)
 rwa [Nat.zero_add] at this
def kyV (key:Nat→Nat):Value := .agg (ints .u8 176 (kyN key)).toArray
theorem rc_db (n:Nat) (hn:n<10):dbN (rcN n)=rcN (n+1):=(db_all _ (rc_lt n hn)).2.1
set_option maxRecDepth 20000 in
set_option maxHeartbeats 4000000 in
theorem roundKeys_any (X:Nat→Nat) (hX:∀ j,X j<256) (w:World) :
 Calls Tryz.prog 276 #[sqV X] w fun e w'=>e = .returned (kyV X)∧Below w.heap.size w w':=by
 have hz:=zeroK
 have hi3:=infoS X
 have hKlt:=kyN_lt hX
 have hlo:=kyN_lo X
 have hnx:=ky_next X
 obtain ⟨W,hW⟩:∃ W,W=(w.alloc (.cells (ints .u8 16 X).toArray 286)).alloc (.cells (zb 176) 287):=⟨_,rfl⟩
 have hWs:W.heap.size=w.heap.size+1+1:=by rw [hW];simp
 have hbW:Below w.heap.size w W:=by rw [hW];exact ((Below.refl _ _).alloc (Nat.le_refl _) _).alloc (by simp) _
 have hA:RowAt .u8 W w.heap.size 0 16 X:=by rw [hW];exact (RowAt.box .u8 w 16 X _).alloc (by simp) _
 have hC:RowAt .u8 W (w.heap.size+1) 0 176 (fun _=>0):=by
  have:=RowAt.zero (w.alloc (.cells (ints .u8 16 X).toArray 286)) 176 287
  rw [World.size_alloc] at this
  rw [hW];exact this
 have HW:=Hid.mk' hW
 have hAr:=hA.range
 have hbuild:(ints .u8 176 (pr X (fun _=>0) 16))=(ints .u8 176 (pr (kyN X) (fun _=>0) 16)):=ints_congr _ _ _ _ (fun j _=>by
  unfold pr
  by_cases h:j<16
  · rw [if_pos h,if_pos h,hlo j h]
  · rw [if_neg h,if_neg h])
 unfold kyV sqV
 obtain ⟨Y,hY⟩:∃ Y,Y=kyN X:=⟨_,rfl⟩
 rw [←hY] at hbuild hKlt hnx ⊢
 obtain ⟨LK,hLK⟩:∃ LK,LK=ints .u8 176 Y:=⟨_,rfl⟩
 rw [←hLK]
 have HLK:=Hid.mk' hLK
 clear hLK
 obtain ⟨Z0,hZ0⟩:∃ Z0,Z0=ints .u8 176 (pr Y (fun _=>0) 16):=⟨_,rfl⟩
 have hj2:(Tryz.prog.info? 287).map (·.size)=some Z0.toArray.size:=by rw [hZ0];exact infoKA _
 have hjo:Z0.toArray.all (·.oneCell')=true:=by rw [hZ0];exact oneU 176 _
 have hWT:=RowAt.zero W 176 287
 have hth:(W.alloc (.cells (zb 176) 287)).there W.heap.size 0 Z0.toArray.size:=by rw [hZ0,ints_size];exact hWT.there
 have hT0:=hWT.stored (L:=pr Y (fun _=>0) 16)
 have bw:Below W.heap.size W (W.alloc (.cells (zb 176) 287)):=(Below.refl _ _).alloc (Nat.le_refl _) _
 have hC0:=(hC.below bw (by omega)).farCells (show w.heap.size+1≠W.heap.size by omega) 0 (ints .u8 176 (pr Y (fun _=>0) 16))
 have b0:=below_setCells (show w.heap.size≤W.heap.size by omega) (ints .u8 176 (pr Y (fun _=>0) 16)) 0 _ (hbW.trans (bw.mono hbW.size))
 have hs0:W.heap.size<((W.alloc (.cells (zb 176) 287)).setCells W.heap.size 0 (ints .u8 176 (pr Y (fun _=>0) 16))).heap.size:=by rw [(setCells_same _ _ _ _).2.2.2];simp
 rw [←hZ0] at hbuild hT0 hC0 b0 hs0
 have HB:=Hid.mk' hbuild
 rw [hWs] at hth hT0 hC0 b0 hs0
 have cn:=fun k (hk:k<10)=>next_any (fun j=>Y (k*16+j)) (rcN k) (fun j _=>hKlt _) (rc_lt k hk)
 have hnS:∀ k,k<10→S16 (nxN (fun j=>Y (k*16+j)) (rcN k)) (fun j=>Y ((k+1)*16+j)):=fun k hk j hj=>by
  have:=hnx k hk j hj
  rw [Nat.mul_comm 16 k,Nat.mul_comm 16 (k+1)] at this
  exact this
 have cn':∀ k,k<10→∀ W,Calls Tryz.prog 288 #[.agg (ints .u8 16 (fun j=>Y (k*16+j))).toArray,.int .u8 (rcN k)] W fun e w'=>e = .returned (.agg (ints .u8 16 (fun j=>Y ((k+1)*16+j))).toArray)∧Below W.heap.size W w':=fun k hk W=>by
  have h:=cn k hk W
  rw [sqV_S (hnS k hk)] at h
  exact h
 have cd:∀ k,k<10→∀ W,Calls Tryz.prog 289 #[.int .u8 (rcN k)] W fun e w'=>e = .returned (.int .u8 (rcN (k+1)))∧w'=W:=fun k hk W=>by
  have h:=double_any (rcN k) (rc_lt k hk) W
  rw [rc_db k hk] at h
  exact h
 have e1:rcN 0=1:=rfl
 generalize rcN=R at *
 clear hnS cn hnx hKlt hlo hX hY hZ0 hbuild hW hWT bw hA hC hbW
 go_enter Tryz.func276,Tryz.ntmps276
 go_upto_region 2 with (first
  | (rw [←HW.out];refine wpList_load_mid rfl 286 _ rfl w.heap.size 0 rfl (ints .u8 16 X) _ hAr Tryz.underlying286 rfl hi3 ?_)
  | (refine wpList_val (some 7) (.agg Z0.toArray) rfl rfl (by rw [←HB.out];kernel_rfl) ?_)
  | (refine wpList_store_mid rfl 287 _ _ rfl (w.heap.size+1+1) 0 Z0.toArray rfl rfl hth hj2 hjo ?_))
 dsimp only [Act.put]
 generalize (W.alloc (.cells (zb 176) 287)).setCells (w.heap.size+1+1) 0 Z0=V at *
 clear hth hj2 hjo HB HW hAr hWs hz hi3
 go_wp2
 go_loopw [4,5] (fun p i wr=>∃ k:Nat,k≤10∧p = .int .u8 (R k)∧i = .int .i64 ((k:Int)+1)∧RowAt .u8 wr (w.heap.size+1+1) 0 176 (pr Y (fun _=>0) ((k+1)*16))∧RowAt .u8 wr (w.heap.size+1) 0 176 (fun _=>0)∧Below w.heap.size w wr∧w.heap.size+1+1<wr.heap.size) (fun _ i _=>11 - (intOf i).toNat)
 case atStart=>exact ⟨0,Nat.zero_le _,by rw [e1];rfl,rfl,hT0,hC0,b0,hs0⟩
 case round =>
  clear hT0 hC0 b0 hs0 e1
  obtain ⟨k,hk,rfl,rfl,hT,hC,hb,hs⟩:=hrel
  by_cases hlt:k<10
  · have c1:=cn' k hlt wr
    have c2:=cd k hlt
    have hP:RowAt .u8 wr (w.heap.size+1+1) (k*16) 16 (fun j=>Y (k*16+j)):=(hT.part (k*16) 16 (by omega)).congr (fun j hj=>pr_full _ _ (by omega))
    have hPr:=hP.range
    have hi1:=infoS (fun j=>Y (k*16+j))
    have hi2:=infoSA (fun j=>Y ((k+1)*16+j))
    have ho:=oneU 16 (fun j=>Y ((k+1)*16+j))
    have q1:(k:Int)+1≤10:=by omega
    have q2:(k:Int)+1 - 1=k:=by omega
    have q3:(0:Int)≤(k:Int)∧(k:Int)<11:=by omega
    have q4:(0:Int)≤(k:Int)+1∧(k:Int)+1<11:=by omega
    have q5:((k:Int)+1).toNat=k+1:=by omega
    have hsp:∀ j,over (pr Y (fun _=>0) ((k+1)*16)) ((k+1)*16) 16 (fun j=>Y ((k+1)*16+j)) j=pr Y (fun _=>0) ((k+1+1)*16) j:=fun j=>by
     unfold over pr
     by_cases h1:(k+1)*16≤j∧j<(k+1)*16+16
     · rw [if_pos h1,if_pos (by omega)]
       show Y ((k+1)*16+(j - (k+1)*16))=Y j
       rw [show (k+1)*16+(j - (k+1)*16)=j by omega]
     · rw [if_neg h1]
       by_cases h2:j<(k+1)*16
       · rw [if_pos h2,if_pos (by omega)]
       · rw [if_neg h2,if_neg (by omega)]
    have hst:∀ W,RowAt .u8 W (w.heap.size+1+1) 0 176 (pr Y (fun _=>0) ((k+1)*16))→W.there (w.heap.size+1+1) ((k+1)*16) (ints .u8 16 (fun j=>Y ((k+1)*16+j))).toArray.size∧RowAt .u8 (W.setCells (w.heap.size+1+1) ((k+1)*16) (ints .u8 16 (fun j=>Y ((k+1)*16+j)))) (w.heap.size+1+1) 0 176 (pr Y (fun _=>0) ((k+1+1)*16)):=fun W h=>by
     refine ⟨by rw [ints_size];exact (h.part ((k+1)*16) 16 (by omega)).there,?_⟩
     have h1:=h.splice ((k+1)*16) 16 (fun j=>Y ((k+1)*16+j)) (by omega)
     rw [Nat.zero_add] at h1
     exact h1.congr (fun j _=>hsp j)
    have Hst:=Hid.mk' hst
    clear cn' cd hP hsp hst
    generalize ints .u8 16 (fun j=>Y (k*16+j))=LA at *
    generalize ints .u8 16 (fun j=>Y ((k+1)*16+j))=LB at *
    go_wp2_with (first
     | (refine wpList_load_mid rfl 286 _ rfl (w.heap.size+1+1) (k*16) rfl LA _ hPr Tryz.underlying286 rfl hi1 ?_)
     | (go_at_call 288;refine c1.mono ?_;clear c1;rintro e w1 ⟨rfl,hb1⟩;clear hPr;(have hT1:=hT.below hb1 hs);(have hC1:=hC.below hb1 (by omega));(have b1:=hb.trans (hb1.mono hb.size));(have hs1:=Nat.lt_of_lt_of_le hs hb1.size);(obtain ⟨hth,hT2⟩:=Hst.out w1 hT1);clear hT1)
     | (refine wpList_store_mid rfl 286 _ _ rfl (w.heap.size+1+1) ((k+1)*16) LB.toArray rfl rfl hth hi2 ho ?_)
     | (go_at_call 289;refine (c2 _).mono ?_;clear c2;rintro e w2 ⟨rfl,hw2⟩;subst hw2))
    go_roundw
    case rel =>
     exact ⟨k+1,by omega,rfl,by go_num,hT2,hC1.farCells (by omega) _ _,below_setCells (by omega) _ _ _ b1,by rw [(setCells_same _ _ _ _).2.2.2];exact hs1⟩
    case measure=>simp [intOf];omega
  · obtain rfl:k=10:=by omega
    have hA':RowAt .u8 wr (w.heap.size+1+1) 0 176 Y:=hT.congr (fun j hj=>pr_full _ _ hj)
    have hi1:=infoK Y
    have hi2:=infoKA Y
    have ho:=oneU 176 Y
    have hth:wr.there (w.heap.size+1) 0 (ints .u8 176 Y).toArray.size:=by rw [ints_size];exact hC.there
    have hth2:wr.there (w.heap.size+1) 0 (ints .u8 176 Y).length:=by rw [ints_len];exact hC.there
    have hAr:=hA'.range
    clear cn' cd hT hC hA'
    rw [←HLK.out] at hi1 hi2 ho hth hth2 hAr
    go_wp2_with (first
     | (refine wpList_load_mid rfl 287 _ rfl (w.heap.size+1+1) 0 rfl LK _ hAr Tryz.underlying287 rfl hi1 ?_)
     | (refine wpList_store_mid rfl 287 _ _ rfl (w.heap.size+1) 0 LK.toArray rfl rfl hth hi2 ho ?_))
    (try simp only [Exit.inBlock,Exit.then])
    refine bodyPost_ret (results_cell_mid Tryz.results276 _ _ (w.heap.size+1) 0 LK _ rfl (World.rangeAt_setCells_same _ _ _ _ hth2) Tryz.underlying287 rfl hi1) rfl ⟨rfl,?_⟩
    exact below_setCells (by omega) _ _ _ hb
end Go.Proofs.YtibdhadbflfdpaaGreatDoor
namespace Go.Proofs.YtibdhadbflfdpaaGreatDoor
open Go.RowKit
theorem squareOf_16 (v:Value) (bs:Nat→Nat) (w:World) (hv:BytesIn w v 16 bs):Calls Tryz.prog 277 #[v] w fun e w'=>e = .returned (.agg (ints .u8 16 bs).toArray)∧Below w.heap.size w w':=by
 have h:=squareOf_any v 16 bs w hv
 rw [sqV_S (fun j hj=>fit16_full bs hj)] at h
 exact h
end Go.Proofs.YtibdhadbflfdpaaGreatDoor
namespace Go.Proofs.YtibdhadbflfdpaaGreatDoor
open Go.RowKit
theorem rowB {w:World} {g n cap:Nat} {X:Nat→Nat} (h:RowAt .u8 w g 0 n X) (hn:0<n) (hc:n≤cap):BytesIn w (.slice (some ⟨g,0,none⟩) n cap) n X := .inr ⟨g,0,cap,rfl,block_lt_of_cell (h 0 hn).1,hc,fun j hj=>(h j hj).1⟩
end Go.Proofs.YtibdhadbflfdpaaGreatDoor
namespace Go.Proofs.YtibdhadbflfdpaaGreatDoor
open Go.RowKit
theorem i64_xor_nat (a b:Nat) (ha:a<2 ^ 62) (hb:b<2 ^ 62):bits .xor .i64 (a:Int) (b:Int)=((a ^^^ b:Nat):Int):=by
 have hp:2 ^ 62≤2 ^ IntKind.i64.bits:=by decide
 have ha':a%2 ^ IntKind.i64.bits=a:=Nat.mod_eq_of_lt (Nat.lt_of_lt_of_le ha hp)
 have hb':b%2 ^ IntKind.i64.bits=b:=Nat.mod_eq_of_lt (Nat.lt_of_lt_of_le hb hp)
 have hx:a ^^^ b<2 ^ 62:=Nat.xor_lt_two_pow ha hb
 simp only [bits,BitVec.ofInt_natCast,BitVec.toNat_xor,BitVec.toNat_ofNat,ha',hb']
 simp only [IntKind.wrap_i64]
 omega
theorem xt_ok:((List.range 256).all fun x=>decide (xt x<256))=true:=by kernel_rfl
theorem xt_lt (x:Nat) (hx:x<256):xt x<256:=by
 have h:=all256 xt_ok x hx
 simpa using h
theorem gmP_lt (a b:Nat) (ha:a<256):∀ k,(gmP b k a).1<256∧(gmP b k a).2<256
 | 0=>⟨(by decide:0<256),ha⟩
 | k+1=>by
  obtain ⟨h1,h2⟩:=gmP_lt a b ha k
  refine ⟨?_,xt_lt _ h2⟩
  show (if b / 2 ^ k%2=1 then (gmP b k a).1 ^^^ (gmP b k a).2 else (gmP b k a).1)<256
  split
  · exact xor_byte h1 h2
  · exact h1
theorem gm_lt (a b:Nat) (ha:a<256):gm a b<256:=(gmP_lt a b ha 8).1
set_option maxRecDepth 20000 in
set_option maxHeartbeats 4000000 in
theorem krtimes_any (a b:Nat) (ha:a<256) (hb:b<256) (w:World) :
 Calls Tryz.prog 284 #[.int .u8 a,.int .u8 b] w fun e w'=>e = .returned (.int .u8 (gm a b))∧w'=w:=by
 have hl:=gmP_lt a b ha
 have hg:gm a b=(gmP b 8 a).1:=rfl
 have hs:∀ k,(gmP b (k+1) a)=(if b / 2 ^ k%2=1 then (gmP b k a).1 ^^^ (gmP b k a).2 else (gmP b k a).1,xt (gmP b k a).2):=fun _=>rfl
 have h0:gmP b 0 a=(0,a):=rfl
 rw [hg]
 generalize (fun k=>gmP b k a)=Y at *
 obtain ⟨Y,hY⟩:∃ Y:Nat→Nat × Nat,Y=fun k=>gmP b k a:=⟨_,rfl⟩
 have e:∀ k,gmP b k a=Y k:=fun k=>by rw [hY]
 simp only [e] at hl hs h0 ⊢
 have HS:=Hid.mk' hs
 clear hY e hg hs
 go_enter Tryz.func284,Tryz.ntmps284
 go_wp2
 go_loopw [5,6,7] (fun p x i wr=>∃ k:Nat,k≤8∧p = .int .i64 ((Y k).1:Int)∧x = .int .i64 ((Y k).2:Int)∧i = .int .i64 k∧wr=w) (fun _ _ i _=>8 - (intOf i).toNat)
 case atStart=>exact ⟨0,Nat.zero_le _,by rw [h0];rfl,by rw [h0],rfl,rfl⟩
 case round =>
  clear h0
  obtain ⟨k,hk,rfl,rfl,rfl,hwr⟩:=hrel
  subst hwr
  by_cases hlt:k<8
  · obtain ⟨hP,hX⟩:=hl k
    have hn:=HS.out k
    generalize hYP:(Y k).1=P at *
    generalize hYX:(Y k).2=X at *
    have q1:=u8_and_nat (b / 2 ^ k) 1 (Nat.lt_of_le_of_lt (Nat.div_le_self _ _) hb) (by decide)
    rw [Nat.and_one_is_mod] at q1
    replace q1:bits .and .u8 ((b:Int) / 2 ^ k) 1=((b / 2 ^ k%2:Nat):Int):=by
     rw [←q1];simp
    have q2:=i64_xor_nat P X (by omega) (by omega)
    have q3:=i64_xor_nat (X*2) 283 (by omega) (by decide)
    replace q3:bits .xor .i64 ((X:Int)*2) 283=((X*2 ^^^ 283:Nat):Int):=q3
    have m1:k+1≤8:=by omega
    clear HS hl
    by_cases hbit:b / 2 ^ k%2=1
    · rw [hbit] at q1
      rw [if_pos hbit] at hn
      by_cases hx:255<X*2
      · have hx':(255:Int)<(X:Int)*2:=by omega
        have hxt:xt X=X*2 ^^^ 283:=if_pos hx
        rw [hxt] at hn
        generalize X*2 ^^^ 283=X2 at *
        generalize P ^^^ X=P2 at *
        clear hbit hx hxt
        go_wp2
        go_roundw
        case rel=>exact ⟨k+1,m1,by rw [hn],by rw [hn],by go_num,trivial⟩
        case measure=>simp [intOf];omega
      · have hx':¬(255:Int)<(X:Int)*2:=by omega
        have hxt:xt X=X*2:=if_neg hx
        rw [hxt] at hn
        generalize P ^^^ X=P2 at *
        clear hbit hx hxt
        go_wp2
        go_roundw
        case rel=>exact ⟨k+1,m1,by rw [hn],by rw [hn];rfl,by go_num,trivial⟩
        case measure=>simp [intOf];omega
    · have e0:b / 2 ^ k%2=0:=by omega
      rw [e0] at q1
      rw [if_neg hbit] at hn
      by_cases hx:255<X*2
      · have hx':(255:Int)<(X:Int)*2:=by omega
        have hxt:xt X=X*2 ^^^ 283:=if_pos hx
        rw [hxt] at hn
        generalize X*2 ^^^ 283=X2 at *
        clear hbit hx hxt
        go_wp2
        go_roundw
        case rel=>exact ⟨k+1,m1,by rw [hn],by rw [hn],by go_num,trivial⟩
        case measure=>simp [intOf];omega
      · have hx':¬(255:Int)<(X:Int)*2:=by omega
        have hxt:xt X=X*2:=if_neg hx
        rw [hxt] at hn
        clear hbit hx hxt
        go_wp2
        go_roundw
        case rel=>exact ⟨k+1,m1,by rw [hn],by rw [hn];rfl,by go_num,trivial⟩
        case measure=>simp [intOf];omega
  · obtain rfl:k=8:=by omega
    obtain ⟨hP,-⟩:=hl 8
    generalize hPe:(Y 8).1=P at *
    have HPe:=Hid.mk' hPe
    have hP':(P:Int)%256=P:=by omega
    clear HS hl hPe
    go_wp2
    go_ret
    exact ⟨by rw [HPe.out];rfl,rfl⟩
end Go.Proofs.YtibdhadbflfdpaaGreatDoor
namespace Go.Proofs.YtibdhadbflfdpaaGreatDoor
open Go.RowKit
theorem wpList_enter {P:Program} {w:World} {ops:Array Oper} {rest:List Oper} {o:Oper} {a:Act} {Q:Exit→Act→World→Prop} (d:Option Nat) (hgd:o.guard=none) (hd:o.dst=d) {f:FuncId} {v:Value} {R:Ending→World→Prop} (c:Calls P f #[v] w R) (hf:(callFunc f #[v]).run P w = .ok (.enter f #[v]) w)
 (x y:Operand) (ts:Array TypeId) (ho:o.op = .call { callee := .value x,args:=#[y],argTypes:=ts }) (hx:a.eval x = .func (.func f) #[] #[]) (hy:a.eval y=v)
 (h:∀ e w',R e w'→∃ r,e = .returned r∧wpList P ops Q rest (a.put d r) w'):wpList P ops Q (o :: rest) a w:=by
 subst hd
 refine wpList_plain hgd fun K hK => ?_
 have hrun:(execOp a.eval o).run P w = .ok (.enter f #[v]) w:=by
  simp [execOp,ho,resolve,Deferred.ofValue,hx,hy,invoke,hf]
 unfold Oper.wp
 rw [hrun,Oper.upon_enter]
 refine c.mono fun e w' hR => ?_
 obtain ⟨r,rfl,hk⟩:=h e w' hR
 exact hK _ _ hk
def stp (G:Nat→(Nat→Nat)→Nat→Nat) (X:Nat→Nat):Nat→Nat→Nat
 | 0=>X
 | n+1=>G n (stp G X n)
def StepsAt (w:World) (g n:Nat) (fs:Nat→FuncId):Prop:=g<w.heap.size∧∀ j,j<n→w.cell? ⟨g,j,none⟩=some (.func (.func (fs j)) #[] #[])
theorem StepsAt.below {w w':World} {g n B:Nat} {fs:Nat→FuncId} (h:StepsAt w g n fs) (hb:Below B w w') (hB:g<B):StepsAt w' g n fs:=⟨Nat.lt_of_lt_of_le h.1 hb.size,fun j hj=>(hb.cell (p:=⟨g,j,none⟩) hB).trans (h.2 j hj)⟩
set_option maxRecDepth 20000 in
set_option maxHeartbeats 4000000 in
theorem through_any (n:Nat) (hn:n<100) (fs:Nat→FuncId) (G:Nat→(Nat→Nat)→Nat→Nat) (hf:∀ j,j<n→∀ v W,(callFunc (fs j) #[v]).run Tryz.prog W = .ok (.enter (fs j) #[v]) W) (hc:∀ j,j<n→∀ X,B16 X→B16 (G j X)∧∀ W,Calls Tryz.prog (fs j) #[sqV X] W fun e w'=>e = .returned (sqV (G j X))∧Below W.heap.size W w')
 (X:Nat→Nat) (hX:B16 X) (g:Nat) (w:World) (hg:StepsAt w g n fs) :
 Calls Tryz.prog 279 #[sqV X,.slice (some ⟨g,0,none⟩) n n] w fun e w'=>e = .returned (sqV (stp G X n))∧Below w.heap.size w w':=by
 have hz:=zeroS
 obtain ⟨W,hW,hWs,hbW,hA,hC⟩:=two_new X (fun _=>0) w (zb 16) zb16 286 286
 have HW:=Hid.mk' hW.symm
 have hgW:=hg.below hbW hg.1
 have hgl:=hg.1
 have hB:∀ k,k≤n→B16 (stp G X k):=fun k=>by
  induction k with
  | zero=>exact fun _=>hX
  | succ k ih=>exact fun hk=>(hc k (by omega) _ (ih (by omega))).1
 have cs:∀ k,k<n→∀ W,Calls Tryz.prog (fs k) #[sqV (stp G X k)] W fun e w'=>e = .returned (sqV (stp G X (k+1)))∧Below W.heap.size W w':=fun k hk=>(hc k hk _ (hB k (by omega))).2
 have e0:X=stp G X 0:=rfl
 obtain ⟨Z,hZ⟩:∃ Z,Z=sqV (stp G X n):=⟨_,rfl⟩
 rw [←hZ]
 have HZ:=Hid.mk' hZ
 unfold sqV at cs ⊢
 rw [e0] at hA
 generalize stp G X=S at *
 clear hc hB hX hg hZ e0 hW
 go_enter Tryz.func279,Tryz.ntmps279
 go_wp2
 rw [←HW.out]
 go_loopw [9] (fun i wr=>∃ k:Nat,k≤n∧i = .int .i64 k∧RowAt .u8 wr w.heap.size 0 16 (S k)∧RowAt .u8 wr (w.heap.size+1) 0 16 (fun _=>0)∧StepsAt wr g n fs∧Below w.heap.size w wr∧w.heap.size+1<wr.heap.size) (fun i _=>n - (intOf i).toNat)
 case atStart=>exact ⟨0,Nat.zero_le _,rfl,hA,hC,hgW,hbW,by omega⟩
 case round =>
  clear hA hC hgW hbW hz
  obtain ⟨k,hk,rfl,hA,hC,hG,hb,hs⟩:=hrel
  by_cases hlt:k<n
  · have c1:=cs k hlt wr
    have hfk:=hf k hlt
    have rk:=hG.2 k hlt
    have hAr:=hA.range
    have hi1:=infoS (S k)
    have hi2:=infoSA (S (k+1))
    have ho:=oneU 16 (S (k+1))
    have hst:∀ W,RowAt .u8 W w.heap.size 0 16 (S k)→W.there w.heap.size 0 (ints .u8 16 (S (k+1))).toArray.size∧RowAt .u8 (W.setCells w.heap.size 0 (ints .u8 16 (S (k+1)))) w.heap.size 0 16 (S (k+1)):=fun W h=>⟨by rw [ints_size];exact h.there,h.stored⟩
    have Hst:=Hid.mk' hst
    clear cs hst hf
    generalize ints .u8 16 (S k)=LA at *
    generalize ints .u8 16 (S (k+1))=LB at *
    go_wp2_with (first
     | (refine wpList_load_mid rfl 286 _ rfl w.heap.size 0 rfl LA _ hAr Tryz.underlying286 rfl hi1 ?_)
     | (refine wpList_enter (some 15) rfl rfl c1 (hfk _ _) (.tmp 13) (.tmp 14) _ rfl rfl rfl ?_;clear c1;rintro e w1 ⟨rfl,hb1⟩;refine ⟨_,rfl,?_⟩;clear hAr;(have hA1:=hA.below hb1 (by omega));(have hC1:=hC.below hb1 (by omega));(have hG1:=hG.below hb1 hG.1);(have b1:=hb.trans (hb1.mono hb.size));(have hs1:=Nat.lt_of_lt_of_le hs hb1.size);(obtain ⟨hth,hA2⟩:=Hst.out w1 hA1))
     | (refine wpList_store_mid rfl 286 _ _ rfl w.heap.size 0 LB.toArray rfl rfl hth hi2 ho ?_))
    go_roundw
    case rel=>exact ⟨k+1,by omega,by go_num,hA2,hC1.farCells (by omega) _ _,hG1.below (below_setCells (Nat.le_refl w.heap.size) LB 0 w1 (Below.refl _ _)) hgl,below_setCells (Nat.le_refl _) _ _ _ b1,by rw [(setCells_same _ _ _ _).2.2.2];exact hs1⟩
    case measure=>simp [intOf];omega
  · obtain rfl:k=n:=by omega
    have hi1:=infoS (S k)
    have hi2:=infoSA (S k)
    have ho:=oneU 16 (S k)
    have hth:wr.there (w.heap.size+1) 0 (ints .u8 16 (S k)).toArray.size:=by rw [ints_size];exact hC.there
    have hth2:wr.there (w.heap.size+1) 0 (ints .u8 16 (S k)).length:=by rw [ints_len];exact hC.there
    have hAr:=hA.range
    have eZ:Z = .agg (ints .u8 16 (S k)).toArray:=HZ.out
    clear cs hf hG hA
    generalize ints .u8 16 (S k)=LA at *
    go_wp2_with (first
     | (refine wpList_load_mid rfl 286 _ rfl w.heap.size 0 rfl LA _ hAr Tryz.underlying286 rfl hi1 ?_)
     | (refine wpList_store_mid rfl 286 _ _ rfl (w.heap.size+1) 0 LA.toArray rfl rfl hth hi2 ho ?_))
    (try simp only [Exit.inBlock,Exit.then])
    refine bodyPost_ret (results_cell_mid Tryz.results279 _ _ (w.heap.size+1) 0 LA _ rfl (World.rangeAt_setCells_same _ _ _ _ hth2) Tryz.underlying286 rfl hi1) rfl ⟨by rw [eZ],?_⟩
    exact below_setCells (by omega) _ _ _ hb
end Go.Proofs.YtibdhadbflfdpaaGreatDoor
namespace Go.Proofs.YtibdhadbflfdpaaGreatDoor
open Go.RowKit
abbrev fnV (f:FuncId):Value := .func (.func f) #[] #[]
theorem steps_of {w:World} {g:Nat} (l:List FuncId) (h:RW w g 0 (l.map fnV)):StepsAt w g l.length (fun j=>l.getD j 0):=⟨h.lt,fun j hj=>by
 have:=h.range j (fnV (l.getD j 0)) (by simp [List.getElem?_eq_getElem hj])
 rwa [Nat.zero_add] at this⟩
theorem enter1 {f:FuncId} {v:Value} {W:World} (h:(callFunc f #[v]).run Tryz.prog W = .ok (.enter f #[v]) W):(callFunc f #[v]).run Tryz.prog W = .ok (.enter f #[v]) W:=h
theorem thr3 (X:Nat→Nat) (hX:B16 X) (g:Nat) (w:World) (h:RW w g 0 [fnV 280,fnV 281,fnV 282]) :
 Calls Tryz.prog 279 #[.agg (ints .u8 16 X).toArray,.slice (some ⟨g,0,none⟩) 3 3] w fun e w'=>e = .returned (.agg (ints .u8 16 (colN mT (rowN 1 (thrN boxN X)))).toArray)∧Below w.heap.size w w':=by
 have c:=through_any 3 (by decide) _ (fun j=>if j=0 then thrN boxN else if j=1 then tuN else mxN) (fun j hj v W=>by
  match j,hj with
  | 0,_=>exact enter1 (f:=280) (by kernel_rfl)
  | 1,_=>exact enter1 (f:=281) (by kernel_rfl)
  | 2,_=>exact enter1 (f:=282) (by kernel_rfl)) (fun j hj Y hY=>by
  match j,hj with
  | 0,_=>exact ⟨box_B hY,boxed_any Y hY⟩
  | 1,_=>exact ⟨tuN_B hY,turned_any Y⟩
  | 2,_=>exact ⟨mxN_B hY,mixed_any Y hY⟩) X hX g w (steps_of [280,281,282] h)
 have e:S16 (mxN (tuN (thrN boxN X))) (colN mT (rowN 1 (thrN boxN X))):=(mxN_S (tu_row _)).trans (mx_col _ (rowN_B (box_B hX) 1))
 rw [show stp (fun j=>if j=0 then thrN boxN else if j=1 then tuN else mxN) X 3=mxN (tuN (thrN boxN X)) from rfl,sqV_S e] at c
 exact c
theorem thr2 (X:Nat→Nat) (hX:B16 X) (g:Nat) (w:World) (h:RW w g 0 [fnV 280,fnV 281]) :
 Calls Tryz.prog 279 #[.agg (ints .u8 16 X).toArray,.slice (some ⟨g,0,none⟩) 2 2] w fun e w'=>e = .returned (.agg (ints .u8 16 (rowN 1 (thrN boxN X))).toArray)∧Below w.heap.size w w':=by
 have c:=through_any 2 (by decide) _ (fun j=>if j=0 then thrN boxN else tuN) (fun j hj v W=>by
  match j,hj with
  | 0,_=>exact enter1 (f:=280) (by kernel_rfl)
  | 1,_=>exact enter1 (f:=281) (by kernel_rfl)) (fun j hj Y hY=>by
  match j,hj with
  | 0,_=>exact ⟨box_B hY,boxed_any Y hY⟩
  | 1,_=>exact ⟨tuN_B hY,turned_any Y⟩) X hX g w (steps_of [280,281] h)
 rw [show stp (fun j=>if j=0 then thrN boxN else tuN) X 2=tuN (thrN boxN X) from rfl,sqV_S (tu_row _)] at c
 exact c
theorem plus_key (X K:Nat→Nat) (r:Nat) (hX:B16 X) (hK:∀ j,K j<256) (w:World) :
 Calls Tryz.prog 278 #[.agg (ints .u8 16 X).toArray,.agg (ints .u8 16 (fun j=>K (16*r+j))).toArray] w fun e w'=>e = .returned (.agg (ints .u8 16 (addN K r X)).toArray)∧Below w.heap.size w w':=kplus_any X _ hX (fun _ _=>hK _) w
theorem RowAt.rw {K:IntKind} {w:World} {g o n:Nat} {X:Nat→Nat} (h:RowAt K w g o n X) (hn:0<n):RW w g o (ints K n X):=⟨h.range,by rw [ints_len];exact h.there,block_lt_of_cell (h 0 hn).1⟩
theorem rowAt_of {K:IntKind} {w:World} {g o n:Nat} {X:Nat→Nat} (h:RW w g o (ints K n X)):RowAt K w g o n X:=fun j hj=>⟨h.range j _ (ints_at K n X j hj),(h.there j (by rw [ints_len];exact hj)).2⟩
theorem key_at {w:World} {g:Nat} {K:Nat→Nat} (h:RowAt .u8 w g 0 176 K) (r:Nat) (hr:r<11):RW w g (16*r) (ints .u8 16 (fun j=>K (16*r+j))):=(h.part (16*r) 16 (by omega)).rw (by decide)
end Go.Proofs.YtibdhadbflfdpaaGreatDoor
