/- The law NodesParents. -/
import Derived.Test.YtgdcmibdjiaofaaN3laM
namespace Go.Proofs.Ytgdcmibdjiaofaa
open Go.RowKit
set_option maxRecDepth 20000 in
set_option maxHeartbeats 2000000 in
theorem nodesParents_any (cs:List Value) (d:PrD) (v:Value) (n:Nat) (bs:Nat→Nat) (hk:prK d) (hl:prL d) (lb:∀ j,bs j<256) (hn:n<140737488355000) (w:World) (hd:PrIx w cs d) (hv:BytesIn w v n bs) :
 Calls Try.prog 4 #[.agg cs.toArray,v] w fun e w'=>e = .returned (.bool true)∧Below w.heap.size w w':=by
 have hl8:d.um.length<140737488355000:=by have:=hl.2.2;omega
 have hd':=hd
 obtain ⟨ax0,ac0,ax1,ac1,ax2,ac2,rfl⟩:=hd.prin.form
 clear hd
 have k0:=RW.fresh w [.slice ax0 d.enc.n ac0,.slice ax1 d.hash.n ac1,.slice ax2 d.um.length ac2] 44
 have b0:Below w.heap.size w (w.alloc (.cells #[.slice ax0 d.enc.n ac0,.slice ax1 d.hash.n ac1,.slice ax2 d.um.length ac2] 44)):=(Below.refl _ _).alloc (Nat.le_refl _) _
 obtain ⟨W0,hW0⟩:∃ W0,W0=w.alloc (.cells #[.slice ax0 d.enc.n ac0,.slice ax1 d.hash.n ac1,.slice ax2 d.um.length ac2] 44):=⟨_,rfl⟩
 rw [show w.alloc (.cells [.slice ax0 d.enc.n ac0,.slice ax1 d.hash.n ac1,.slice ax2 d.um.length ac2].toArray 44)=W0 from hW0.symm] at k0
 rw [←hW0] at b0
 have HW0:=Hid.mk' hW0
 have HD:=Hid.mk' (hd'.keep b0)
 have HV:=Hid.mk' (hv.keep b0)
 have cL:=lent_any v n bs W0 HV.out hn
 have K0:=Hid.mk' k0
 obtain ⟨S,hS⟩:∃ S,S=putS (prR d) (prLen d) (prByt d):=⟨_,rfl⟩
 obtain ⟨zp,hzp⟩:∃ z,z=putZ (prR d):=⟨_,rfl⟩
 obtain ⟨dg,hdg⟩:∃ dg,dg=getX (prR (getP13 n bs)∧getQ13 n bs) (getP13 n bs) pr0:=⟨_,rfl⟩
 obtain ⟨zg,hzg⟩:∃ z,z=getZ (prR (getP13 n bs)∧getQ13 n bs):=⟨_,rfl⟩
 have hgk:prK dg:=by rw [hdg];exact getP_K lb _
 have hgl:dg.um.length<140737488355000:=by rw [hdg];exact getP_l _
 have cm:=fun W' hb=>mkParent_any _ d hl W' (HD.out.keep (w':=W') hb)
 have cp:∀ W cs,PrIn W cs d→Calls Try.prog 20 #[.agg cs.toArray] W fun e w'=>Below W.heap.size W w'∧∃ x m c,e = .returned (.tuple #[.slice x m c,.int .i64 zp])∧Cv w' (.slice x m c) S:=fun W cs hi=>(putParent_any _ d W hi hl8).mono fun e w' ⟨h1,h2⟩=>⟨h1,by rw [hS,hzp];exact h2.str (fun j=>allB_lt (prB_lt hk) 3 j)⟩
 have cq:=fun W' (hb:Below W0.heap.size W0 W')=>(rPutParent_any _ d hk hl8 W' ((HD.out.keep hb).prin)).mono (R':=fun e w'=>Below W'.heap.size W' w'∧∃ x m c,e = .returned (.tuple #[.slice x m c,.int .i64 zp])∧Cv w' (.slice x m c) S) fun e w' ⟨h1,h2⟩=>⟨h1,by rw [hS,hzp];exact h2.str (fun j=>allB_lt (prB_lt hk) 3 j)⟩
 have cg:∀ W u,BytesIn W u n bs→Calls Try.prog 22 #[u] W fun e w'=>Below W.heap.size W w'∧∃ cs,e = .returned (.tuple #[.agg cs.toArray,.int .i64 zg])∧PrIn w' cs dg:=fun W u hu=>(getParent_any u n bs lb hn W hu).mono fun e w' ⟨h1,h2⟩=>⟨h1,by rw [hdg,hzg];exact GetA.same (D:=PrIn) h2 (zeroP_in w')⟩
 have ch:∀ W u,BytesIn W u n bs→Calls Try.prog 23 #[u] W fun e w'=>Below W.heap.size W w'∧∃ cs,e = .returned (.tuple #[.agg cs.toArray,.int .i64 zg])∧PrIn w' cs dg:=fun W u hu=>(rGetParent_any u n bs lb hn W hu).mono fun e w' ⟨h1,h2⟩=>⟨h1,by rw [hdg,hzg];exact GetA.same (D:=PrIn) h2 (zeroP_in w')⟩
 have HL:=Hid.mk' hl
 have CM:=Hid.mk' cm
 have CP:=Hid.mk' cp
 have CQ:=Hid.mk' cq
 have CG:=Hid.mk' cg
 have CH:=Hid.mk' ch
 clear hW0 k0 hd' hv hS hzp hdg hzg cm cp cq cg ch
 go_enter Try.func4,Try.ntmps4
 go_upto_region 1 with (fail)
 rw [←HW0.out]
 go_upto_region 2 with (go_at_call 9;refine cL.mono ?_;clear cL;rintro e w1 ⟨g,cap,rfl,hcap,hg,row1,b1⟩)
 have rr0:=(K0.out.still b1).range
 have cm:=CM.out w1 b1
 go_upto_region 3 with (first
  | (with_reducible (refine id (?_:wpList _ _ _ _ _ _));refine ldP _ rfl rfl rr0 ?_ rfl)
  | (go_at_call 19;refine cm.mono ?_;clear cm;rintro e w2 ⟨cs2,rfl,i2,b2⟩;(have I2:=Hid.mk' i2);(obtain ⟨bx0,bc0,bx1,bc1,bx2,bc2,rfl⟩:=i2.form);clear i2))
 clear rr0
 have k2:=RW.fresh w2 [.slice bx0 d.enc.n bc0,.slice bx1 d.hash.n bc1,.slice bx2 d.um.length bc2] 45
 have b2':Below w2.heap.size w2 (w2.alloc (.cells #[.slice bx0 d.enc.n bc0,.slice bx1 d.hash.n bc1,.slice bx2 d.um.length bc2] 45)):=(Below.refl _ _).alloc (Nat.le_refl _) _
 obtain ⟨W2,hW2⟩:∃ W2,W2=w2.alloc (.cells #[.slice bx0 d.enc.n bc0,.slice bx1 d.hash.n bc1,.slice bx2 d.um.length bc2] 45):=⟨_,rfl⟩
 rw [show w2.alloc (.cells [.slice bx0 d.enc.n bc0,.slice bx1 d.hash.n bc1,.slice bx2 d.um.length bc2].toArray 45)=W2 from hW2.symm] at k2
 rw [←hW2] at b2' ⊢
 clear hW2
 obtain ⟨p2,hp2⟩:∃ p,p=w2.heap.size:=⟨_,rfl⟩
 rw [←hp2] at k2 ⊢
 clear hp2
 have I2':=Hid.mk' (I2.out.keep b2')
 have bb2:=below_next b1 (below_next b2 b2')
 have cp:=CP.out W2 _ I2'.out
 have rr2:=k2.range
 go_upto_region 4 with (first
  | (with_reducible (refine id (?_:wpList _ _ _ _ _ _));refine ldD _ rfl rfl rr2 ?_ rfl)
  | (go_at_call 20;refine cp.mono ?_;clear cp;rintro e w3 ⟨b3,xa,ma,ca,rfl,va⟩))
 clear rr2
 have bb3:=below_next bb2 b3
 have rr0:=(K0.out.still bb3).range
 have cq:=CQ.out w3 bb3
 go_upto_region 5 with (first
  | (with_reducible (refine id (?_:wpList _ _ _ _ _ _));refine ldP _ rfl rfl rr0 ?_ rfl)
  | (go_at_call 21;refine cq.mono ?_;clear cq;rintro e w4 ⟨b4,xc,mc,cc,rfl,vc⟩))
 clear rr0
 have b24:=below_next (below_next (below_next b2 b2') b3) b4
 have row4:=row1.keep (by omega) b24
 have cg:=CG.out w4 _ (row_bytes row4 hcap)
 go_upto_region 6 with (go_at_call 22;refine cg.mono ?_;clear cg;rintro e w5 ⟨b5,cs5,rfl,i5⟩;(have I5:=Hid.mk' i5);(obtain ⟨px0,pc0,px1,pc1,px2,pc2,rfl⟩:=i5.form);clear i5)
 have k5:=RW.fresh w5 [.slice px0 dg.enc.n pc0,.slice px1 dg.hash.n pc1,.slice px2 dg.um.length pc2] 45
 have b5':Below w5.heap.size w5 (w5.alloc (.cells #[.slice px0 dg.enc.n pc0,.slice px1 dg.hash.n pc1,.slice px2 dg.um.length pc2] 45)):=(Below.refl _ _).alloc (Nat.le_refl _) _
 obtain ⟨W5,hW5⟩:∃ W5,W5=w5.alloc (.cells #[.slice px0 dg.enc.n pc0,.slice px1 dg.hash.n pc1,.slice px2 dg.um.length pc2] 45):=⟨_,rfl⟩
 rw [show w5.alloc (.cells [.slice px0 dg.enc.n pc0,.slice px1 dg.hash.n pc1,.slice px2 dg.um.length pc2].toArray 45)=W5 from hW5.symm] at k5
 rw [←hW5] at b5' ⊢
 clear hW5
 obtain ⟨p5,hp5⟩:∃ p,p=w5.heap.size:=⟨_,rfl⟩
 rw [←hp5] at k5 ⊢
 clear hp5
 have b45:=below_next b5 b5'
 have b05:=below_next b1 (below_next b24 b45)
 have ch:=CH.out W5 v (HV.out.keep b05)
 go_upto_region 7 with (go_at_call 23;refine ch.mono ?_;clear ch;rintro e w6 ⟨b6,cs6,rfl,i6⟩;(have I6:=Hid.mk' i6);(obtain ⟨qx0,qc0,qx1,qc1,qx2,qc2,rfl⟩:=i6.form);clear i6)
 have k6:=RW.fresh w6 [.slice qx0 dg.enc.n qc0,.slice qx1 dg.hash.n qc1,.slice qx2 dg.um.length qc2] 44
 have b6':Below w6.heap.size w6 (w6.alloc (.cells #[.slice qx0 dg.enc.n qc0,.slice qx1 dg.hash.n qc1,.slice qx2 dg.um.length qc2] 44)):=(Below.refl _ _).alloc (Nat.le_refl _) _
 obtain ⟨W6,hW6⟩:∃ W6,W6=w6.alloc (.cells #[.slice qx0 dg.enc.n qc0,.slice qx1 dg.hash.n qc1,.slice qx2 dg.um.length qc2] 44):=⟨_,rfl⟩
 rw [show w6.alloc (.cells [.slice qx0 dg.enc.n qc0,.slice qx1 dg.hash.n qc1,.slice qx2 dg.um.length qc2].toArray 44)=W6 from hW6.symm] at k6
 rw [←hW6] at b6' ⊢
 clear hW6
 obtain ⟨p6,hp6⟩:∃ p,p=w6.heap.size:=⟨_,rfl⟩
 rw [←hp6] at k6 ⊢
 clear hp6
 have b56:=below_next b6 b6'
 have b46:=below_next b45 b56
 have b06:=below_next b05 b56
 have ya:=va W6 (below_next b4 b46)
 have yc:=vc W6 b46
 have cs1:=sameParent_ok _ _ dg dg hgk hgk (sameP_refl dg) hgl W6 ((I5.out.keep b5').keep b56) (I6.out.keep b6')
 have rA:=(k5.still b56).range
 have rB:=k6.range
 have K2:=Hid.mk' (k2.still (below_next (below_next b3 b4) b46))
 have K0':=Hid.mk' (K0.out.still b06)
 have I2'':=Hid.mk' (I2'.out.keep (below_next (below_next b3 b4) b46))
 have D6:=Hid.mk' ((HD.out.keep b06).prin)
 have row6:=row4.keep (by omega) b46
 have V6:=Hid.mk' (HV.out.keep b06)
 have R6:=Hid.mk' row6
 have cs2:=fun W' (hb:Below W6.heap.size W6 W')=>sameParent_ok _ _ d d hk hk (sameP_refl d) (by have:=hl.2.2;omega) W' (I2''.out.keep hb) (D6.out.keep hb)
 have CS2:=Hid.mk' cs2
 clear cs2 k2 k5 k6 row1 row4 row6 va vc b1 b2 b2' b3 b4 b5 b5' b6 b6' b24 b45 b56 b46 b05 bb2 bb3 I2 I2' I5 I6 CM CP CQ CG CH HD HV HW0 K0
 go_wp2_with (first
  | (go_at_call 15;refine (num13_any _ _).mono ?_;rintro e wn ⟨rfl,hwn⟩;subst hwn)
  | (with_reducible (refine id (?_:wpList _ _ _ _ _ _));refine ldDg _ rfl rfl rA ?_ rfl)
  | (with_reducible (refine id (?_:wpList _ _ _ _ _ _));refine ldPg _ rfl rfl rB ?_ rfl)
  | (go_at_call 24;refine cs1.mono ?_;clear cs1;rintro e w7 ⟨rfl,b7⟩;(have rC:=(K2.out.still b7).range);(have rD:=(K0'.out.still b7).range);(have cs2:=CS2.out w7 b7);clear rA rB)
  | (with_reducible (refine id (?_:wpList _ _ _ _ _ _));refine ldDg _ rfl rfl rC ?_ rfl)
  | (with_reducible (refine id (?_:wpList _ _ _ _ _ _));refine ldPg _ rfl rfl rD ?_ rfl)
  | (go_at_call 24;refine cs2.mono ?_;clear cs2;rintro e w8 ⟨rfl,b8⟩;(have b78:=below_next b7 b8);(have ct:=stays_any g cap n v bs lb w8 hn hcap (R6.out.keep (by omega) b78) (V6.out.keep b78)))
  | (go_at_call 17;refine ct.mono ?_;clear ct;rintro e w9 ⟨rfl,b9⟩)
  | (go_at_call 18;refine (knows13 _).mono ?_;rintro e w10 ⟨rfl,b10⟩))
 go_ret
 exact ⟨rfl,below_next (below_next (below_next (below_next b0 b06) b78) b9) b10⟩
end Go.Proofs.Ytgdcmibdjiaofaa
