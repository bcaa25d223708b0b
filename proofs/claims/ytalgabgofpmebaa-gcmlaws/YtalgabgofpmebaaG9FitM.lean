/- What the proof stands on: G9Fit, G9LL. -/
import Derived.Test.YtalgabgofpmebaaG9MM
namespace Go.Proofs.Ytalgabgofpmebaa
open Go.RowKit
def fitN (k n:Nat) (bs:Nat→Nat):Nat→Nat:=over (fun _=>0) 0 (Nat.min n k) bs
theorem fitN_lt {k n:Nat} {bs:Nat→Nat} (h:∀ j,bs j<256):∀ j,fitN k n bs j<256:=over_lt (fun _=>by decide) h
set_option maxRecDepth 20000 in
set_option maxHeartbeats 1000000 in
theorem fit9_any (k:Nat) (hk:k≤1000) (v:Value) (n:Nat) (bs:Nat→Nat) (w:World) (hv:BytesIn w v n bs) :
 Calls Try.prog 22 #[v,.int .i64 k] w fun e w'=>∃ g,e = .returned (.slice (some ⟨g,0,none⟩) k k)∧w.heap.size≤g∧RowAt .u8 w' g 0 k (fitN k n bs)∧Below w.heap.size w w':=by
 have hsz:(Try.prog.info? 5).map (·.size)=some 1:=by kernel_rfl
 obtain ⟨xo,cx,rfl,-,-,hsrc⟩:=hv.src
 have hmk:=make_bytes w k k rfl (by omega)
 obtain ⟨W,hW⟩:∃ W,W=w.alloc (.cells (zb k) 5):=⟨_,rfl⟩
 rw [←hW] at hmk
 have hbW:Below w.heap.size w W:=by rw [hW];exact (Below.refl _ _).alloc (Nat.le_refl _) _
 have hB:RowAt .u8 W w.heap.size 0 k (fun _=>0):=by rw [hW];exact RowAt.zero w k _
 have src:=hsrc W hbW
 have hth:=hB.there
 obtain ⟨m,hm⟩:∃ m,m=Nat.min n k:=⟨_,rfl⟩
 have hR:=hB.splice 0 m bs (by rw [hm,Nat.zero_add];exact Nat.min_le_right _ _)
 rw [Nat.zero_add] at hR
 have eR:fitN k n bs=over (fun _=>0) 0 m bs:=by rw [hm];rfl
 rw [eR]
 have hb':Below w.heap.size w (W.setCells w.heap.size 0 (ints .u8 m bs)):=below_setCells (Nat.le_refl _) _ _ _ hbW
 have Hm:=Hid.mk' hm
 clear hW hB hv hsrc eR hm
 go_enter Try.func22,Try.ntmps22
 go_wp2_with (first
  | rw [hmk]
  | (refine wpList_copy_bytes rfl _ _ 22 22 rfl 5 Try.underlying22 hsz w.heap.size 0 k k xo n cx rfl rfl m bs src Hm.out hth ?_))
 go_ret
 exact ⟨_,rfl,Nat.le_refl _,hR,hb'⟩
end Go.Proofs.Ytalgabgofpmebaa
namespace Go.Proofs.Ytalgabgofpmebaa
open Go.RowKit
theorem hash_single (a b:Nat→Nat):hsN b 16 a=tmN a b:=by
 show tmN (fun j=>(0:Nat) ^^^ padN 16 a (16*0+j)) b=tmN a b
 refine tmN_S (fun j hj => ?_) (fun _ _=>rfl)
 show (0:Nat) ^^^ padN 16 a (16*0+j)=a j
 unfold padN
 rw [Nat.zero_xor,if_pos (by omega),Nat.mul_zero,Nat.zero_add]
set_option maxRecDepth 20000 in
set_option maxHeartbeats 8000000 in
theorem gcmLaws_any (v0 v1 v2:Value) (n0 n1 n2:Nat) (b0 b1 b2:Nat→Nat) (l0:∀ j,b0 j<256) (l1:∀ j,b1 j<256) (l2:∀ j,b2 j<256) (w:World) (h0:BytesIn w v0 n0 b0) (h1:BytesIn w v1 n1 b1) (h2:BytesIn w v2 n2 b2) :
 Calls Try.prog 8 #[v0,v1,v2] w fun e w'=>e = .returned (.bool true)∧Below w.heap.size w w':=by
 have ca:=fit9_any 16 (by decide) v0 n0 b0 w h0
 have cb:=fun W hb=>fit9_any 16 (by decide) v1 n1 b1 W (h1.keep hb)
 have cc:=fun W hb=>fit9_any 16 (by decide) v2 n2 b2 W (h2.keep hb)
 obtain ⟨A,hA⟩:∃ A,A=fitN 16 n0 b0:=⟨_,rfl⟩
 obtain ⟨B,hB⟩:∃ B,B=fitN 16 n1 b1:=⟨_,rfl⟩
 obtain ⟨C,hC⟩:∃ C,C=fitN 16 n2 b2:=⟨_,rfl⟩
 have lA:∀ j,A j<256:=by rw [hA];exact fitN_lt l0
 have lB:∀ j,B j<256:=by rw [hB];exact fitN_lt l1
 have lC:∀ j,C j<256:=by rw [hC];exact fitN_lt l2
 rw [←hA] at ca
 rw [←hB] at cb
 rw [←hC] at cc
 have cT:=fun (X Y:Nat→Nat) (hX:∀ j,X j<256) (hY:∀ j,Y j<256) v u W hv hu=>times_good v u X Y hX hY W hv hu
 have cH:=fun v u W hv hu=>hash_good v u 16 B A lB lA (by decide) W hv hu
 rw [hash_single] at cH
 have ck:=knows9
 have hmk:=fun W=>make_bytes W 16 16 rfl (by decide)
 obtain ⟨P,hP⟩:∃ P,P=tmN A B:=⟨_,rfl⟩
 obtain ⟨R,hR⟩:∃ R,R=tmN B C:=⟨_,rfl⟩
 obtain ⟨X,hX⟩:∃ X,X=tmN P C:=⟨_,rfl⟩
 obtain ⟨T,hT⟩:∃ T,T=tmN A C:=⟨_,rfl⟩
 obtain ⟨Sm,hSm⟩:∃ S:Nat→Nat,S=fun j=>B j ^^^ C j:=⟨_,rfl⟩
 obtain ⟨Tm,hTm⟩:∃ S:Nat→Nat,S=fun j=>P j ^^^ T j:=⟨_,rfl⟩
 have lP:∀ j,P j<256:=by rw [hP];exact tmN_lt _ _
 have lR:∀ j,R j<256:=by rw [hR];exact tmN_lt _ _
 have lT:∀ j,T j<256:=by rw [hT];exact tmN_lt _ _
 have lX:∀ j,X j<256:=by rw [hX];exact tmN_lt _ _
 have lS:∀ j,Sm j<256:=by rw [hSm];exact fun j=>xor_byte (lB j) (lC j)
 have lTm:∀ j,Tm j<256:=by rw [hTm];exact fun j=>xor_byte (lP j) (lT j)
 have eBA:tmN B A=P:=by rw [hP,tmN_comm]
 have eX:tmN A R=X:=by rw [hX,hR,hP,tmN_assoc]
 have eS:S16 (tmN A Sm) Tm:=by rw [hSm,hTm,hP,hT];exact tmN_xor A B C
 have c1:=cT A B lA lB
 have c2:=cT B A lB lA
 have c3:=cT B C lB lC
 have c4:=cT P C lP lC
 have c5:=cT A R lA lR
 have c6:=cT A C lA lC
 have c7:=cT A Sm lA lS
 rw [←hP] at c1 cH
 rw [eBA] at c2
 rw [←hR] at c3
 rw [←hX] at c4
 rw [eX] at c5
 rw [←hT] at c6
 have xs:∀ j,B j ^^^ C j=Sm j:=fun j=>by rw [hSm]
 have xt:∀ j,P j ^^^ T j=Tm j:=fun j=>by rw [hTm]
 obtain ⟨AS,hAS⟩:∃ AS,AS=tmN A Sm:=⟨_,rfl⟩
 rw [←hAS] at c7 eS
 have lAS:∀ j,AS j<256:=by rw [hAS];exact tmN_lt _ _
 have cv:=fun (Y:Nat→Nat) (lY:∀ j,Y j<256) (W:World) g c (h:RowAt .u8 W g 0 16 Y)=>conv_bytes W g 0 16 c Y lY (fun j hj=>(h j hj).1)
 have eSt:strB 16 AS=strB 16 Tm:=strB_congr eS
 obtain ⟨xa,ya,rfl,-,-,-⟩:=h0.src
 obtain ⟨xb,yb,rfl,-,-,-⟩:=h1.src
 obtain ⟨xc,yc,rfl,-,-,-⟩:=h2.src
 have hw0:IntKind.i64.wrap 0=0:=rfl
 clear h0 h1 h2 l0 l1 l2 hA hB hC hP hR hX hT hSm hTm hAS eBA eX eS cT
 go_enter Try.func8,Try.ntmps8
 go_upto_region 10 with (first
  | (go_at_call 22;refine ca.mono ?_;clear ca;rintro e w1 ⟨ga,rfl,-,ra,b⟩;(replace cb:=cb w1 b))
  | (go_at_call 22;refine cb.mono ?_;clear cb;rintro e w2 ⟨gb,rfl,-,rb,bb⟩;(replace ra:=ra.still bb);(replace b:=below_next b bb);clear bb;(replace cc:=cc w2 b))
  | (go_at_call 22;refine cc.mono ?_;clear cc;rintro e w3 ⟨gc,rfl,-,rc,bb⟩;(replace ra:=ra.still bb);(replace rb:=rb.still bb);(replace b:=below_next b bb);clear bb;(replace c1:=c1 _ _ w3 (rowB ra (by decide) (Nat.le_refl _)) (rowB rb (by decide) (Nat.le_refl _))))
  | (go_at_call 11;refine c1.mono ?_;clear c1;rintro e w4 ⟨s,rfl,⟨gP,kP,hs,-,hP,rP⟩,bb⟩;subst hs;(replace ra:=ra.still bb);(replace rb:=rb.still bb);(replace rc:=rc.still bb);(replace b:=below_next b bb);clear bb;(replace c2:=c2 _ _ w4 (rowB rb (by decide) (Nat.le_refl _)) (rowB ra (by decide) (Nat.le_refl _))))
  | (go_at_call 11;refine c2.mono ?_;clear c2;rintro e w5 ⟨s,rfl,⟨gQ,kQ,hs,-,hQ,rQ⟩,bb⟩;subst hs;(replace ra:=ra.still bb);(replace rb:=rb.still bb);(replace rc:=rc.still bb);(replace rP:=rP.still bb);(replace b:=below_next b bb);clear bb;(replace c3:=c3 _ _ w5 (rowB rb (by decide) (Nat.le_refl _)) (rowB rc (by decide) (Nat.le_refl _))))
  | (go_at_call 11;refine c3.mono ?_;clear c3;rintro e w6 ⟨s,rfl,⟨gR,kR,hs,-,hR,rR⟩,bb⟩;subst hs;(replace ra:=ra.still bb);(replace rb:=rb.still bb);(replace rc:=rc.still bb);(replace rP:=rP.still bb);(replace rQ:=rQ.still bb);(replace b:=below_next b bb);clear bb;(replace c4:=c4 _ _ w6 (rowB rP (by decide) hP) (rowB rc (by decide) (Nat.le_refl _))))
  | (go_at_call 11;refine c4.mono ?_;clear c4;rintro e w7 ⟨s,rfl,⟨gX,kX,hs,-,hX,rX⟩,bb⟩;subst hs;(replace ra:=ra.still bb);(replace rb:=rb.still bb);(replace rc:=rc.still bb);(replace rP:=rP.still bb);(replace rQ:=rQ.still bb);(replace rR:=rR.still bb);(replace b:=below_next b bb);clear bb;(replace c5:=c5 _ _ w7 (rowB ra (by decide) (Nat.le_refl _)) (rowB rR (by decide) hR)))
  | (go_at_call 11;refine c5.mono ?_;clear c5;rintro e w8 ⟨s,rfl,⟨gY,kY,hs,-,hY,rY⟩,bb⟩;subst hs;(replace ra:=ra.still bb);(replace rb:=rb.still bb);(replace rc:=rc.still bb);(replace rP:=rP.still bb);(replace rQ:=rQ.still bb);(replace rR:=rR.still bb);(replace rX:=rX.still bb);(replace b:=below_next b bb);clear bb;(replace c6:=c6 _ _ w8 (rowB ra (by decide) (Nat.le_refl _)) (rowB rc (by decide) (Nat.le_refl _))))
  | (go_at_call 11;refine c6.mono ?_;clear c6;rintro e w9 ⟨s,rfl,⟨gT,kT,hs,-,hT,rT⟩,bb⟩;subst hs;(replace ra:=ra.still bb);(replace rb:=rb.still bb);(replace rc:=rc.still bb);(replace rP:=rP.still bb);(replace rQ:=rQ.still bb);(replace rR:=rR.still bb);(replace rX:=rX.still bb);(replace rY:=rY.still bb);(replace b:=below_next b bb);clear bb))
 have bsz:=b.size
 have las:=block_lt_of_cell (ra 0 (by decide)).1
 have lbs:=block_lt_of_cell (rb 0 (by decide)).1
 have lcs:=block_lt_of_cell (rc 0 (by decide)).1
 have lps:=block_lt_of_cell (rP 0 (by decide)).1
 have lts:=block_lt_of_cell (rT 0 (by decide)).1
 have lqs:=block_lt_of_cell (rQ 0 (by decide)).1
 have lxs:=block_lt_of_cell (rX 0 (by decide)).1
 have lys:=block_lt_of_cell (rY 0 (by decide)).1
 have z1:=RowAt.zero w9 16 5
 have m1:Below w9.heap.size w9 (w9.alloc (.cells (zb 16) 5)):=(Below.refl _ _).alloc (Nat.le_refl _) _
 obtain ⟨u1,hu1⟩:∃ u,u=w9.alloc (.cells (zb 16) 5):=⟨_,rfl⟩
 rw [←hu1] at z1 m1
 have z2:=RowAt.zero u1 16 5
 have m2:Below u1.heap.size u1 (u1.alloc (.cells (zb 16) 5)):=(Below.refl _ _).alloc (Nat.le_refl _) _
 obtain ⟨u2,hu2⟩:∃ u,u=u1.alloc (.cells (zb 16) 5):=⟨_,rfl⟩
 rw [←hu2] at z2 m2
 replace z1:=z1.still m2
 have m12:=below_next m1 m2
 replace ra:=ra.still m12
 replace rb:=rb.still m12
 replace rc:=rc.still m12
 replace rP:=rP.still m12
 replace rQ:=rQ.still m12
 replace rR:=rR.still m12
 replace rX:=rX.still m12
 replace rY:=rY.still m12
 replace rT:=rT.still m12
 replace b:=below_next b m12
 have hmk1:=hmk w9
 have hmk2:=hmk u1
 rw [←hu1] at hmk1
 rw [←hu2] at hmk2
 have gs:w9.heap.size<u1.heap.size:=by rw [hu1];simp
 obtain ⟨gS,hgS⟩:∃ g,g=w9.heap.size:=⟨_,rfl⟩
 obtain ⟨gT2,hgT2⟩:∃ g,g=u1.heap.size:=⟨_,rfl⟩
 dsimp only at las lbs lcs lps lts lqs lxs lys
 rw [←hgS] at las lbs lcs lps lts lqs lxs lys
 rw [←hgS] at z1 hmk1 gs
 rw [←hgT2] at z2 hmk2 gs
 have wS:w.heap.size≤gS:=by rw [hgS];exact bsz
 clear hu1 hu2 m1 m2 m12 hmk hgS hgT2
 go_wp2_with (first
  | rw [hmk1]
  | rw [hmk2]
  | (go_at_call 13;refine (num9_any _ _).mono ?_;rintro e wn ⟨rfl,hwn⟩;subst hwn)
  | (go_at_call 15;refine (ck _).mono ?_;rintro e wk ⟨rfl,bk⟩;(replace z1:=z1.still bk);(replace z2:=z2.still bk);(replace ra:=ra.still bk);(replace rb:=rb.still bk);(replace rc:=rc.still bk);(replace rP:=rP.still bk);(replace rQ:=rQ.still bk);(replace rR:=rR.still bk);(replace rX:=rX.still bk);(replace rY:=rY.still bk);(replace rT:=rT.still bk);(replace b:=below_next b bk);clear bk))
 replace z1:=z1.congr (fun j _=>(pr_zero Sm (fun _=>0) j).symm)
 replace z2:=z2.congr (fun j _=>(pr_zero Tm (fun _=>0) j).symm)
 go_loopw [21] (fun i wq=>∃ k:Nat,k≤16∧i = .int .i64 k∧RowAt .u8 wq gS 0 16 (pr Sm (fun _=>0) k)∧RowAt .u8 wq gT2 0 16 (pr Tm (fun _=>0) k)∧RowAt .u8 wq ga 0 16 A∧RowAt .u8 wq gb 0 16 B∧RowAt .u8 wq gc 0 16 C∧RowAt .u8 wq gP 0 16 P∧RowAt .u8 wq gQ 0 16 P∧RowAt .u8 wq gX 0 16 X∧RowAt .u8 wq gY 0 16 X∧RowAt .u8 wq gT 0 16 T∧Below w.heap.size w wq) (fun i _=>16 - (intOf i).toNat)
 case atStart=>exact ⟨0,Nat.zero_le _,rfl,z1,z2,ra,rb,rc,rP,rQ,rX,rY,rT,b⟩
 case round =>
  clear z1 z2 ra rb rc rP rQ rX rY rT b
  obtain ⟨k,hk,rfl,z1,z2,ra,rb,rc,rP,rQ,rX,rY,rT,b⟩:=hrel
  by_cases hlt:k<16
  · clear c7 cH cv ck
    obtain ⟨p1,f1⟩:=z1 k hlt
    obtain ⟨p2,f2⟩:=z2 k hlt
    obtain ⟨qb,-⟩:=rb k hlt
    obtain ⟨qc,-⟩:=rc k hlt
    obtain ⟨qP,-⟩:=rP k hlt
    obtain ⟨qT,-⟩:=rT k hlt
    rw [Nat.zero_add] at p1 f1 p2 f2 qb qc qP qT
    have x1:=u8_xor_nat (B k) (C k) (lB k) (lC k)
    have x2:=u8_xor_nat (P k) (T k) (lP k) (lT k)
    rw [xs k] at x1
    rw [xt k] at x2
    have hlt':(k:Int)<16:=by omega
    have q1:(0:Int)≤(k:Int)∧(k:Int)<16:=by omega
    have e1:=z1.next hlt (v:=(Sm k:Int)) rfl
    obtain ⟨V1,hV1⟩:∃ V,V=(wr.setCell ⟨gS,k,none⟩ (.int .u8 (Sm k:Int))).drew:=⟨_,rfl⟩
    replace e1:RowAt .u8 V1 gS 0 16 (pr Sm (fun _=>0) (k+1)):=by rw [hV1];exact e1.drew
    have fr:∀ {g:Nat} {Y:Nat→Nat},RowAt .u8 wr g 0 16 Y→gS≠g→RowAt .u8 V1 g 0 16 Y:=fun h hne=>by rw [hV1];exact (h.far (by show gS≠_;exact hne) _).drew
    have ra1:=fr ra (Nat.ne_of_gt las)
    have rb1:=fr rb (Nat.ne_of_gt lbs)
    have rc1:=fr rc (Nat.ne_of_gt lcs)
    have rP1:=fr rP (Nat.ne_of_gt lps)
    have rQ1:=fr rQ (Nat.ne_of_gt lqs)
    have rX1:=fr rX (Nat.ne_of_gt lxs)
    have rY1:=fr rY (Nat.ne_of_gt lys)
    have rT1:=fr rT (Nat.ne_of_gt lts)
    have z21:=fr z2 (Nat.ne_of_lt gs)
    have bV:Below w.heap.size w V1:=by rw [hV1];exact (b.setCell wS _).drew
    obtain ⟨p2,f2⟩:=z21 k hlt
    obtain ⟨qP,-⟩:=rP1 k hlt
    obtain ⟨qT,-⟩:=rT1 k hlt
    rw [Nat.zero_add] at p2 f2 qP qT
    have e2:=z21.next hlt (v:=(Tm k:Int)) rfl
    have HV:=Hid.mk' hV1
    clear hV1 fr xs xt
    go_wp2
    go_region
    rw [←HV.out]
    go_wp2
    go_region
    go_wp2
    go_roundw
    case rel=>exact ⟨k+1,by omega,by go_num,(e1.far (by show gT2≠gS;exact Nat.ne_of_gt gs) _).drew,e2.drew,(ra1.far (by show gT2≠ga;exact Nat.ne_of_gt (Nat.lt_trans las gs)) _).drew,(rb1.far (by show gT2≠gb;exact Nat.ne_of_gt (Nat.lt_trans lbs gs)) _).drew,(rc1.far (by show gT2≠gc;exact Nat.ne_of_gt (Nat.lt_trans lcs gs)) _).drew,(rP1.far (by show gT2≠gP;exact Nat.ne_of_gt (Nat.lt_trans lps gs)) _).drew,(rQ1.far (by show gT2≠gQ;exact Nat.ne_of_gt (Nat.lt_trans lqs gs)) _).drew,(rX1.far (by show gT2≠gX;exact Nat.ne_of_gt (Nat.lt_trans lxs gs)) _).drew,(rY1.far (by show gT2≠gY;exact Nat.ne_of_gt (Nat.lt_trans lys gs)) _).drew,(rT1.far (by show gT2≠gT;exact Nat.ne_of_gt (Nat.lt_trans lts gs)) _).drew,(bV.setCell (Nat.le_trans wS (Nat.le_of_lt gs)) _).drew⟩
    case measure=>simp [intOf];omega
  · obtain rfl:k=16:=by omega
    replace z1:=z1.congr (fun j hj=>pr_full Sm (fun _=>0) hj)
    replace z2:=z2.congr (fun j hj=>pr_full Tm (fun _=>0) hj)
    replace c7:=c7 _ _ wr (rowB ra (by decide) (Nat.le_refl _)) (rowB z1 (by decide) (Nat.le_refl _))
    clear xs xt
    go_wp2_with (first
     | (go_at_call 11;refine c7.mono ?_;clear c7;rintro e v1 ⟨s,rfl,⟨gA,kA,hs,-,hkA,rA⟩,bb⟩;subst hs;(replace ra:=ra.still bb);(replace rb:=rb.still bb);(replace rc:=rc.still bb);(replace rP:=rP.still bb);(replace rQ:=rQ.still bb);(replace rX:=rX.still bb);(replace rY:=rY.still bb);(replace rT:=rT.still bb);(replace z2:=z2.still bb);(replace b:=below_next b bb);clear bb;(replace cH:=cH _ _ v1 (rowB rb (by decide) (Nat.le_refl _)) (rowB ra (by decide) (Nat.le_refl _))))
     | (go_at_call 16;refine cH.mono ?_;clear cH;rintro e v2 ⟨s,rfl,⟨gM,kM,hs,-,hkM,rM⟩,bb⟩;subst hs;(replace ra:=ra.still bb);(replace rb:=rb.still bb);(replace rc:=rc.still bb);(replace rP:=rP.still bb);(replace rQ:=rQ.still bb);(replace rX:=rX.still bb);(replace rY:=rY.still bb);(replace rT:=rT.still bb);(replace z2:=z2.still bb);(replace rA:=rA.still bb);(replace b:=below_next b bb);clear bb;(have qP:=cv P lP v2 gP kP rP);(have qQ:=cv P lP v2 gQ kQ rQ);(have qX:=cv X lX v2 gX kX rX);(have qY:=cv X lX v2 gY kY rY);(have qA:=cv AS lAS v2 gA kA rA);(have qT:=cv Tm lTm v2 gT2 16 z2);(have qM:=cv P lP v2 gM kM rM);rw [eSt] at qA;clear cv)
     | (go_at_call 13;refine (num9_any _ _).mono ?_;rintro e wn ⟨rfl,hwn⟩;subst hwn)
     | rw [qP]
     | rw [qQ]
     | rw [qX]
     | rw [qY]
     | rw [qA]
     | rw [qT]
     | rw [qM])
    go_ret
    exact ⟨rfl,b⟩
end Go.Proofs.Ytalgabgofpmebaa
