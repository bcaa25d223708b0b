/- What the proof stands on: N3me, N3ll. -/
import Derived.Test.YtgdcmibdjiaofaaN3maM
namespace Go.Proofs.Ytgdcmibdjiaofaa
open Go.RowKit
theorem lt_sum {d:LfD} {g:Tx}:∀ k,k≤5→sumN (ltN d g) k=sumN (lfN d) k:=fun k hk=>sumN_congr fun i hi=>by
 match i,hi with
 | 0,_=>rfl
 | 1,_=>rfl
 | 2,_=>rfl
 | 3,_=>rfl
 | 4,_=>rfl
 | i+5,hi=>omega
theorem lt_part {d:LfD} {g:Tx} {z:Int}:∀ k,k<5→ltN d g k=lfN d k∧ltB d g z k=lfB d k
 | 0,_=>⟨rfl,rfl⟩
 | 1,_=>⟨rfl,rfl⟩
 | 2,_=>⟨rfl,rfl⟩
 | 3,_=>⟨rfl,rfl⟩
 | 4,_=>⟨rfl,rfl⟩
 | k+5,h=>by omega
theorem lt_read {L:Nat} {B:Nat→Nat} (lB:∀ j,B j<256) {d:LfD} {g:Tx} {z:Int} (hR:ltR d g z) (hL:L=ltLen d g) (hB:∀ j,j<L→B j=ltByt d g z j) :
 (vx L B ⟨0,0⟩).like d.enc∧(vx L B (rl L B ⟨0,0⟩ 1).2).like d.sig∧(vx L B (rl L B ⟨0,0⟩ 2).2).like d.name∧(((numD L B 1 (rl L B ⟨0,0⟩ 3).2).1:Nat):Int)=d.src∧(rl L B ⟨0,0⟩ 4).2=⟨sumN (lfN d) 4,0⟩∧(d.src=3→(vx L B (rl L B ⟨0,0⟩ 4).2).like d.hash∧(vecD L B (rl L B ⟨0,0⟩ 4).2).2=⟨sumN (lfN d) 5,0⟩)∧(¬d.src=1→(vx L B ⟨sumN (lfN d) 5,0⟩).like g∧(((numD L B ((4:Nat):Int) ⟨sumN (lfN d) 5+vcL g.n,0⟩).1:Nat):Int)=z):=by
 obtain ⟨hR,hg,hz0,hz1⟩:=hR
 have h8:∀ k,k≤8→sumN (ltN d g) k≤L:=fun k hk=>by rw [hL];exact sumN_le _ hk
 have at8:∀ k,k<8→∀ j,j<ltN d g k→B (sumN (ltN d g) k+j)=ltB d g z k j:=fun k hk j hj=>by
  have h1:=h8 (k+1) (by omega)
  have h2:sumN (ltN d g) (k+1)=sumN (ltN d g) k+ltN d g k:=rfl
  rw [hB _ (by omega)]
  exact allB_at _ _ hk hj
 have h5:=h8 5 (by decide)
 rw [lt_sum 5 (by decide)] at h5
 obtain ⟨v0,v1,v2,v3,v4,v5⟩:=leaf_back5 (L:=L) (B:=B) (a:=0) lB d hR (by omega) (fun k hk j hj=>by
  have hp:=lt_part (d:=d) (g:=g) (z:=z) k hk
  have:=at8 k (by omega) j (by rw [hp.1];exact hj)
  rw [lt_sum k (by omega),hp.2] at this
  rw [Nat.zero_add]
  exact this)
 rw [Nat.zero_add] at v4 v5
 refine ⟨v0,v1,v2,v3,v4,v5,fun hs => ?_⟩
 have n6:ltN d g 6=vcL g.n:=if_neg hs
 have n7:ltN d g 7=4:=if_neg hs
 have b6:ltB d g z 6=vcB g.n g.b:=if_neg hs
 have b7:ltB d g z 7=beN z.toNat 4:=if_neg hs
 have s6:sumN (ltN d g) 6=sumN (lfN d) 5:=by
  show sumN (ltN d g) 5+0=_
  rw [lt_sum 5 (by decide)]
  rfl
 have s7:sumN (ltN d g) 7=sumN (lfN d) 5+vcL g.n:=by
  show sumN (ltN d g) 6+ltN d g 6=_
  rw [s6,n6]
 have s8:sumN (ltN d g) 8=sumN (lfN d) 5+vcL g.n+4:=by
  show sumN (ltN d g) 7+ltN d g 7=_
  rw [s7,n7]
 have l8:=h8 8 (by decide)
 have a6:=at8 6 (by decide)
 have a7:=at8 7 (by decide)
 rw [n6,s6,b6] at a6
 rw [n7,s7,b7] at a7
 refine ⟨(vx_back (L:=L) (B:=B) lB g (by omega) (by omega) a6).1,?_⟩
 rw [numD_back (L:=L) (B:=B) (n:=z.toNat) (s:=4) (.inr (.inr (.inl rfl))) (by show z.toNat<2 ^ (8*4);omega) (by omega) a7]
 show ((z.toNat:Nat):Int)=z
 omega
def same5 (d e:LfD):Prop:=d.enc.s=e.enc.s∧d.sig.s=e.sig.s∧d.name.s=e.name.s∧d.src=e.src∧d.hash.s=e.hash.s
theorem like_like {a b c:Tx} (h:a.like b) (k:a.like c):b.n=c.n∧b.s=c.s:=⟨h.1.symm.trans k.1,h.2.symm.trans k.2⟩
theorem vcB_congr {n:Nat} {a b:Nat→Nat} (h:∀ j,j<n→a j=b j):∀ j,j<vcL n→vcB n a j=vcB n b j:=fun j hj=>by
 unfold vcB cat
 split
 · rfl
 · exact h _ (by unfold vcL at hj;omega)
theorem vc_same {a b:Tx} (ha:∀ j,a.b j<256) (hb:∀ j,b.b j<256) (h:a.s=b.s):vcL a.n=vcL b.n∧∀ j,j<vcL a.n→vcB a.n a.b j=vcB b.n b.b j:=by
 obtain ⟨h1,h2⟩:=(strB_eq ha hb).1 h
 rw [←h1]
 exact ⟨rfl,vcB_congr h2⟩
theorem lt_iff {d e:LfD} {g f:Tx} {z y:Int} (hd:lfK d) (he:lfK e) (hg:∀ j,g.b j<256) (hf:∀ j,f.b j<256) (hR:ltR d g z) (hQ:ltR e f y):strB (ltLen d g) (ltByt d g z)=strB (ltLen e f) (ltByt e f y)↔same5 d e∧(d.src=1∨g.s=f.s∧z=y):=by
 have lB:∀ j,ltByt d g z j<256:=fun j=>allB_lt (ltB_lt hd hg) 8 j
 have lC:∀ j,ltByt e f y j<256:=fun j=>allB_lt (ltB_lt he hf) 8 j
 constructor
 · intro h
   obtain ⟨h1,h2⟩:=(strB_eq lB lC).1 h
   obtain ⟨a0,a1,a2,a3,a4,a5,a6⟩:=lt_read (L:=ltLen d g) (B:=ltByt d g z) lB hR rfl (fun _ _=>rfl)
   obtain ⟨b0,b1,b2,b3,b4,b5,b6⟩:=lt_read (L:=ltLen d g) (B:=ltByt d g z) lB hQ h1 h2
   have hs:d.src=e.src:=a3.symm.trans b3
   have h4:sumN (lfN d) 4=sumN (lfN e) 4:=by
    have:=a4.symm.trans b4
    injection this
   have hh:d.hash.s=e.hash.s∧sumN (lfN d) 5=sumN (lfN e) 5:=by
    by_cases h3:d.src=3
    · obtain ⟨c1,c2⟩:=a5 h3
      obtain ⟨k1,k2⟩:=b5 (hs ▸ h3)
      refine ⟨(like_like c1 k1).2,?_⟩
      have:=c2.symm.trans k2
      injection this
    · have p:=hR.1.2.2.2.2.1
      have q:=hQ.1.2.2.2.2.1
      rw [if_neg h3] at p
      rw [if_neg (fun c=>h3 (hs.trans c))] at q
      refine ⟨(like_zero p q).2,?_⟩
      have e1:sumN (lfN d) 5=sumN (lfN d) 4+(if d.src=3 then vcL d.hash.n else 0):=rfl
      have e2:sumN (lfN e) 5=sumN (lfN e) 4+(if e.src=3 then vcL e.hash.n else 0):=rfl
      rw [e1,e2,if_neg h3,if_neg (fun c=>h3 (hs.trans c)),h4]
   refine ⟨⟨(like_like a0 b0).2,(like_like a1 b1).2,(like_like a2 b2).2,hs,hh.1⟩,?_⟩
   by_cases h3:d.src=1
   · exact .inl h3
   · obtain ⟨c1,c2⟩:=a6 h3
     obtain ⟨k1,k2⟩:=b6 (fun c=>h3 (hs.trans c))
     rw [←hh.2] at k1 k2
     have hn:=like_like c1 k1
     rw [←hn.1] at k2
     exact .inr ⟨hn.2,c2.symm.trans k2⟩
 · rintro ⟨⟨h0,h1,h2,h3,h4⟩,h5⟩
   have p0:=vc_same hd.1 he.1 h0
   have p1:=vc_same hd.2.1 he.2.1 h1
   have p2:=vc_same hd.2.2.1 he.2.2.1 h2
   have p4:=vc_same hd.2.2.2.1 he.2.2.2.1 h4
   have hp:∀ k,k<8→ltN d g k=ltN e f k∧∀ j,j<ltN d g k→ltB d g z k j=ltB e f y k j:=fun k hk=>by
    match k,hk with
    | 0,_=>exact p0
    | 1,_=>exact p1
    | 2,_=>exact p2
    | 3,_=>exact ⟨rfl,fun j _=>by show beN d.src.toNat 1 j=beN e.src.toNat 1 j;rw [h3]⟩
    | 4,_ =>
     show (if d.src=3 then vcL d.hash.n else 0)=(if e.src=3 then vcL e.hash.n else 0)∧∀ j,j<(if d.src=3 then vcL d.hash.n else 0)→vcB d.hash.n d.hash.b j=vcB e.hash.n e.hash.b j
     rw [←h3]
     by_cases c:d.src=3
     · rw [if_pos c,if_pos c];exact p4
     · rw [if_neg c,if_neg c];exact ⟨rfl,fun j hj=>absurd hj (Nat.not_lt_zero j)⟩
    | 5,_=>exact ⟨rfl,fun _ _=>rfl⟩
    | 6,_ =>
     show (if d.src=1 then 0 else vcL g.n)=(if e.src=1 then 0 else vcL f.n)∧∀ j,j<(if d.src=1 then 0 else vcL g.n)→(if d.src=1 then fun _=>0 else vcB g.n g.b) j=(if e.src=1 then fun _=>0 else vcB f.n f.b) j
     rw [←h3]
     by_cases c:d.src=1
     · rw [if_pos c,if_pos c];exact ⟨rfl,fun j hj=>absurd hj (Nat.not_lt_zero j)⟩
     · rw [if_neg c,if_neg c,if_neg c,if_neg c];exact vc_same hg hf (h5.resolve_left c).1
    | 7,_ =>
     show (if d.src=1 then 0 else 4)=(if e.src=1 then 0 else 4)∧∀ j,j<(if d.src=1 then 0 else 4)→(if d.src=1 then fun _=>0 else beN z.toNat 4) j=(if e.src=1 then fun _=>0 else beN y.toNat 4) j
     rw [←h3]
     refine ⟨rfl,fun j hj => ?_⟩
     by_cases c:d.src=1
     · rw [if_pos c,if_pos c]
     · rw [if_neg c,if_neg c,(h5.resolve_left c).2]
    | k+8,hk=>omega
   have hs:∀ k,k≤8→sumN (ltN d g) k=sumN (ltN e f) k:=fun k hk=>sumN_congr fun i hi=>(hp i (by omega)).1
   refine (strB_eq lB lC).2 ⟨hs 8 (by decide),fun j hj => ?_⟩
   refine (allB_of (X:=ltByt e f y) (pn:=ltN d g) (pb:=ltB d g z) (cnt:=8) (fun k hk i hi => ?_) j hj).symm
   rw [hs k (by omega),(hp k hk).2 i hi]
   exact allB_at _ _ hk (by rw [←(hp k hk).1];exact hi)
end Go.Proofs.Ytgdcmibdjiaofaa
namespace Go.Proofs.Ytgdcmibdjiaofaa
open Go.RowKit
theorem BytesIn.set {w:World} {s:Value} {n:Nat} {b:Nat→Nat} {g o m c:Nat} {x:Option Addr} (v:Value) (h:BytesIn w s n b) (hc:w.cell? ⟨g,o,none⟩=some (.slice x m c)):BytesIn (w.setCells g o [v]) s n b:=by
 rcases h with h | ⟨bb,ob,cap,rfl,h1,h2,h3⟩
 · exact .inl h
 · refine .inr ⟨bb,ob,cap,rfl,by rw [(setCells_same g [v] o w).2.2.2];exact h1,h2,fun j hj => ?_⟩
   rw [World.cell?_setCells_out g [v] o w ⟨bb,ob+j,none⟩ (fun e _ => ?_)]
   · exact h3 j hj
   · replace e:bb=g:=e
     show ob+j<o∨o+1≤ob+j
     by_cases q:ob+j=o
     · have:=h3 j hj
       rw [e,q,hc] at this
       cases this
     · omega
theorem RW.set5 {w:World} {g:Nat} {A B C D E F:Value} (h:RW w g 0 [A,B,C,D,E,F]) (G:Value):RW (w.setCells g 5 [G]) g 0 [A,B,C,D,E,G]:=by
 have hl:RW w g 0 ([A,B,C,D,E] ++ [F]):=h
 have l1:=hl.left.far g 5 [G] (.inr (.inl (Nat.le_refl _)))
 have l2:=hl.right.stored [G] rfl
 exact l1.join l2
theorem same_text {d m:LfD} {g:Tx} {z:Int} (hd:lfK d) (hm:lfK m) (hg:∀ j,g.b j<256) (hR:ltR d g z) (hQ:ltR m g z):sameL d { m with sg:=d.sg }=decide (strB (ltLen d g) (ltByt d g z)=strB (ltLen m g) (ltByt m g z)):=by
 rw [Bool.eq_iff_iff,decide_eq_true_iff,lt_iff hd hm hg hg hR hQ]
 unfold sameL same5
 simp [and_assoc]
set_option maxRecDepth 20000 in
set_option maxHeartbeats 2000000 in
theorem nodesApart_any (cs:List Value) (d:LfD) (ms:List Value) (m:LfD) (v:Value) (g:Tx) (u:Value) (f:Tx) (z y:Int) (hk:lfK d) (hl:lfL d) (hk':lfK m) (hl':lfL m) (hg:∀ j,g.b j<256) (hf:∀ j,f.b j<256) (w:World) (hd:LfIn w cs d) (hm:LfIn w ms m) (hv:BytesIn w v g.n g.b) (hu:BytesIn w u f.n f.b) :
 Calls Try.prog 8 #[.agg cs.toArray,.agg ms.toArray,v,u,.int .i64 z,.int .i64 y] w fun e w'=>e = .returned (.bool true)∧Below w.heap.size w w':=by
 have HD:=Hid.mk' hd
 have HM:=Hid.mk' hm
 have HV:=Hid.mk' hv
 have HU:=Hid.mk' hu
 obtain ⟨ax0,ac0,ax1,ac1,ax2,ac2,ax4,ac4,ax5,ac5,rfl,-⟩:=hd.form
 obtain ⟨bx0,bc0,bx1,bc1,bx2,bc2,bx4,bc4,bx5,bc5,rfl,-⟩:=hm.form
 clear hd hm
 have k0:=RW.fresh w [.slice ax0 d.enc.n ac0,.slice ax1 d.sig.n ac1,.slice ax2 d.name.n ac2,.int .i64 d.src,.slice ax4 d.hash.n ac4,.slice ax5 d.sg.n ac5] 24
 have b0:Below w.heap.size w (w.alloc (.cells #[.slice ax0 d.enc.n ac0,.slice ax1 d.sig.n ac1,.slice ax2 d.name.n ac2,.int .i64 d.src,.slice ax4 d.hash.n ac4,.slice ax5 d.sg.n ac5] 24)):=(Below.refl _ _).alloc (Nat.le_refl _) _
 have s0:(w.alloc (.cells #[.slice ax0 d.enc.n ac0,.slice ax1 d.sig.n ac1,.slice ax2 d.name.n ac2,.int .i64 d.src,.slice ax4 d.hash.n ac4,.slice ax5 d.sg.n ac5] 24)).heap.size=w.heap.size+1:=by simp
 obtain ⟨W1,hW0⟩:∃ WW,WW=w.alloc (.cells #[.slice ax0 d.enc.n ac0,.slice ax1 d.sig.n ac1,.slice ax2 d.name.n ac2,.int .i64 d.src,.slice ax4 d.hash.n ac4,.slice ax5 d.sg.n ac5] 24):=⟨_,rfl⟩
 rw [show w.alloc (.cells [.slice ax0 d.enc.n ac0,.slice ax1 d.sig.n ac1,.slice ax2 d.name.n ac2,.int .i64 d.src,.slice ax4 d.hash.n ac4,.slice ax5 d.sg.n ac5].toArray 24)=W1 from hW0.symm] at k0
 rw [←hW0] at b0 s0
 have k1:=RW.fresh W1 [.slice bx0 m.enc.n bc0,.slice bx1 m.sig.n bc1,.slice bx2 m.name.n bc2,.int .i64 m.src,.slice bx4 m.hash.n bc4,.slice bx5 m.sg.n bc5] 24
 have b1:Below W1.heap.size W1 (W1.alloc (.cells #[.slice bx0 m.enc.n bc0,.slice bx1 m.sig.n bc1,.slice bx2 m.name.n bc2,.int .i64 m.src,.slice bx4 m.hash.n bc4,.slice bx5 m.sg.n bc5] 24)):=(Below.refl _ _).alloc (Nat.le_refl _) _
 have s1:(W1.alloc (.cells #[.slice bx0 m.enc.n bc0,.slice bx1 m.sig.n bc1,.slice bx2 m.name.n bc2,.int .i64 m.src,.slice bx4 m.hash.n bc4,.slice bx5 m.sg.n bc5] 24)).heap.size=W1.heap.size+1:=by simp
 obtain ⟨W0,hW1⟩:∃ WW,WW=W1.alloc (.cells #[.slice bx0 m.enc.n bc0,.slice bx1 m.sig.n bc1,.slice bx2 m.name.n bc2,.int .i64 m.src,.slice bx4 m.hash.n bc4,.slice bx5 m.sg.n bc5] 24):=⟨_,rfl⟩
 rw [show W1.alloc (.cells [.slice bx0 m.enc.n bc0,.slice bx1 m.sig.n bc1,.slice bx2 m.name.n bc2,.int .i64 m.src,.slice bx4 m.hash.n bc4,.slice bx5 m.sg.n bc5].toArray 24)=W0 from hW1.symm] at k1
 rw [←hW1] at b1 s1
 rw [s0] at k1
 have HW0:Hid (W0=(w.alloc (.cells #[.slice ax0 d.enc.n ac0,.slice ax1 d.sig.n ac1,.slice ax2 d.name.n ac2,.int .i64 d.src,.slice ax4 d.hash.n ac4,.slice ax5 d.sg.n ac5] 24)).alloc (.cells #[.slice bx0 m.enc.n bc0,.slice bx1 m.sig.n bc1,.slice bx2 m.name.n bc2,.int .i64 m.src,.slice bx4 m.hash.n bc4,.slice bx5 m.sg.n bc5] 24)):=Hid.mk' (by rw [hW1,hW0])
 have bW:=below_next b0 b1
 have K0:=Hid.mk' (k0.still b1)
 have K1:=Hid.mk' k1
 have CL:=Hid.mk' (fun W' hb=>mkLeaf_any _ d hl W' (HD.out.keep (w':=W') hb))
 have CM:=Hid.mk' (fun W' hb=>mkLeaf_any _ m hl' W' (HM.out.keep (w':=W') hb))
 have CT:Hid (∀ W cs d v g z,LfIn W cs d→BytesIn W v g.n g.b→Calls Try.prog 31 #[.agg cs.toArray,v,.int .i64 z] W fun e w'=>Below W.heap.size W w'∧∃ x m c za,e = .returned (.tuple #[.slice x m c,.int .i64 za])∧(za=1∨za=0∧ltR d g z∧BytesIn w' (.slice x m c) (ltLen d g) (ltByt d g z))):=Hid.mk' fun W cs d v g z hi hu=>(leafText_any _ d v g z W hi hu).mono fun e w' ⟨h1,h2⟩=>⟨h1,h2.two⟩
 obtain ⟨xv,cv,hvx,-⟩:=hv.src
 obtain ⟨xu,cu,hux,-⟩:=hu.src
 clear hW0 hW1 k0 k1 s0 s1 hv hu b0 b1
 subst hvx
 subst hux
 have bA:=Below.refl W0.heap.size W0
 have rr:=K0.out.range
 have cm:=CL.out W0 bW
 go_enter Try.func8,Try.ntmps8
 go_upto_region 1 with (fail)
 rw [←HW0.out]
 clear HW0
 go_upto_region 2 with (first
  | (with_reducible (refine id (?_:wpList _ _ _ _ _ _));refine ldL _ rfl rfl rr ?_ rfl)
  | (go_at_call 10;refine cm.mono ?_;clear cm;rintro e v1 ⟨cs2,rfl,i2,b2⟩;(have bB:=below_next bA b2);(have cp:=CT.out v1 cs2 d _ g z i2 (HV.out.keep (below_next bW bB))))
  | (go_at_call 31;refine cp.mono ?_;clear cp;rintro e w1 ⟨b3,xa1,ma1,ca1,za1,rfl,hz1⟩))
 replace bA:=below_next bB b3
 clear i2 b2 bB rr
 have b3':=b3
 clear b3
 have rr:=(K1.out.still bA).range
 have cm:=CM.out _ (below_next bW bA)
 go_upto_region 3 with (first
  | (with_reducible (refine id (?_:wpList _ _ _ _ _ _));refine ldL _ rfl rfl rr ?_ rfl)
  | (go_at_call 10;refine cm.mono ?_;clear cm;rintro e v2 ⟨cs2,rfl,i2,b2⟩;(have bB:=below_next bA b2);(have cp:=CT.out v2 cs2 m _ g z i2 (HV.out.keep (below_next bW bB))))
  | (go_at_call 31;refine cp.mono ?_;clear cp;rintro e w2 ⟨b3,xa2,ma2,ca2,za2,rfl,hz2⟩))
 have b12:=below_next b2 b3
 replace bA:=below_next bB b3
 clear i2 b2 bB rr
 clear b3 b3'
 have rr:=(K0.out.still bA).range
 have cm:=CL.out _ (below_next bW bA)
 go_upto_region 4 with (first
  | (with_reducible (refine id (?_:wpList _ _ _ _ _ _));refine ldL _ rfl rfl rr ?_ rfl)
  | (go_at_call 10;refine cm.mono ?_;clear cm;rintro e v3 ⟨cs2,rfl,i2,b2⟩;(have bB:=below_next bA b2);(have cp:=CT.out v3 cs2 d _ f y i2 (HU.out.keep (below_next bW bB))))
  | (go_at_call 31;refine cp.mono ?_;clear cp;rintro e w3 ⟨b3,xa3,ma3,ca3,za3,rfl,hz3⟩))
 have b23:=below_next b2 b3
 replace bA:=below_next bB b3
 clear i2 b2 bB rr
 rcases hz1 with rfl | ⟨rfl,R1,B1⟩
 · go_wp2_with (first
    | (go_at_call 15;refine (num13_any _ _).mono ?_;rintro e wn ⟨rfl,hwn⟩;subst hwn)
    | (go_at_call 18;refine (knows13 _).mono ?_;rintro e w10 ⟨rfl,b10⟩))
   go_ret
   exact ⟨rfl,below_next (below_next bW bA) b10⟩
 rcases hz2 with rfl | ⟨rfl,R2,B2⟩
 · go_wp2_with (first
    | (go_at_call 15;refine (num13_any _ _).mono ?_;rintro e wn ⟨rfl,hwn⟩;subst hwn)
    | (go_at_call 18;refine (knows13 _).mono ?_;rintro e w10 ⟨rfl,b10⟩))
   go_ret
   exact ⟨rfl,below_next (below_next bW bA) b10⟩
 rcases hz3 with rfl | ⟨rfl,R3,B3⟩
 · go_wp2_with (first
    | (go_at_call 15;refine (num13_any _ _).mono ?_;rintro e wn ⟨rfl,hwn⟩;subst hwn)
    | (go_at_call 18;refine (knows13 _).mono ?_;rintro e w10 ⟨rfl,b10⟩))
   go_ret
   exact ⟨rfl,below_next (below_next bW bA) b10⟩
 have c05:=(K0.out.still bA).cell (o:=5) rfl
 have c15:=(K1.out.still bA).cell (o:=5) rfl
 have f15:=((K1.out.still bA).there 5 (Nat.lt_succ_self 5)).2
 simp only [Nat.zero_add] at c05 c15 f15
 replace B1:=B1.keep (below_next b12 b23)
 replace B2:=B2.keep b23
 go_upto_region 7 with (go_at_call 15;refine (num13_any _ _).mono ?_;rintro e wn ⟨rfl,hwn⟩;subst hwn)
 have kA0:=(K0.out.still bA).far (w.heap.size+1) 5 [.slice ax5 d.sg.n ac5] (.inl (by omega))
 have kA1:=(K1.out.still bA).set5 (.slice ax5 d.sg.n ac5)
 have bU:Below w.heap.size w (w3.setCells (w.heap.size+1) 5 [.slice ax5 d.sg.n ac5]):=below_setCells (Nat.le_succ _) _ _ _ (below_next bW bA)
 replace B1:=B1.set (.slice ax5 d.sg.n ac5) c15
 replace B2:=B2.set (.slice ax5 d.sg.n ac5) c15
 replace B3:=B3.set (.slice ax5 d.sg.n ac5) c15
 rw [show w3.setCell { block:=w.heap.size+1,off:=5 } (.slice ax5 d.sg.n ac5)=w3.setCells (w.heap.size+1) 5 [.slice ax5 d.sg.n ac5] from rfl]
 generalize w3.setCells (w.heap.size+1) 5 [.slice ax5 d.sg.n ac5]=U at *
 obtain ⟨M,hM⟩:∃ M:LfD,M={ m with sg:=d.sg }:=⟨_,rfl⟩
 have IM:Hid (LfIn U [.slice bx0 m.enc.n bc0,.slice bx1 m.sig.n bc1,.slice bx2 m.name.n bc2,.int .i64 m.src,.slice bx4 m.hash.n bc4,.slice ax5 d.sg.n ac5] M):=Hid.mk' (by
  obtain ⟨_,_,_,_,_,e1,p0,p1,p2,p4,p5⟩:=HM.out
  obtain ⟨_,_,_,_,_,e2,_,_,_,_,q5⟩:=HD.out
  cases e1
  cases e2
  rw [hM]
  exact ⟨_,_,_,_,_,rfl,p0.keep bU,p1.keep bU,p2.keep bU,p4.keep bU,q5.keep bU⟩)
 have hkM:lfK M:=by rw [hM];exact ⟨hk'.1,hk'.2.1,hk'.2.2.1,hk'.2.2.2.1,hk.2.2.2.2⟩
 have E12:=same_text hk hk' hg R1 R2
 have E13:=lt_iff hk hk hg hf R1 R3
 have y1:=fun W hb=>B1.conv (fun j=>allB_lt (ltB_lt hk hg) 8 j) W hb
 have y2:=fun W hb=>B2.conv (fun j=>allB_lt (ltB_lt hk' hg) 8 j) W hb
 have y3:=fun W hb=>B3.conv (fun j=>allB_lt (ltB_lt hk hf) 8 j) W hb
 have e13:strB (ltLen d g) (ltByt d g z)=strB (ltLen d f) (ltByt d f y)↔d.src=1∨g.s=f.s∧z=y:=E13.trans ⟨fun h=>h.2,fun h=>⟨⟨rfl,rfl,rfl,rfl,rfl⟩,h⟩⟩
 rw [←hM] at E12
 clear E13 hM B1 B2 B3 R1 R2 R3 c05 c15 f15 K0 K1 CM CT HM b12 b23
 generalize strB (ltLen d g) (ltByt d g z)=S1 at *
 generalize strB (ltLen m g) (ltByt m g z)=S2 at *
 generalize strB (ltLen d f) (ltByt d f y)=S3 at *
 have KU0:=Hid.mk' kA0
 have KU1:=Hid.mk' kA1
 have Y1:=Hid.mk' y1
 have Y3:=Hid.mk' y3
 clear kA0 kA1 y1 y3
 go_cut [70] from 20 (fun s wc=>s = .bool false∧Below U.heap.size U wc)
 case first =>
  have bd:Below U.heap.size U U.drew:=(Below.refl _ _).drew
  by_cases hE:S1=S2
  · subst hE
    have Y2:=Hid.mk' y2
    clear y2
    simp only [decide_true] at E12
    refine wp_region_held_drew (S:=fun u=>Below U.drew.heap.size U.drew u) (by kernel_rfl) (Below.refl _ _) (fun hS => ?_)
    generalize U.drew=V at *
    refine tg 0 hS ?_
    (try simp only [pS])
    refine tg 1 hS (v := .string S1) ?_ (hy:=by intro u hu;have yy:=Y1.out u (below_next bd hu);go_simp;try with_reducible rfl)
    (try simp only [pS])
    refine tg 2 hS ?_
    (try simp only [pS])
    refine tg 3 hS (v := .string S1) ?_ (hy:=by intro u hu;have yy:=Y2.out u (below_next bd hu);go_simp;try with_reducible rfl)
    (try simp only [pS])
    refine tg 4 hS (v := .bool true) ?_ (hy:=by intro u hu;go_simp;try with_reducible rfl)
    (try simp only [pS])
    refine tR 5 hS 24 [.slice ax0 d.enc.n ac0,.slice ax1 d.sig.n ac1,.slice ax2 d.name.n ac2,.int .i64 d.src,.slice ax4 d.hash.n ac4,.slice ax5 d.sg.n ac5] Try.underlying24 infoRL (fun u hu=>(KU0.out.still (below_next bd hu)).range) ?_
    (try simp only [pS])
    refine tR 7 hS 24 [.slice bx0 m.enc.n bc0,.slice bx1 m.sig.n bc1,.slice bx2 m.name.n bc2,.int .i64 m.src,.slice bx4 m.hash.n bc4,.slice ax5 d.sg.n ac5] Try.underlying24 infoRL (fun u hu=>(KU1.out.still (below_next bd hu)).range) ?_
    (try simp only [pS])
    refine cl 6 (CL.out V (below_next bU (below_next bd hS))) (fun e w4 hr => ?_)
    obtain ⟨cs4,rfl,i4,hb⟩:=hr
    replace hS:=below_next hS hb
    refine ⟨_,rfl,hS,?_⟩
    (try simp only [pS])
    refine cl 8 (sameLeaf_any _ _ d M hk hkM w4 i4 (IM.out.keep (below_next bd hS))) (fun e w5 hr => ?_)
    rw [E12] at hr
    obtain ⟨rfl,hb⟩:=hr
    replace hS:=below_next hS hb
    refine ⟨_,rfl,hS,?_⟩
    (try simp only [pS])
    refine tg 9 hS (v := .bool false) ?_ (hy:=by intro u hu;go_simp;try with_reducible rfl)
    (try simp only [pS])
    refine wpAnyH_done (by kernel_rfl) ?_ _
    go_wp2
    go_meet
    case rel=>exact ⟨rfl,below_next bd hS⟩
  · have Y2:=Hid.mk' y2
    clear y2
    rw [decide_eq_false hE] at E12
    have hne:=ba_un hE
    refine wp_region_held_drew (S:=fun u=>Below U.drew.heap.size U.drew u) (by kernel_rfl) (Below.refl _ _) (fun hS => ?_)
    generalize U.drew=V at *
    refine tg 0 hS ?_
    (try simp only [pS])
    refine tg 1 hS (v := .string S1) ?_ (hy:=by intro u hu;have yy:=Y1.out u (below_next bd hu);go_simp;try with_reducible rfl)
    (try simp only [pS])
    refine tg 2 hS ?_
    (try simp only [pS])
    refine tg 3 hS (v := .string S2) ?_ (hy:=by intro u hu;have yy:=Y2.out u (below_next bd hu);go_simp;try with_reducible rfl)
    (try simp only [pS])
    refine tg 4 hS (v := .bool false) ?_ (hy:=by intro u hu;go_simp;try with_reducible rfl)
    (try simp only [pS])
    refine tR 5 hS 24 [.slice ax0 d.enc.n ac0,.slice ax1 d.sig.n ac1,.slice ax2 d.name.n ac2,.int .i64 d.src,.slice ax4 d.hash.n ac4,.slice ax5 d.sg.n ac5] Try.underlying24 infoRL (fun u hu=>(KU0.out.still (below_next bd hu)).range) ?_
    (try simp only [pS])
    refine tR 7 hS 24 [.slice bx0 m.enc.n bc0,.slice bx1 m.sig.n bc1,.slice bx2 m.name.n bc2,.int .i64 m.src,.slice bx4 m.hash.n bc4,.slice ax5 d.sg.n ac5] Try.underlying24 infoRL (fun u hu=>(KU1.out.still (below_next bd hu)).range) ?_
    (try simp only [pS])
    refine cl 6 (CL.out V (below_next bU (below_next bd hS))) (fun e w4 hr => ?_)
    obtain ⟨cs4,rfl,i4,hb⟩:=hr
    replace hS:=below_next hS hb
    refine ⟨_,rfl,hS,?_⟩
    (try simp only [pS])
    refine cl 8 (sameLeaf_any _ _ d M hk hkM w4 i4 (IM.out.keep (below_next bd hS))) (fun e w5 hr => ?_)
    rw [E12] at hr
    obtain ⟨rfl,hb⟩:=hr
    replace hS:=below_next hS hb
    refine ⟨_,rfl,hS,?_⟩
    (try simp only [pS])
    refine tg 9 hS (v := .bool false) ?_ (hy:=by intro u hu;go_simp;try with_reducible rfl)
    (try simp only [pS])
    refine wpAnyH_done (by kernel_rfl) ?_ _
    go_wp2
    go_meet
    case rel=>exact ⟨rfl,below_next bd hS⟩
 case rest =>
  obtain ⟨rfl,bR⟩:=hcut
  clear y2 IM E12 hkM KU1 CL
  go_upto_region 9 with (fail)
  have yv:(convert 22 9 (.slice xv g.n cv)).run Try.prog wc = .ok (.string g.s) wc:=HV.out.conv hg wc (below_next bU bR)
  have yu:(convert 22 9 (.slice xu f.n cu)).run Try.prog wc = .ok (.string f.s) wc:=HU.out.conv hf wc (below_next bU bR)
  have y1:=Y1.out wc bR
  have y3:=Y3.out wc bR
  have c3:=(KU0.out.still bR).cell (o:=3) rfl
  have bE:=below_next bU bR
  clear Y1 Y3 KU0 HV HU HD bR bU bA bW b3
  generalize g.n=gn at *
  generalize f.n=fn at *
  generalize g.s=G at *
  generalize f.s=F at *
  generalize d.src=sr at *
  by_cases hG:G=F
  · subst hG
    by_cases hz:z=y
    · subst hz
      obtain rfl:=e13.2 (.inr ⟨rfl,rfl⟩)
      go_wp2_with (go_at_call 18;refine (knows13 _).mono ?_;rintro e w10 ⟨rfl,b10⟩)
      go_ret
      exact ⟨rfl,below_next bE b10⟩
    · have hb3:(z == y)=false:=by simpa using hz
      by_cases h1:sr=1
      · subst h1
        obtain rfl:=e13.2 (.inl rfl)
        go_wp2_with (go_at_call 18;refine (knows13 _).mono ?_;rintro e w10 ⟨rfl,b10⟩)
        go_ret
        exact ⟨rfl,below_next bE b10⟩
      · have hne:=ba_un (fun e=>(e13.1 e).elim h1 (fun k=>hz k.2))
        have hb1:(S1.toList == S3.toList)=false:=by simpa using hne
        have hb2:(sr == 1)=false:=by simpa using h1
        go_wp2_with (go_at_call 18;refine (knows13 _).mono ?_;rintro e w10 ⟨rfl,b10⟩)
        go_ret
        exact ⟨rfl,below_next bE b10⟩
  · have hnG:=ba_un hG
    by_cases h1:sr=1
    · subst h1
      obtain rfl:=e13.2 (.inl rfl)
      go_wp2_with (go_at_call 18;refine (knows13 _).mono ?_;rintro e w10 ⟨rfl,b10⟩)
      go_ret
      exact ⟨rfl,below_next bE b10⟩
    · have hne:=ba_un (fun e=>(e13.1 e).elim h1 (fun k=>hG k.1))
      have hb1:(S1.toList == S3.toList)=false:=by simpa using hne
      have hb2:(sr == 1)=false:=by simpa using h1
      go_wp2_with (go_at_call 18;refine (knows13 _).mono ?_;rintro e w10 ⟨rfl,b10⟩)
      go_ret
      exact ⟨rfl,below_next bE b10⟩
end Go.Proofs.Ytgdcmibdjiaofaa
