/- What the proof stands on: PDcw, PInst7, S7Laid. -/
import Derived.Test.YtibdhadbflfdpaaGreatDoorCards
import Derived.Test.YtibdhadbflfdpaaGreatDoorLentM
import Derived.Test.YtibdhadbflfdpaaGreatDoorPEvnM
import Derived.Test.YtibdhadbflfdpaaGreatDoorSgVerM
import Derived.Test.YtibdhadbflfdpaaGreatDoorTie
import Derived.Lib.LaidTab
namespace Go.Proofs.YtibdhadbflfdpaaGreatDoor
open Nat renaming le_refl → JW
open Go renaming wpList_store_mid → J2
open Go renaming wpList_load_mid → J3
open Go.RowKit
set_option maxRecDepth 20000 in
set_option maxHeartbeats 16000000 in
theorem zT (v:Value) (bs:Nat→Nat) (hbs:∀ j,bs j<256) (w:World) (im:IM w) (hv:ae w v 32 bs) :
 Calls Tryz.prog 53 #[v] w fun e w'=>∃ (c:List Value) (er:Int),e = .returned (.tuple #[.agg c.toArray,.int .i64 er])∧Below w.heap.size w w' ∧
  ((er=30∧R6 c dR∧bv bs=none)∨(er=0∧(bv bs).isSome=true∧∃ P,R6 c P∧∀ j,j<32→da P j=bs j)):=by
 have hzp:=eF;have hv0:=hv;obtain ⟨bb,ob,cap,hsl,hlb,hcap,hcl⟩:∃ bb ob cap,v = .slice (some ⟨bb,ob,none⟩) 32 cap∧bb<w.heap.size∧32≤cap∧∀ j,j<32→w.cell? ⟨bb,ob+j,none⟩=some (.int .u8 (bs j)):=hv.resolve_left (fun ⟨_,_,h⟩=>by omega)
 obtain ⟨y,hy⟩:∃ y,aK (fR bs) 32%pF=y:=⟨_,rfl⟩
 have hyl:y<pF:=by rw [←hy];exact Nat.mod_lt _ (by decide)
 have kc:=fun W h=>zG v bs W h
 have kn:∀ W s,ae W s 32 (fR bs)→Calls Tryz.prog 110 #[s] W fun e w'=>e = .returned (.agg (c4 y).toArray)∧Below W.heap.size W w':=fun W s h=>by
  have k:=fd s 32 _ (jK hbs) W h;rw [show fV 32 (fR bs)=y from by unfold fV;rw [if_pos rfl];exact hy] at k;exact k
 have kx:=fun W im=>zv y hyl W im
 have hxl0:=uq (u:=dV y) (v:=d8 y) yp (dn _ _) (eb _ _)
 have hno:=fun h=>De (bs:=bs) hy h
 have hds:=fun x h hh=>Cm (bs:=bs) hbs (x:=x) hy h hh
 have hdo:=fun x h hl hh=>zw (bs:=bs) hbs (x:=x) hy h hl hh
 have e31:=Iw (bs 31) (hbs 31)
 obtain ⟨q1,hq1⟩:∃ q,q=bs 31%128:=⟨_,rfl⟩
 rw [←hq1] at e31
 have hq3:∀ j,j<32→bK bs 31 q1 j=fR bs j:=fun j _=>by unfold fR bK;rw [hq1]
 have z0:∀ (w w1:World) (g cap:Nat),ah .u8 w1 g 0 32 bs→32≤cap→g<w1.heap.size→Below w.heap.size w w1→w.heap.size≤g→∃ V,V=w1.setCell ⟨g,31,none⟩ (.int .u8 (q1:Int))∧ae V (.slice (some ⟨g,0,none⟩) 32 cap) 32 (fR bs)∧Below w.heap.size w V∧∀ k cs,k≠g→RW w1 k 0 cs→RW V k 0 cs:=fun w w1 g cap hr hc hg hb hw=>by
  have r:=hr.set (i:=31) (by decide) (v:=(q1:Int)) rfl;rw [Nat.zero_add] at r;have r':=r.congr hq3;exact ⟨_,rfl,.inr ⟨g,0,cap,rfl,block_lt_of_cell (r' 0 (by decide)).1,hc,fun j hj=>(r' j hj).1⟩,ac hw [_] 31 _ hb,fun k cs hk h=>h.far g 31 [_] (.inl hk)⟩
 clear hq1 hq3;have Hy:=Hid.mk' hy;clear hy;obtain ⟨W,g2,eW,hg2,b,h2⟩:=dM w;have HW:Hid (w.alloc (.cells zP 77)=W):=Hid.mk' eW;have Hg:Hid (w.heap.size=g2):=Hid.mk' hg2;have w2l:w.heap.size≤g2:=Nat.le_of_eq hg2;replace kc:=kc W (hv.still b);clear eW hg2 hv;subst hsl;go_enter Tryz.func53,Tryz.ntmps53
 go_upto_region 7 with (first
  | (go_at_call 109;rw [HW.out,Hg.out];refine kc.mono ?_;clear kc HW Hg;rintro e w1 ⟨g4,cap4,rfl,hg4,hgl4,hcap4,row4,hb1⟩;(have n24:g2≠g4:=Nat.ne_of_lt (Nat.lt_of_lt_of_le h2.lt hg4));(replace h2:=h2.still hb1);(have sb:=b.size);(replace b:=aa b hb1);clear hb1;(have wg4:w.heap.size≤g4:=Nat.le_trans sb hg4);(have c31:=(row4 31 (by decide)).1);(have f31:=(row4 31 (by decide)).2);rw [Nat.zero_add] at c31 f31;(obtain ⟨V1,hV1,hl1,bV1,far1⟩:=z0 w w1 g4 cap4 row4 hcap4 hgl4 b wg4);(replace h2:=far1 g2 _ n24 h2);(have HV1:=Hid.mk' hV1);clear hV1 far1 z0 b row4;(have b:=bV1);clear bV1;(have kn2:=kn V1 _ hl1);clear kn)
  | (go_at_call 110;rw [←HV1.out];refine kn2.mono ?_;clear kn2 HV1 hl1;rintro e w2 ⟨rfl,hb2⟩;(replace h2:=h2.still hb2);(replace b:=aa b hb2);clear hb2;(have z2:=gj w2);(have t5:=jh w2 y);(obtain ⟨V2,hV2⟩:∃ V,V=(w2.alloc (.cells #[.int .u64 0,.int .u64 0,.int .u64 0,.int .u64 0] 75)).setCells w2.heap.size 0 (c4 y):=⟨_,rfl⟩);(have h5:RW V2 w2.heap.size 0 (c4 y):=by rw [hV2];exact z2.stored (c4 y) rfl);(have bV:Below w2.heap.size w2 V2:=by rw [hV2];exact ac (JW _) _ _ _ ((Below.refl _ _).alloc (JW _) _));(have HV2:=Hid.mk' hV2);clear hV2 z2;(replace h2:=h2.still bV);(replace b:=aa b bV);clear bV;(have kx2:=kx V2 (im.still b));clear kx)
  | (with_reducible (refine id (?_:wpList _ _ _ _ _ _));refine J2 rfl 75 _ _ rfl w2.heap.size 0 (c4 y).toArray rfl rfl t5 (cN y) (fS y) ?_;rw [List.toList_toArray,←HV2.out];clear t5 HV2)
  | (refine J3 rfl 75 _ rfl w2.heap.size 0 rfl (c4 y) _ h5.range Tryz.underlying75 rfl aE ?_)
  | (go_at_call 111;refine kx2.mono ?_;clear kx2;(generalize df kP (dV y) (d8 y)=R at *);rintro e w3 ⟨rfl,hb3⟩;(obtain ⟨x,hx⟩:∃ x,x=R.getD 0:=⟨_,rfl⟩);(rw [←hx];rw [←hx] at hxl0);rw [show ag x = .agg (c4 x).toArray from rfl];(obtain ⟨ok,hok⟩:∃ ok,ok=R.isSome:=⟨_,rfl⟩);rw [←hok];(have Hx:=Hid.mk' hx);(have Hok:=Hid.mk' hok);clear hx hok;(have l5:=h5.lt);(replace h5:=h5.still hb3);(replace h2:=h2.still hb3);(replace b:=aa b hb3);(have n56:w2.heap.size≠w3.heap.size:=Nat.ne_of_lt (Nat.lt_of_lt_of_le l5 hb3.size));clear hb3 l5;(have z3:=gj w3);(have t6:=jh w3 x);(obtain ⟨V3,hV3⟩:∃ V,V=(w3.alloc (.cells #[.int .u64 0,.int .u64 0,.int .u64 0,.int .u64 0] 75)).setCells w3.heap.size 0 (c4 x):=⟨_,rfl⟩);(have h6:RW V3 w3.heap.size 0 (c4 x):=by rw [hV3];exact z3.stored (c4 x) rfl);(have bV:Below w3.heap.size w3 V3:=by rw [hV3];exact ac (JW _) _ _ _ ((Below.refl _ _).alloc (JW _) _));(have HV3:=Hid.mk' hV3);clear hV3 z3;(have w6l:w.heap.size≤w3.heap.size:=b.size);(have l2:=h2.lt);(have n26:g2≠w3.heap.size:=Nat.ne_of_lt l2);clear l2;(replace h5:=h5.still bV);(replace h2:=h2.still bV);(replace b:=aa b bV);clear bV)
  | (with_reducible (refine id (?_:wpList _ _ _ _ _ _));refine J2 rfl 75 _ _ rfl w3.heap.size 0 (c4 x).toArray rfl rfl t6 (cN x) (fS x) ?_;rw [List.toList_toArray,←HV3.out];clear t6 HV3))
 (try dsimp only [Act.put]);generalize w2.heap.size=g5 at *;generalize w3.heap.size=g6 at *
 cases hk:ok with
 | false =>
  have hnone:bv bs=none:=hno (by
   have h:=Hok.out;rw [hk] at h
   cases R with
   | none=>rfl
   | some _=>cases h)
  have t2:V3.there g2 0 (aw 0 0 0 0).toArray.size:=ej h2 _ _ _ _;clear hno hds hdo hk
  go_wp2_with (first
   | (refine be rfl 77 rfl _ gc ?_)
   | (with_reducible (refine id (?_:wpList _ _ _ _ _ _));refine J2 rfl 77 _ _ rfl g2 0 (aw 0 0 0 0).toArray rfl rfl t2 (a7 _ _ _ _) (bJ _ _ _ _) ?_))
  (try simp only [Exit.inBlock,Exit.then]);exact bodyPost_ret (am Tryz.results53 _ _ g2 0 (aw 0 0 0 0) _ rfl (h2.stored (aw 0 0 0 0) rfl).range Tryz.underlying77 rfl (bi _ _ _ _)) rfl ⟨_,30,rfl,ac w2l _ _ _ b,.inl ⟨rfl,gX,hnone⟩⟩
 | true =>
  have hR:R=some x:=by
   have h:=Hok.out;rw [hk] at h
   cases R with
   | none=>cases h
   | some _=>rw [Hx.out];rfl
  obtain ⟨xs,hxs⟩:∃ xs,xs=mj bs x:=⟨_,rfl⟩
  have hxsl:xs<pF:=by rw [hxs];exact EO bs hxl0
  have hds2:=hds x hR;have hdo2:=hdo x hR hxl0;rw [←hxs] at hds2 hdo2;have HX:=Hid.mk' hxs;clear hno hds hdo hk hR hxs Hx Hok
  obtain ⟨tt,ht⟩:∃ tt,tt=av xs y:=⟨_,rfl⟩
  have kB:∀ W,Calls Tryz.prog 97 #[.agg (c4 xs).toArray,.agg (c4 y).toArray] W fun e w'=>∃ s,e = .returned s∧gv W w' s 32 (dt xs y)∧Below W.heap.size W w':=fun W=>mB xs y hyl W
  have kA:∀ W,Calls Tryz.prog 92 #[.agg (c4 xs).toArray,.agg (c4 y).toArray] W fun e w'=>e = .returned (.agg (aw xs y 1 tt).toArray)∧Below W.heap.size W w':=fun W=>by rw [ht];exact rQ xs y hxsl hyl W
  have Ht:=Hid.mk' ht;clear ht;have c31:=(b.cell (p:=⟨bb,ob+31,none⟩) hlb).trans (hcl 31 (by decide));have e9:=Eo (bs 31) (hbs 31);have hb31:=hbs 31
  by_cases ho:bs 31 / 128=1
  · rw [ho] at e9
    have e9':bits .and .u8 (bs 31:Int) 128=128:=e9
    have hxv:xs=cj 0 x:=by rw [HX.out];unfold mj;rw [if_pos ho]
    have km:∀ W,Calls Tryz.prog 112 #[.agg (c4 0).toArray,.agg (c4 x).toArray] W fun e w'=>e = .returned (.agg (c4 xs).toArray)∧Below W.heap.size W w':=fun W=>by rw [hxv];exact dJ 0 x (by decide) hxl0 W
    clear e9 hxv
    go_upto_region 11 with (first
     | (refine be rfl 75 rfl _ jZ ?_)
     | (refine J3 rfl 75 _ rfl g6 0 rfl (c4 x) _ h6.range Tryz.underlying75 rfl aE ?_)
     | (go_at_call 112;refine (km _).mono ?_;clear km;rintro e w4 ⟨rfl,hb4⟩;(replace h2:=h2.still hb4);(replace h5:=h5.still hb4);(replace h6:=h6.still hb4);(replace b:=aa b hb4);clear hb4;(have t6:w4.there g6 0 (c4 xs).toArray.size:=h6.there);(obtain ⟨VV,hVV⟩:∃ V,V=w4.setCells g6 0 (c4 xs):=⟨_,rfl⟩);(replace h6:=h6.stored (c4 xs) rfl);(replace h2:=h2.far g6 0 (c4 xs) (.inl n26));(replace h5:=h5.far g6 0 (c4 xs) (.inl n56));(replace b:=ac w6l (c4 xs) 0 _ b);rw [←hVV] at h6 h2 h5 b;(have HV4:=Hid.mk' hVV);clear hVV)
     | (with_reducible (refine id (?_:wpList _ _ _ _ _ _));refine J2 rfl 75 _ _ rfl g6 0 (c4 xs).toArray rfl rfl t6 (cN xs) (fS xs) ?_;rw [List.toList_toArray,←HV4.out];clear t6 HV4))
    (try dsimp only [Act.put]);clear e9' c31
    have kb2:=fun W=>kB W
    clear kB
    by_cases heq:∀ j,j<32→dt xs y j=bs j
    · have es:=qS hyl hbs heq
      have hdec:=hds2 heq;obtain ⟨kok,P,hext,hon,hencP⟩:=xe hbs hdec
      have hr6:R6 (aw xs y 1 tt) P:=by rw [Ht.out];exact W6.r6 (p:=eO xs y) ⟨kok,hon,hext⟩
      have hsome:(bv bs).isSome=true:=by rw [hdec];rfl
      have ke:∀ W s,gv VV W s 32 (dt xs y)→Below VV.heap.size VV W→Calls Tryz.prog 113 #[s,.slice (some ⟨bb,ob,none⟩) 32 cap] W fun e w'=>e = .returned (.bool true)∧Below W.heap.size W w':=fun W s hs hb=>by
       have:=iP (iL.of (hs.bytes (by decide)) (gN xs hyl)) (iL.of ((hv0.still b).still hb) hbs);rw [es] at this;exact this
      clear heq es hdec kok hext hon
      go_wp2_with (first
       | (refine J3 rfl 75 _ rfl g6 0 rfl (c4 xs) _ h6.range Tryz.underlying75 rfl aE ?_)
       | (refine J3 rfl 75 _ rfl g5 0 rfl (c4 y) _ h5.range Tryz.underlying75 rfl aE ?_)
       | (go_at_call 97;refine (kb2 _).mono ?_;clear kb2;rintro e w7 ⟨s7,rfl,hn7,hb7⟩;(have ke2:=ke w7 s7 hn7 hb7);clear ke;(replace h6:=h6.still hb7);(replace h5:=h5.still hb7);(replace h2:=h2.still hb7);(replace b:=aa b hb7);clear hb7 hn7)
       | (go_at_call 113;refine ke2.mono ?_;clear ke2;rintro e w8 ⟨rfl,hb8⟩;(replace h6:=h6.still hb8);(replace h5:=h5.still hb8);(replace h2:=h2.still hb8);(replace b:=aa b hb8);clear hb8)
       | (go_at_call 92;refine (kA _).mono ?_;clear kA;rintro e w9 ⟨rfl,hb9⟩;(replace h2:=h2.still hb9);(replace b:=aa b hb9);clear hb9;(have t2:w9.there g2 0 (aw xs y 1 tt).toArray.size:=ej h2 _ _ _ _))
       | (with_reducible (refine id (?_:wpList _ _ _ _ _ _));refine J2 rfl 77 _ _ rfl g2 0 (aw xs y 1 tt).toArray rfl rfl t2 (a7 _ _ _ _) (bJ _ _ _ _) ?_))
      (try simp only [Exit.inBlock,Exit.then]);exact bodyPost_ret (am Tryz.results53 _ _ g2 0 (aw xs y 1 tt) _ rfl (h2.stored (aw xs y 1 tt) rfl).range Tryz.underlying77 rfl (bi _ _ _ _)) rfl ⟨_,0,rfl,ac w2l _ _ _ b,.inr ⟨rfl,hsome,P,hr6,hencP⟩⟩
    · have es:=qm hyl hbs heq
      have hnone:=hdo2 heq
      have ke:∀ W s,gv VV W s 32 (dt xs y)→Below VV.heap.size VV W→Calls Tryz.prog 113 #[s,.slice (some ⟨bb,ob,none⟩) 32 cap] W fun e w'=>e = .returned (.bool false)∧Below W.heap.size W w':=fun W s hs hb=>by
       have:=iP (iL.of (hs.bytes (by decide)) (gN xs hyl)) (iL.of ((hv0.still b).still hb) hbs);rw [es] at this;exact this
      clear heq es kA
      go_wp2_with (first
       | (refine J3 rfl 75 _ rfl g6 0 rfl (c4 xs) _ h6.range Tryz.underlying75 rfl aE ?_)
       | (refine J3 rfl 75 _ rfl g5 0 rfl (c4 y) _ h5.range Tryz.underlying75 rfl aE ?_)
       | (go_at_call 97;refine (kb2 _).mono ?_;clear kb2;rintro e w7 ⟨s7,rfl,hn7,hb7⟩;(have ke2:=ke w7 s7 hn7 hb7);clear ke;(replace h2:=h2.still hb7);(replace b:=aa b hb7);clear hb7 hn7)
       | (go_at_call 113;refine ke2.mono ?_;clear ke2;rintro e w8 ⟨rfl,hb8⟩;(replace h2:=h2.still hb8);(replace b:=aa b hb8);clear hb8;(have t2:w8.there g2 0 (aw 0 0 0 0).toArray.size:=ej h2 _ _ _ _))
       | (refine be rfl 77 rfl _ gc ?_)
       | (with_reducible (refine id (?_:wpList _ _ _ _ _ _));refine J2 rfl 77 _ _ rfl g2 0 (aw 0 0 0 0).toArray rfl rfl t2 (a7 _ _ _ _) (bJ _ _ _ _) ?_))
      (try simp only [Exit.inBlock,Exit.then]);exact bodyPost_ret (am Tryz.results53 _ _ g2 0 (aw 0 0 0 0) _ rfl (h2.stored (aw 0 0 0 0) rfl).range Tryz.underlying77 rfl (bi _ _ _ _)) rfl ⟨_,30,rfl,ac w2l _ _ _ b,.inl ⟨rfl,gX,hnone⟩⟩
  · have e9':bits .and .u8 (bs 31:Int) 128=0:=by rw [e9,show bs 31 / 128=0 by omega];rfl
    obtain rfl:xs=x:=by rw [HX.out];unfold mj;rw [if_neg ho]
    clear e9
    go_upto_region 11 with (fail)
    obtain ⟨VV,hVV⟩:∃ V,V=V3:=⟨_,rfl⟩
    rw [←hVV];rw [←hVV] at h6 h2 h5 b;clear hVV c31 e9'
    have kb2:=fun W=>kB W
    clear kB
    by_cases heq:∀ j,j<32→dt xs y j=bs j
    · have es:=qS hyl hbs heq
      have hdec:=hds2 heq;obtain ⟨kok,P,hext,hon,hencP⟩:=xe hbs hdec
      have hr6:R6 (aw xs y 1 tt) P:=by rw [Ht.out];exact W6.r6 (p:=eO xs y) ⟨kok,hon,hext⟩
      have hsome:(bv bs).isSome=true:=by rw [hdec];rfl
      have ke:∀ W s,gv VV W s 32 (dt xs y)→Below VV.heap.size VV W→Calls Tryz.prog 113 #[s,.slice (some ⟨bb,ob,none⟩) 32 cap] W fun e w'=>e = .returned (.bool true)∧Below W.heap.size W w':=fun W s hs hb=>by
       have:=iP (iL.of (hs.bytes (by decide)) (gN xs hyl)) (iL.of ((hv0.still b).still hb) hbs);rw [es] at this;exact this
      clear heq es hdec kok hext hon
      go_wp2_with (first
       | (refine J3 rfl 75 _ rfl g6 0 rfl (c4 xs) _ h6.range Tryz.underlying75 rfl aE ?_)
       | (refine J3 rfl 75 _ rfl g5 0 rfl (c4 y) _ h5.range Tryz.underlying75 rfl aE ?_)
       | (go_at_call 97;refine (kb2 _).mono ?_;clear kb2;rintro e w7 ⟨s7,rfl,hn7,hb7⟩;(have ke2:=ke w7 s7 hn7 hb7);clear ke;(replace h6:=h6.still hb7);(replace h5:=h5.still hb7);(replace h2:=h2.still hb7);(replace b:=aa b hb7);clear hb7 hn7)
       | (go_at_call 113;refine ke2.mono ?_;clear ke2;rintro e w8 ⟨rfl,hb8⟩;(replace h6:=h6.still hb8);(replace h5:=h5.still hb8);(replace h2:=h2.still hb8);(replace b:=aa b hb8);clear hb8)
       | (go_at_call 92;refine (kA _).mono ?_;clear kA;rintro e w9 ⟨rfl,hb9⟩;(replace h2:=h2.still hb9);(replace b:=aa b hb9);clear hb9;(have t2:w9.there g2 0 (aw xs y 1 tt).toArray.size:=ej h2 _ _ _ _))
       | (with_reducible (refine id (?_:wpList _ _ _ _ _ _));refine J2 rfl 77 _ _ rfl g2 0 (aw xs y 1 tt).toArray rfl rfl t2 (a7 _ _ _ _) (bJ _ _ _ _) ?_))
      (try simp only [Exit.inBlock,Exit.then]);exact bodyPost_ret (am Tryz.results53 _ _ g2 0 (aw xs y 1 tt) _ rfl (h2.stored (aw xs y 1 tt) rfl).range Tryz.underlying77 rfl (bi _ _ _ _)) rfl ⟨_,0,rfl,ac w2l _ _ _ b,.inr ⟨rfl,hsome,P,hr6,hencP⟩⟩
    · have es:=qm hyl hbs heq
      have hnone:=hdo2 heq
      have ke:∀ W s,gv VV W s 32 (dt xs y)→Below VV.heap.size VV W→Calls Tryz.prog 113 #[s,.slice (some ⟨bb,ob,none⟩) 32 cap] W fun e w'=>e = .returned (.bool false)∧Below W.heap.size W w':=fun W s hs hb=>by
       have:=iP (iL.of (hs.bytes (by decide)) (gN xs hyl)) (iL.of ((hv0.still b).still hb) hbs);rw [es] at this;exact this
      clear heq es kA
      go_wp2_with (first
       | (refine J3 rfl 75 _ rfl g6 0 rfl (c4 xs) _ h6.range Tryz.underlying75 rfl aE ?_)
       | (refine J3 rfl 75 _ rfl g5 0 rfl (c4 y) _ h5.range Tryz.underlying75 rfl aE ?_)
       | (go_at_call 97;refine (kb2 _).mono ?_;clear kb2;rintro e w7 ⟨s7,rfl,hn7,hb7⟩;(have ke2:=ke w7 s7 hn7 hb7);clear ke;(replace h2:=h2.still hb7);(replace b:=aa b hb7);clear hb7 hn7)
       | (go_at_call 113;refine ke2.mono ?_;clear ke2;rintro e w8 ⟨rfl,hb8⟩;(replace h2:=h2.still hb8);(replace b:=aa b hb8);clear hb8;(have t2:w8.there g2 0 (aw 0 0 0 0).toArray.size:=ej h2 _ _ _ _))
       | (refine be rfl 77 rfl _ gc ?_)
       | (with_reducible (refine id (?_:wpList _ _ _ _ _ _));refine J2 rfl 77 _ _ rfl g2 0 (aw 0 0 0 0).toArray rfl rfl t2 (a7 _ _ _ _) (bJ _ _ _ _) ?_))
      (try simp only [Exit.inBlock,Exit.then]);exact bodyPost_ret (am Tryz.results53 _ _ g2 0 (aw 0 0 0 0) _ rfl (h2.stored (aw 0 0 0 0) rfl).range Tryz.underlying77 rfl (bi _ _ _ _)) rfl ⟨_,30,rfl,ac w2l _ _ _ b,.inl ⟨rfl,gX,hnone⟩⟩
set_option maxRecDepth 20000 in
set_option maxHeartbeats 4000000 in
theorem DA (v:Value) (n:Nat) (bs:Nat→Nat) (w:World) (hv:ae w v n bs) (hn:n≠32) :
 Calls Tryz.prog 53 #[v] w fun e w'=>∃ c,e = .returned (.tuple #[.agg c.toArray,.int .i64 1])∧R6 c dR∧Below w.heap.size w w':=by
 have hzp:=eF;obtain ⟨xv,kv,rfl,-⟩:=hv.src
 have h1:¬((n:Int)=32):=by omega
 obtain ⟨W,g2,eW,hg2,b,h2⟩:=dM w;have HW:Hid (w.alloc (.cells zP 77)=W):=Hid.mk' eW;have Hg:Hid (w.heap.size=g2):=Hid.mk' hg2;have w2l:w.heap.size≤g2:=Nat.le_of_eq hg2;have t2:W.there g2 0 (aw 0 0 0 0).toArray.size:=ej h2 _ _ _ _;clear eW hg2 hv hn;go_enter Tryz.func53,Tryz.ntmps53
 go_wp2_with (first
  | (refine be rfl 77 rfl _ gc ?_)
  | (with_reducible (refine id (?_:wpList _ _ _ _ _ _));rw [HW.out,Hg.out];refine J2 rfl 77 _ _ rfl g2 0 (aw 0 0 0 0).toArray rfl rfl t2 (a7 _ _ _ _) (bJ _ _ _ _) ?_;clear HW Hg))
 (try simp only [Exit.inBlock,Exit.then]);exact bodyPost_ret (am Tryz.results53 _ _ g2 0 (aw 0 0 0 0) _ rfl (h2.stored (aw 0 0 0 0) rfl).range Tryz.underlying77 rfl (bi _ _ _ _)) rfl ⟨_,rfl,gX,ac w2l _ _ _ b⟩
set_option maxRecDepth 20000 in
set_option maxHeartbeats 4000000 in
theorem Ew (c:List Value) (v:Value) (n:Nat) (ks:Nat→Nat) (w:World) (hv:ae w v n ks) (hn:n≠32) :
 Calls Tryz.prog 91 #[.agg c.toArray,v] w fun e w'=>∃ c',e = .returned (.tuple #[.agg c'.toArray,.int .i64 1])∧R6 c' dR∧Below w.heap.size w w':=by
 have hzp:=eF;obtain ⟨xv,kv,rfl,-⟩:=hv.src
 have h1:¬((n:Int)=32):=by omega
 obtain ⟨V1,e1,b1⟩:∃ V,w.alloc (.cells c.toArray 77)=V∧Below w.heap.size w V:=⟨_,rfl,(Below.refl _ _).alloc (JW _) _⟩
 obtain ⟨W,g4,e4,hg4,b4,h4⟩:=dM V1
 have t1:V1.heap.size=w.heap.size+1:=by rw [←e1];simp
 have HW:Hid (W=(w.alloc (.cells c.toArray 77)).alloc (.cells zP 77)):=Hid.mk' (by rw [←e4,←e1]);have q4:Hid (w.heap.size+1=g4):=Hid.mk' (by omega)
 have w4l:w.heap.size≤g4:=by omega
 have hbW:Below w.heap.size w W:=aa b1 b4;have t4:W.there g4 0 (aw 0 0 0 0).toArray.size:=ej h4 _ _ _ _;clear e1 e4 hg4 b1 b4 t1 V1 hv hn;go_enter Tryz.func91,Tryz.ntmps91;go_wp2;go_step3
 go_wp2_with (first
  | (refine be rfl 77 rfl _ gc ?_)
  | (with_reducible (refine id (?_:wpList _ _ _ _ _ _));rw [←HW.out,q4.out];refine J2 rfl 77 _ _ rfl g4 0 (aw 0 0 0 0).toArray rfl rfl t4 (a7 _ _ _ _) (bJ _ _ _ _) ?_;clear HW q4))
 rw [Exit.noGoto_ret];(try simp only [Exit.inBlock,Exit.then]);exact bodyPost_ret (am Tryz.results91 _ _ g4 0 (aw 0 0 0 0) _ rfl (h4.stored (aw 0 0 0 0) rfl).range Tryz.underlying77 rfl (bi _ _ _ _)) rfl ⟨_,rfl,gX,ac w4l _ _ _ hbW⟩
theorem Aq:eB IM R6 where
 keep:=fun _ _ h hb=>h.still hb
 len:=fun _ _ h=>h.len
 one:=fun _ _ h=>h.one
 on:=fun _ _ h=>h.on
 base:=fun w _=>DD w
 zero:=fun w _=>(uo w).mono fun _ _ ⟨he,hb⟩=>⟨_,he,gX,hb⟩
 enc:=fun _ _ w h _=>EG h w
 plus:=fun _ _ _ _ w h k _=>C2 h k w
 same:=fun _ _ _ _ w h k _=>Bs h k w
 times:=fun _ _ v ks w h hks hv _=>Cw h v ks hks w hv
 timesBad:=fun c _ v n ks w _ hn hv _=>Ew c v n ks w hv hn
 dec:=fun v bs w hbs hv im=>zT v bs hbs w im hv
 decBad:=fun v n bs w hn hv _=>DA v n bs w hv hn
open Go Go.RowKit
def xW:List Nat:=[14190309331451158704,3405592160176694392,3120150775007532967,3135389899092516619]
theorem mE:Tryz.prog.cellsOf 71=1:=by kernel_rfl
theorem sD:Tryz.prog.cellsOf 73=4:=by kernel_rfl
theorem C7:Rows.laid_synod_field_rootOfMinusOne=(Lib.tabData .u64 (xW.map fun n:Nat=>(n:Int)):DataW Unit):=rfl
theorem Fr:Tryz.prog.globalNamed "synod/field.rootOfMinusOne" = some 5:=by kernel_rfl
theorem Jb:(Tryz.prog.globals[5]?).map (·.type)=some 73:=by kernel_rfl
theorem IX:c4 iM=(xW.map fun n:Nat=>Value.int .u64 (n:Int)):=by kernel_rfl
def Ix (cs:Array Value):Obj→Obj
 | .cells _ t frozen => .cells cs t frozen
 | o=>o
def Dm:List Nat:=[6346243789798364141,1503914060200516822,0,1152921504606846976]
theorem tp:Tryz.prog.cellsOf 72=4:=by kernel_rfl
theorem An:Rows.laid_synod_scalar_order=(Lib.tabData .u64 (Dm.map fun n:Nat=>(n:Int)):DataW Unit):=rfl
theorem Cc:Tryz.prog.globalNamed "synod/scalar.order" = some 2:=by kernel_rfl
theorem GE:(Tryz.prog.globals[2]?).map (·.type)=some 72:=by kernel_rfl
theorem Bj:Tryz.prog.cellsOf 3=1:=by kernel_rfl
theorem Cd:Tryz.prog.cellsOf 104=1:=by kernel_rfl
theorem qv:Tryz.prog.cellsOf 156=3:=by kernel_rfl
theorem uM:Tryz.prog.cellsOf 71=1:=by kernel_rfl
theorem vS:Tryz.prog.cellsOf 250=80:=by kernel_rfl
theorem zy:Tryz.prog.cellsOf 172=8:=by kernel_rfl
theorem mz {H:Type} {enc:TypeId × Value→H} {w:World} {base:Nat} {sp:Nat→Bool} {held:Bool} {fuel:Nat} {cs:List Value} {a b:Int} {x y z u:List Int} {p:List MemPlace}
 (h:DataW.trod enc Tryz.prog w base sp held fuel 158 cs=some (.agg [.lit (.int .i64 a),.lit (.int .i64 b),Lib.tabData .u64 x,Lib.tabData .u64 y,Lib.tabData .u64 z,Lib.tabData .u64 u],p)) :
 (cs.drop 0).take 1=[.int .i64 a]∧(cs.drop 1).take 1=[.int .i64 b]∧(cs.drop 2).take 3=x.map (fun v=>Value.int .u64 v)∧(cs.drop 5).take 3=y.map (fun v=>Value.int .u64 v)∧(cs.drop 8).take 3=z.map (fun v=>Value.int .u64 v)∧(cs.drop 11).take 3=u.map (fun v=>Value.int .u64 v):=by
 cases fuel with
 | zero=>simp [DataW.trod] at h
 | succ fuel =>
  simp only [DataW.trod,Tryz.underlying158] at h
  split at h
  · obtain ⟨xs,hm,hx⟩:=Option.map_eq_some_iff.1 h
    have hxs:=congrArg Prod.fst hx;simp only [DataW.agg.injEq] at hxs
    have hlen:xs.length=6:=by have:=congrArg List.length hxs;simpa using this
    have g:∀ i f,(i<6)→[(3,0),(3,1),(156,2),(156,5),(156,8),(156,11)][i]? = some f→∃ y,xs[i]? = some y∧DataW.trod enc Tryz.prog w base sp held fuel f.1 ((cs.drop f.2).take (Tryz.prog.cellsOf f.1))=some y:=fun i f hi hf=>by
     match i,hi,hf with
     | 0,_,hf=>cases hf;exact Lib.mapM_at hm 0 _ rfl
     | 1,_,hf=>cases hf;exact Lib.mapM_at hm 1 _ rfl
     | 2,_,hf=>cases hf;exact Lib.mapM_at hm 2 _ rfl
     | 3,_,hf=>cases hf;exact Lib.mapM_at hm 3 _ rfl
     | 4,_,hf=>cases hf;exact Lib.mapM_at hm 4 _ rfl
     | 5,_,hf=>cases hf;exact Lib.mapM_at hm 5 _ rfl
    match xs,hlen,hxs,g with
    | [x0,x1,x2,x3,x4,x5],_,hxs,g =>
     simp only [List.map_cons,List.map_nil,List.cons.injEq,and_true] at hxs;obtain ⟨e0,e1,e2,e3,e4,e5⟩:=hxs;obtain ⟨_,h0,t0⟩:=g 0 _ (by decide) rfl;obtain ⟨_,h1,t1⟩:=g 1 _ (by decide) rfl;obtain ⟨_,h2,t2⟩:=g 2 _ (by decide) rfl;obtain ⟨_,h3,t3⟩:=g 3 _ (by decide) rfl;obtain ⟨_,h4,t4⟩:=g 4 _ (by decide) rfl;obtain ⟨_,h5,t5⟩:=g 5 _ (by decide) rfl;cases h0;cases h1;cases h2;cases h3;cases h4;cases h5;rw [Bj] at t0 t1;rw [qv] at t2 t3 t4 t5;obtain ⟨z0,c0,r0,_⟩:=DataW.trod_int Tryz.underlying3 t0;obtain ⟨z1,c1,r1,_⟩:=DataW.trod_int Tryz.underlying3 t1;subst r0 r1;cases e0;cases e1
     have k:∀ {o:Nat} {v:DataW H × List MemPlace} {l:List Int},DataW.trod enc Tryz.prog w base sp held fuel 156 ((cs.drop o).take 3)=some v→v.1=Lib.tabData .u64 l→(cs.drop o).take 3=l.map (fun v=>Value.int .u64 v):=fun {o v l} ht he=>by
      obtain ⟨v1,v2⟩:=v;cases he;exact Lib.cells_of_tab Tryz.underlying156 Tryz.underlying104 Cd qv ht
     exact ⟨c0,c1,k t2 e2,k t3 e3,k t4 e4,k t5 e5⟩
  · cases h
theorem aP {cs:List Value} {o n:Nat} {l:List Value} (h:(cs.drop o).take n=l) (i:Nat) (hi:i<n):cs[o+i]? = l[i]?:=by
 rw [←h,List.getElem?_take,if_pos hi,List.getElem?_drop]
theorem zA:Rows.laid_synod_sha_cubes=(Lib.tabData .u64 (mb.map fun n:Nat=>(n:Int)):DataW Unit):=rfl
theorem ui:Rows.laid_synod_sha_squares=(Lib.tabData .u64 (gS.map fun n:Nat=>(n:Int)):DataW Unit):=rfl
theorem BP:Tryz.prog.globalNamed "synod/sha.cubes" = some 4:=by kernel_rfl
theorem uv:Tryz.prog.globalNamed "synod/sha.squares" = some 3:=by kernel_rfl
theorem zf:Tryz.prog.globalNamed "synod/sha.narrowRules" = some 0:=by kernel_rfl
theorem Gb:Tryz.prog.globalNamed "synod/sha.wideRules" = some 1:=by kernel_rfl
theorem HJ:(Tryz.prog.globals[4]?).map (·.type)=some 250:=by kernel_rfl
theorem C3:(Tryz.prog.globals[3]?).map (·.type)=some 172:=by kernel_rfl
theorem EA:(Tryz.prog.globals[0]?).map (·.type)=some 158:=by kernel_rfl
theorem IU:(Tryz.prog.globals[1]?).map (·.type)=some 158:=by kernel_rfl
theorem vM {W:World} {name:String} {g:Nat} {l:List Nat} {cs:Array Value} (hg:Tryz.prog.globalNamed name=some g) (hv:W.var? Tryz.prog name=some cs) (hc:cs.toList=(l.map fun n:Nat=>(n:Int)).map fun z=>Value.int .u64 z) (j:Nat) (hj:j<l.length):W.cell? ⟨g,j,none⟩=some (.int .u64 ((l.getD j 0:Nat):Int)):=by
 rw [World.var?_cell hg hv j,←Array.getElem?_toList,hc];simp [List.getD,hj]
def G7 (W:World):Prop:=IM W∧nl W∧ep W aS aC
theorem G7.keep {w w':World} (h:G7 w) (hb:Below w.heap.size w w'):G7 w':=⟨h.1.still hb,h.2.1.still hb,h.2.2.below hb h.2.2.size⟩
theorem G8:gi G7 R6:=⟨Aq.more (fun _ h=>h.1) (fun _ _ h hb=>h.keep hb),fun _ h=>h.2.2,fun _ h=>h.2.1⟩
theorem vY {W:World} (h:laidMetH Tryz.prog [("synod/field.rootOfMinusOne", Rows.laid_synod_field_rootOfMinusOne),("synod/sha.cubes", Rows.laid_synod_sha_cubes),("synod/sha.squares", Rows.laid_synod_sha_squares),("synod/sha.narrowRules", Rows.laid_synod_sha_narrowRules),("synod/sha.wideRules", Rows.laid_synod_sha_wideRules),("synod/scalar.order", Rows.laid_synod_scalar_order)] W):G7 W:=by
 have h':laidMet Tryz.prog [("synod/field.rootOfMinusOne", Rows.laid_synod_field_rootOfMinusOne),("synod/sha.cubes", Rows.laid_synod_sha_cubes),("synod/sha.squares", Rows.laid_synod_sha_squares),("synod/sha.narrowRules", Rows.laid_synod_sha_narrowRules),("synod/sha.wideRules", Rows.laid_synod_sha_wideRules),("synod/scalar.order", Rows.laid_synod_scalar_order)] W:=h;obtain ⟨ps,⟨g1,t1,cs1,f1,p1,q1,hg1,ht1,hv1,hd1,⟨g2,t2,cs2,f2,p2,q2,hg2,ht2,hv2,hd2,⟨g3,t3,cs3,f3,p3,q3,hg3,ht3,hv3,hd3,⟨g4,t4,cs4,f4,p4,q4,hg4,ht4,hv4,hd4,⟨g5,t5,cs5,f5,p5,q5,hg5,ht5,hv5,hd5,⟨g6,t6,cs6,f6,p6,q6,hg6,ht6,hv6,hd6,_,_⟩,_⟩,_⟩,_⟩,_⟩,_⟩,_⟩:=h';obtain rfl:=Option.some.inj (Fr.symm.trans hg1);obtain rfl:=Option.some.inj (Jb.symm.trans ht1);obtain rfl:=Option.some.inj (BP.symm.trans hg2);obtain rfl:=Option.some.inj (HJ.symm.trans ht2);obtain rfl:=Option.some.inj (uv.symm.trans hg3);obtain rfl:=Option.some.inj (C3.symm.trans ht3);obtain rfl:=Option.some.inj (zf.symm.trans hg4);obtain rfl:=Option.some.inj (EA.symm.trans ht4);obtain rfl:=Option.some.inj (Gb.symm.trans hg5);obtain rfl:=Option.some.inj (IU.symm.trans ht5);obtain rfl:=Option.some.inj (Cc.symm.trans hg6);obtain rfl:=Option.some.inj (GE.symm.trans ht6);rw [C7] at hd1;rw [An] at hd6;rw [zA] at hd2;rw [ui] at hd3;have c1:=Lib.cells_of_tab Tryz.underlying250 Tryz.underlying71 uM vS hd2;have c2:=Lib.cells_of_tab Tryz.underlying172 Tryz.underlying71 uM zy hd3;obtain ⟨a0,a1,a2,a3,a4,a5⟩:=mz (a:=32) (b:=64) (x:=[7,18,3]) (y:=[17,19,10]) (z:=[2,13,22]) (u:=[6,11,25]) hd4;obtain ⟨b0,b1,b2,b3,b4,b5⟩:=mz (a:=64) (b:=80) (x:=[1,8,7]) (y:=[19,61,6]) (z:=[28,34,39]) (u:=[14,18,41]) hd5
 have n:∀ j,W.cell? ⟨0,j,none⟩=cs4.toList[j]?:=fun j=>by rw [World.var?_cell zf hv4 j,Array.getElem?_toList]
 have v:∀ j,W.cell? ⟨1,j,none⟩=cs5.toList[j]?:=fun j=>by rw [World.var?_cell Gb hv5 j,Array.getElem?_toList]
 have c0:=Lib.cells_of_tab Tryz.underlying73 Tryz.underlying71 mE sD hd1;have c6:=Lib.cells_of_tab Tryz.underlying72 Tryz.underlying71 mE tp hd6
 have hr:W.rangeAt 5 0 (c4 iM):=fun j v hv=>by
  rw [Nat.zero_add,World.var?_cell Fr hv1 j,←Array.getElem?_toList,c0,←hv,IX];simp [xW]
 refine ⟨⟨hr,block_lt_of_cell (hr 0 _ rfl)⟩,fun j hj => ?_,fun j hj=>vM BP hv2 c1 j hj,fun j hj=>vM uv hv3 c2 j hj,?_,?_,Dv,oW⟩
 · rw [World.var?_cell Cc hv6 j,←Array.getElem?_toList,c6]
   have h:j=0∨j=1∨j=2∨j=3:=by omega
   rcases h with rfl | rfl | rfl | rfl <;> rfl
 · exact ⟨(n 0).trans (aP a0 0 (by decide)),(n 1).trans (aP a1 0 (by decide)),(n 2).trans (aP a2 0 (by decide)),(n 3).trans (aP a2 1 (by decide)),(n 4).trans (aP a2 2 (by decide)),(n 5).trans (aP a3 0 (by decide)),(n 6).trans (aP a3 1 (by decide)),(n 7).trans (aP a3 2 (by decide)),(n 8).trans (aP a4 0 (by decide)),(n 9).trans (aP a4 1 (by decide)),(n 10).trans (aP a4 2 (by decide)),(n 11).trans (aP a5 0 (by decide)),(n 12).trans (aP a5 1 (by decide)),(n 13).trans (aP a5 2 (by decide))⟩
 · exact ⟨(v 0).trans (aP b0 0 (by decide)),(v 1).trans (aP b1 0 (by decide)),(v 2).trans (aP b2 0 (by decide)),(v 3).trans (aP b2 1 (by decide)),(v 4).trans (aP b2 2 (by decide)),(v 5).trans (aP b3 0 (by decide)),(v 6).trans (aP b3 1 (by decide)),(v 7).trans (aP b3 2 (by decide)),(v 8).trans (aP b4 0 (by decide)),(v 9).trans (aP b4 1 (by decide)),(v 10).trans (aP b4 2 (by decide)),(v 11).trans (aP b5 0 (by decide)),(v 12).trans (aP b5 1 (by decide)),(v 13).trans (aP b5 2 (by decide))⟩
def EQ (l:List Nat):Array Value:=(l.map fun n:Nat=>Value.int .u64 (n:Int)).toArray
def IK (m r:Nat) (l:List Nat):Array Value:=([Value.int .i64 m,.int .i64 r] ++ l.map fun n:Nat=>Value.int .u64 (n:Int)).toArray
noncomputable def jV (os:Os):World :=
 { World.holding Tryz.prog os ⟨#[],#[],[]⟩ with heap:=(((((((World.holding Tryz.prog os ⟨#[],#[],[]⟩).heap.modify 5 (Ix (EQ xW))).modify 2 (Ix (EQ Dm))).modify 4 (Ix (EQ mb))).modify 3 (Ix (EQ gS))).modify 0 (Ix (IK 32 64 [7,18,3,17,19,10,2,13,22,6,11,25]))).modify 1 (Ix (IK 64 80 [1,8,7,19,61,6,28,34,39,14,18,41]))) }
end Go.Proofs.YtibdhadbflfdpaaGreatDoor
