/- What the proof stands on: PEnc, PTab. -/
import Derived.Test.YtibdhadbflfdpaaGreatDoorD1RBM
import Derived.Test.YtibdhadbflfdpaaGreatDoorPWholeM
namespace Go.Proofs.YtibdhadbflfdpaaGreatDoor
open Nat renaming le_refl → JW
open Go renaming wpAnyH_ready → J1
open Go renaming wpAnyH_done → J4
open Go.AllReadyH renaming nil → J6
open Go.AllReadyH renaming cons → J7
open Go.NoPanic renaming normal → J8
open Go.RowKit
theorem gv.from {w v w':World} {s:Value} {n:Nat} {X:Nat→Nat} (h:gv v w' s n X) (hs:w.heap.size≤v.heap.size):gv w w' s n X:=by
 obtain ⟨g,cap,e,hc,hg,hr⟩:=h;exact ⟨g,cap,e,hc,Nat.le_trans hs hg,hr⟩
theorem rG (x:Nat) (hx:x<pF) (w:World):Calls Tryz.prog 96 #[ag x] w fun e w'=>e = .returned (ag (de x))∧Below w.heap.size w w':=by
 unfold de;exact uX x hx w
theorem AA {r:N4} {P:Fp × Fp} (hr:W6 r P):∃ iz ax ay:Nat,
 (∀ W,Calls Tryz.prog 96 #[ag r.Z] W fun e w'=>e = .returned (ag iz)∧Below W.heap.size W w') ∧
 (∀ W,Calls Tryz.prog 98 #[ag r.X,ag iz] W fun e w'=>e = .returned (ag ax)∧Below W.heap.size W w') ∧
 (∀ W,Calls Tryz.prog 98 #[ag r.Y,ag iz] W fun e w'=>e = .returned (ag ay)∧Below W.heap.size W w') ∧
 (∀ W,Calls Tryz.prog 97 #[ag ax,ag ay] W fun e w'=>∃ s,e = .returned s∧gv W w' s 32 (da P)∧Below W.heap.size W w'):=by
 have e:=oZ hr.ok hr.ext
 have k:=fun W=>rG r.Z hr.ok.Z W
 have l:=tw r.Z;generalize de r.Z=iz at *;refine ⟨iz,av r.X iz,av r.Y iz,k,fun W=>aI _ _ hr.ok.X l W,fun W=>aI _ _ hr.ok.Y l W,fun W => ?_⟩;rw [←e];exact mB _ _ (aJ _ _) W
set_option maxRecDepth 20000 in
set_option maxHeartbeats 8000000 in
theorem EG {c:List Value} {P:Fp × Fp} (hP:R6 c P) (w:World) :
 Calls Tryz.prog 45 #[.agg c.toArray] w fun e w'=>∃ s,e = .returned s∧gv w w' s 32 (da P)∧Below w.heap.size w w':=by
 have kc:=fun W=>eK hP W
 have lc:=hP.len;clear hP
 obtain ⟨W,g1,eg1,hg1,hw,hc⟩:∃ V g,w.alloc (.cells c.toArray 77)=V∧w.heap.size=g∧Below w.heap.size w V∧RW V g 0 c:=⟨_,_,rfl,rfl,(Below.refl _ _).alloc (JW _) _,RW.fresh w _ _⟩
 have HW:Hid (w.alloc (.cells c.toArray 77)=W):=Hid.mk' eg1;have q1:Hid (w.heap.size=g1):=Hid.mk' hg1;have w1l:w.heap.size≤g1:=Nat.le_of_eq hg1;clear eg1 hg1;go_enter Tryz.func45,Tryz.ntmps45
 go_upto_region 3 with (first
  | (rw [HW.out,q1.out];refine wpList_load_mid rfl 77 _ rfl g1 0 rfl c _ hc.range Tryz.underlying77 rfl (fX lc) ?_;clear HW q1)
  | (go_at_call 95;refine (kc _).mono ?_;clear kc;rintro e w4 ⟨r,rfl,hr,hb4⟩;(replace hc:=hc.still hb4);(replace hw:=aa hw hb4);clear hb4;(have t4:w4.there g1 0 (aw r.X r.Y r.Z r.T).toArray.size:=io hc lc rfl);(obtain ⟨V4,hV4⟩:∃ V,V=w4.setCells g1 0 (aw r.X r.Y r.Z r.T):=⟨_,rfl⟩);(have hp:RW V4 g1 0 (aw r.X r.Y r.Z r.T):=by rw [hV4];exact hc.stored _ lc.symm);(replace hw:=ac w1l (aw r.X r.Y r.Z r.T) 0 _ hw);rw [←hV4] at hw;(have H4:=Hid.mk' hV4);clear hV4 hc;(obtain ⟨hX,hY,hZ,-⟩:=jp hp);clear hp;(obtain ⟨iz,ax,ay,kI2',cX,cY,cB⟩:=AA hr);(have kI2:∀ W,Calls Tryz.prog 96 #[.agg (c4 r.Z).toArray] W fun e w'=>e = .returned (.agg (c4 iz).toArray)∧Below W.heap.size W w':=kI2');clear kI2';clear hr)
  | (with_reducible (refine id (?_:wpList _ _ _ _ _ _));refine wpList_store_mid rfl 77 _ _ rfl g1 0 (aw r.X r.Y r.Z r.T).toArray rfl rfl t4 (a7 _ _ _ _) (bJ _ _ _ _) ?_;rw [List.toList_toArray,←H4.out];clear t4 H4)
  | (refine wpList_load_mid rfl 75 _ rfl g1 8 rfl (c4 r.Z) _ hZ.range Tryz.underlying75 rfl aE ?_)
  | (go_at_call 96;refine (kI2 _).mono ?_;clear kI2 hZ;rintro e w1 ⟨rfl,hb1⟩;(replace hX:=hX.still hb1);(replace hY:=hY.still hb1);(replace hw:=aa hw hb1);clear hb1;(have z1:=gj w1);(have t1:=jh w1 iz);(obtain ⟨V5,hV5⟩:∃ V,V=(w1.alloc (.cells #[.int .u64 0,.int .u64 0,.int .u64 0,.int .u64 0] 75)).setCells w1.heap.size 0 (c4 iz):=⟨_,rfl⟩);(have h3:RW V5 w1.heap.size 0 (c4 iz):=by rw [hV5];exact z1.stored (c4 iz) rfl);(have b1:Below w1.heap.size w1 V5:=by rw [hV5];exact ac (JW _) _ _ _ ((Below.refl _ _).alloc (JW _) _));(have H5:=Hid.mk' hV5);clear hV5 z1;(replace hX:=hX.still b1);(replace hY:=hY.still b1);(replace hw:=aa hw b1);clear b1)
  | (with_reducible (refine id (?_:wpList _ _ _ _ _ _));refine wpList_store_mid rfl 75 _ _ rfl w1.heap.size 0 (c4 iz).toArray rfl rfl t1 (cN iz) (fS iz) ?_;rw [List.toList_toArray,←H5.out];clear t1 H5))
 (try dsimp only [Act.put]);generalize w1.heap.size=g3 at *;have hdrew:Below V5.heap.size V5 V5.drew:=(Below.refl _ _).drew;replace hX:=hX.still hdrew;replace hY:=hY.still hdrew;replace h3:=h3.still hdrew;replace hw:=aa hw hdrew;clear hdrew;refine wp_region_noPanic ?_;refine wp_region_held_drew (S:=fun w'=>Below V5.drew.heap.size V5.drew w') (by kernel_rfl) (Below.refl _ _) (fun hHeld => ?_);clear hHeld;refine tk 0 (pA g1 0) bR (hy:=yR) (h := ?_);(try simp only [pS]);refine tk 1 (ag r.X) bR (hy:=(d9 hX 75 9 Tryz.underlying75 aE)) (h := ?_);(try simp only [pS]);refine tk 2 (ag iz) bR (hy:=(d9 h3 75 3 Tryz.underlying75 aE)) (h := ?_);(try simp only [pS]);refine tk 4 (pA g1 4) bR (hy:=yR) (h := ?_);(try simp only [pS]);refine tk 5 (ag r.Y) bR (hy:=(d9 hY 75 13 Tryz.underlying75 aE)) (h := ?_);(try simp only [pS]);refine tk 6 (ag iz) bR (hy:=(d9 h3 75 3 Tryz.underlying75 aE)) (h := ?_);(try simp only [pS]);refine cn 3 (cX _) ?_;(clear cX;rintro e w5 ⟨rfl,hb5⟩);refine ⟨_,rfl,hb5,?_⟩;clear hX;replace hY:=hY.still hb5;replace h3:=h3.still hb5;replace hw:=aa hw hb5;clear hb5;(try simp only [pS]);refine cn 7 (cY _) ?_;(clear cY;rintro e w6 ⟨rfl,hb6⟩);refine ⟨_,rfl,hb6,?_⟩;clear hY;clear h3;replace hw:=aa hw hb6;clear hb6;(try simp only [pS]);refine cn 8 (cB _) ?_;(clear cB;rintro e w7 ⟨s7,rfl,hn7,hb7⟩;(have hq:=gv.from hn7 hw.size);clear hn7);refine ⟨_,rfl,hb7,?_⟩;replace hw:=aa hw hb7;clear hb7;(try simp only [pS]);refine tg 9 bR ?_;(try simp only [pS]);refine J4 (by kernel_rfl) ?_ _;refine J8 ?_;go_wp2;go_ret;exact ⟨_,rfl,hq,hw⟩
theorem Ih {r s:N4} {P Q:Fp × Fp} (hr:W6 r P) (hs:W6 s Q):(av r.X s.Z=av s.X r.Z∧av r.Y s.Z=av s.Y r.Z)↔P=Q:=by
 rw [←B3 hr.ext hs.ext,←gt,←gt,←gt,←gt];exact ⟨fun ⟨h1,h2⟩=>⟨by rw [h1],by rw [h2]⟩,fun ⟨h1,h2⟩=>⟨CY (aJ _ _) (aJ _ _) h1,CY (aJ _ _) (aJ _ _) h2⟩⟩
set_option maxRecDepth 20000 in
set_option maxHeartbeats 16000000 in
theorem Bs {c d:List Value} {P Q:Fp × Fp} (hP:R6 c P) (hQ:R6 d Q) (w:World) :
 Calls Tryz.prog 55 #[.agg c.toArray,.agg d.toArray] w fun e w'=>e = .returned (.bool (decide (P=Q)))∧Below w.heap.size w w':=by
 have kc:=fun W=>eK hP W
 have kd:=fun W=>eK hQ W
 have lc:=hP.len;have ld:=hQ.len;clear hP hQ
 obtain ⟨z,hz⟩:∃ z,z=decide (P=Q):=⟨_,rfl⟩
 rw [←hz];have Hz:=Hid.mk' hz;clear hz
 obtain ⟨V1,g2,eg2,hg2,bg2,hc⟩:∃ V g,w.alloc (.cells c.toArray 77)=V∧w.heap.size=g∧Below w.heap.size w V∧RW V g 0 c:=⟨_,_,rfl,rfl,(Below.refl _ _).alloc (JW _) _,RW.fresh w _ _⟩
 obtain ⟨W,g3,eg3,hg3,bg3,hd⟩:∃ V g,V1.alloc (.cells d.toArray 77)=V∧V1.heap.size=g∧Below V1.heap.size V1 V∧RW V g 0 d:=⟨_,_,rfl,rfl,(Below.refl _ _).alloc (JW _) _,RW.fresh V1 _ _⟩
 have t1:V1.heap.size=w.heap.size+1:=by rw [←eg2];simp
 have HW:Hid (W=(w.alloc (.cells c.toArray 77)).alloc (.cells d.toArray 77)):=Hid.mk' (by rw [←eg3,←eg2]);have q2:Hid (w.heap.size=g2):=Hid.mk' hg2;have q3:Hid (w.heap.size+1=g3):=Hid.mk' (by omega);replace hc:=hc.still bg3;have hbW:Below w.heap.size w W:=bg2.trans (bg3.mono (by omega))
 have w2l:w.heap.size≤g2:=by omega
 have w3l:w.heap.size≤g3:=by omega
 have n23:g2≠g3:=by omega
 clear eg2 eg3 hg2 hg3 bg2 bg3 t1 V1;go_enter Tryz.func55,Tryz.ntmps55
 go_upto_region 1 with (fail)
 rw [←HW.out,q3.out,q2.out];clear HW q3 q2
 go_cut [] from 5 (fun wc=>∃ r s:N4,W6 r P∧W6 s Q∧Below w.heap.size w wc∧RW wc g2 0 (aw r.X r.Y r.Z r.T)∧RW wc g3 0 (aw s.X s.Y s.Z s.T))
 case first =>
  clear Hz;have hdrew:Below W.heap.size W W.drew:=(Below.refl _ _).drew;replace hc:=hc.still hdrew;replace hd:=hd.still hdrew;refine wp_region_noPanic ?_;refine wp_region_held_drew (S:=fun _=>True) (by kernel_rfl) trivial (fun _ => ?_);replace hbW:=aa hbW hdrew;generalize W.drew=Vs_ at *;refine J1 (rs:=[0,2]) (by kernel_rfl) (by simp) ?_;refine J7 (o:=oN 5 (Op.load 77 (oT 2)) 77 "point.go:88" #[]) rfl (fun K hK => ?_) (J7 (o:=oN 7 (Op.load 77 (oT 3)) 77 "point.go:88" #[]) rfl (fun K hK => ?_) (J6))
  · rw [if_pos (by rfl)]
    refine wp_load_mid 77 _ rfl g2 0 rfl (c) _ hc.range Tryz.underlying77 rfl (fX lc) ?_;refine hK.out _ _ trivial (fun h => ?_);clear h hK K;rw [show Value.agg (c).toArray = .agg c.toArray from rfl];(try simp only [pS]);refine J1 (rs:=[1,2]) (by kernel_rfl) (by simp) ?_;refine J7 (o:=oN 6 (dA 95 #[oT 5] #[77]) 77 "point.go:88" #[jD 0]) rfl (fun K hK => ?_) (J7 (o:=oN 7 (Op.load 77 (oT 3)) 77 "point.go:88" #[]) rfl (fun K hK => ?_) (J6))
    · go_simp
      (go_at_call 95;refine (kc _).mono ?_;clear kc;rintro e ws_2 ⟨r,rfl,hr,hb9⟩;(replace hc:=hc.still hb9);(replace hd:=hd.still hb9);(replace hbW:=aa hbW hb9);clear hb9);(try go_simp);refine hK.out _ _ trivial (fun h => ?_);clear h hK K;(try simp only [pS]);refine J1 (rs:=[2]) (by kernel_rfl) (by simp) ?_;refine J7 (o:=oN 7 (Op.load 77 (oT 3)) 77 "point.go:88" #[]) rfl (fun K hK => ?_) (J6);rw [if_pos (by rfl)];refine wp_load_mid 77 _ rfl g3 0 rfl (d) _ hd.range Tryz.underlying77 rfl (fX ld) ?_;refine hK.out _ _ trivial (fun h => ?_);clear h hK K;rw [show Value.agg (d).toArray = .agg d.toArray from rfl];(try simp only [pS]);refine J1 (rs:=[3]) (by kernel_rfl) (by simp) ?_;refine J7 (o:=oN 8 (dA 95 #[oT 7] #[77]) 77 "point.go:88" #[jD 2,jC 1]) rfl (fun K hK => ?_) (J6);go_simp;(go_at_call 95;refine (kd _).mono ?_;clear kd;rintro e ws_4 ⟨s,rfl,hs,hb9⟩;(replace hc:=hc.still hb9);(replace hd:=hd.still hb9);(replace hbW:=aa hbW hb9);clear hb9);(try go_simp);refine hK.out _ _ trivial (fun h => ?_);clear h hK K;(try simp only [pS]);refine J1 (rs:=[4]) (by kernel_rfl) (by simp) ?_;refine J7 (o:=oS (Op.store 77 (oT 2) (oT 6)) "point.go:88" #[jD 1,jC 3,jP 0,jP 1,jT 2,jU 3]) rfl (fun K hK => ?_) (J6);rw [if_pos (by rfl)];refine wp_store_mid 77 _ _ rfl g2 0 (aw r.X r.Y r.Z r.T).toArray rfl rfl (io hc lc rfl) (a7 _ _ _ _) (bJ _ _ _ _) ?_;have Os_5:=aT.setCells (b:=g2) (o:=0) (n:=(aw r.X r.Y r.Z r.T).length) ws_4 (aw r.X r.Y r.Z r.T) (JW _) (JW _);replace hbW:=ac w2l (aw r.X r.Y r.Z r.T) 0 _ hbW;replace hc:=hc.stored (aw r.X r.Y r.Z r.T) lc.symm;replace hd:=hd.far g2 0 (aw r.X r.Y r.Z r.T) (.inl (by omega))
      obtain ⟨ws_5,hws_5⟩:∃ W,ws_4.setCells g2 0 (aw r.X r.Y r.Z r.T)=W:=⟨_,rfl⟩
      rw [hws_5] at hd;rw [hws_5] at hc;rw [hws_5] at Os_5;rw [hws_5] at hbW;rw [show ws_4.setCells g2 0 (aw r.X r.Y r.Z r.T).toArray.toList=ws_5 from hws_5];refine hK.out _ _ trivial (fun h => ?_);clear h hK K hws_5;(try dsimp only [Act.put]);refine J1 (rs:=[5]) (by kernel_rfl) (by simp) ?_;refine J7 (o:=oS (Op.store 77 (oT 3) (oT 8)) "point.go:88" #[jD 3,jC 4,jP 0,jP 1,jP 2,jP 3,jP 4]) rfl (fun K hK => ?_) (J6);rw [if_pos (by rfl)];refine wp_store_mid 77 _ _ rfl g3 0 (aw s.X s.Y s.Z s.T).toArray rfl rfl (io hd ld rfl) (a7 _ _ _ _) (bJ _ _ _ _) ?_;have Os_6:=aT.setCells (b:=g3) (o:=0) (n:=(aw s.X s.Y s.Z s.T).length) ws_5 (aw s.X s.Y s.Z s.T) (JW _) (JW _);replace hbW:=ac w3l (aw s.X s.Y s.Z s.T) 0 _ hbW;replace hd:=hd.stored (aw s.X s.Y s.Z s.T) ld.symm;replace hc:=hc.far g3 0 (aw s.X s.Y s.Z s.T) (.inl (by omega))
      obtain ⟨ws_6,hws_6⟩:∃ W,ws_5.setCells g3 0 (aw s.X s.Y s.Z s.T)=W:=⟨_,rfl⟩
      rw [hws_6] at hc;rw [hws_6] at hd;rw [hws_6] at Os_6;rw [hws_6] at hbW;rw [show ws_5.setCells g3 0 (aw s.X s.Y s.Z s.T).toArray.toList=ws_6 from hws_6];refine hK.out _ _ trivial (fun h => ?_);clear h hK K hws_6;(try dsimp only [Act.put]);refine J4 (by kernel_rfl) ?_ _;refine J8 ?_;go_wp2;go_meet
      case rel=>exact ⟨r,s,hr,hs,hbW,hc,hd⟩
    · rw [if_pos (by rfl)]
      refine wp_load_mid 77 _ rfl g3 0 rfl (d) _ hd.range Tryz.underlying77 rfl (fX ld) ?_;refine hK.out _ _ trivial (fun h => ?_);clear h hK K;rw [show Value.agg (d).toArray = .agg d.toArray from rfl];(try simp only [pS]);refine J1 (rs:=[1]) (by kernel_rfl) (by simp) ?_;refine J7 (o:=oN 6 (dA 95 #[oT 5] #[77]) 77 "point.go:88" #[jD 0]) rfl (fun K hK => ?_) (J6);go_simp;(go_at_call 95;refine (kc _).mono ?_;clear kc;rintro e ws_8 ⟨r,rfl,hr,hb9⟩;(replace hc:=hc.still hb9);(replace hd:=hd.still hb9);(replace hbW:=aa hbW hb9);clear hb9);(try go_simp);refine hK.out _ _ trivial (fun h => ?_);clear h hK K;(try simp only [pS]);refine J1 (rs:=[3]) (by kernel_rfl) (by simp) ?_;refine J7 (o:=oN 8 (dA 95 #[oT 7] #[77]) 77 "point.go:88" #[jD 2,jC 1]) rfl (fun K hK => ?_) (J6);go_simp;(go_at_call 95;refine (kd _).mono ?_;clear kd;rintro e ws_9 ⟨s,rfl,hs,hb9⟩;(replace hc:=hc.still hb9);(replace hd:=hd.still hb9);(replace hbW:=aa hbW hb9);clear hb9);(try go_simp);refine hK.out _ _ trivial (fun h => ?_);clear h hK K;(try simp only [pS]);refine J1 (rs:=[4]) (by kernel_rfl) (by simp) ?_;refine J7 (o:=oS (Op.store 77 (oT 2) (oT 6)) "point.go:88" #[jD 1,jC 3,jP 0,jP 1,jT 2,jU 3]) rfl (fun K hK => ?_) (J6);rw [if_pos (by rfl)];refine wp_store_mid 77 _ _ rfl g2 0 (aw r.X r.Y r.Z r.T).toArray rfl rfl (io hc lc rfl) (a7 _ _ _ _) (bJ _ _ _ _) ?_;have Os_10:=aT.setCells (b:=g2) (o:=0) (n:=(aw r.X r.Y r.Z r.T).length) ws_9 (aw r.X r.Y r.Z r.T) (JW _) (JW _);replace hbW:=ac w2l (aw r.X r.Y r.Z r.T) 0 _ hbW;replace hc:=hc.stored (aw r.X r.Y r.Z r.T) lc.symm;replace hd:=hd.far g2 0 (aw r.X r.Y r.Z r.T) (.inl (by omega))
      obtain ⟨ws_10,hws_10⟩:∃ W,ws_9.setCells g2 0 (aw r.X r.Y r.Z r.T)=W:=⟨_,rfl⟩
      rw [hws_10] at hd;rw [hws_10] at hc;rw [hws_10] at Os_10;rw [hws_10] at hbW;rw [show ws_9.setCells g2 0 (aw r.X r.Y r.Z r.T).toArray.toList=ws_10 from hws_10];refine hK.out _ _ trivial (fun h => ?_);clear h hK K hws_10;(try dsimp only [Act.put]);refine J1 (rs:=[5]) (by kernel_rfl) (by simp) ?_;refine J7 (o:=oS (Op.store 77 (oT 3) (oT 8)) "point.go:88" #[jD 3,jC 4,jP 0,jP 1,jP 2,jP 3,jP 4]) rfl (fun K hK => ?_) (J6);rw [if_pos (by rfl)];refine wp_store_mid 77 _ _ rfl g3 0 (aw s.X s.Y s.Z s.T).toArray rfl rfl (io hd ld rfl) (a7 _ _ _ _) (bJ _ _ _ _) ?_;have Os_11:=aT.setCells (b:=g3) (o:=0) (n:=(aw s.X s.Y s.Z s.T).length) ws_10 (aw s.X s.Y s.Z s.T) (JW _) (JW _);replace hbW:=ac w3l (aw s.X s.Y s.Z s.T) 0 _ hbW;replace hd:=hd.stored (aw s.X s.Y s.Z s.T) ld.symm;replace hc:=hc.far g3 0 (aw s.X s.Y s.Z s.T) (.inl (by omega))
      obtain ⟨ws_11,hws_11⟩:∃ W,ws_10.setCells g3 0 (aw s.X s.Y s.Z s.T)=W:=⟨_,rfl⟩
      rw [hws_11] at hc;rw [hws_11] at hd;rw [hws_11] at Os_11;rw [hws_11] at hbW;rw [show ws_10.setCells g3 0 (aw s.X s.Y s.Z s.T).toArray.toList=ws_11 from hws_11];refine hK.out _ _ trivial (fun h => ?_);clear h hK K hws_11;(try dsimp only [Act.put]);refine J4 (by kernel_rfl) ?_ _;refine J8 ?_;go_wp2;go_meet
      case rel=>exact ⟨r,s,hr,hs,hbW,hc,hd⟩
  · rw [if_pos (by rfl)]
    refine wp_load_mid 77 _ rfl g3 0 rfl (d) _ hd.range Tryz.underlying77 rfl (fX ld) ?_;refine hK.out _ _ trivial (fun h => ?_);clear h hK K;rw [show Value.agg (d).toArray = .agg d.toArray from rfl];(try simp only [pS]);refine J1 (rs:=[0]) (by kernel_rfl) (by simp) ?_;refine J7 (o:=oN 5 (Op.load 77 (oT 2)) 77 "point.go:88" #[]) rfl (fun K hK => ?_) (J6);rw [if_pos (by rfl)];refine wp_load_mid 77 _ rfl g2 0 rfl (c) _ hc.range Tryz.underlying77 rfl (fX lc) ?_;refine hK.out _ _ trivial (fun h => ?_);clear h hK K;rw [show Value.agg (c).toArray = .agg c.toArray from rfl];(try simp only [pS]);refine J1 (rs:=[1]) (by kernel_rfl) (by simp) ?_;refine J7 (o:=oN 6 (dA 95 #[oT 5] #[77]) 77 "point.go:88" #[jD 0]) rfl (fun K hK => ?_) (J6);go_simp;(go_at_call 95;refine (kc _).mono ?_;clear kc;rintro e ws_14 ⟨r,rfl,hr,hb9⟩;(replace hc:=hc.still hb9);(replace hd:=hd.still hb9);(replace hbW:=aa hbW hb9);clear hb9);(try go_simp);refine hK.out _ _ trivial (fun h => ?_);clear h hK K;(try simp only [pS]);refine J1 (rs:=[3]) (by kernel_rfl) (by simp) ?_;refine J7 (o:=oN 8 (dA 95 #[oT 7] #[77]) 77 "point.go:88" #[jD 2,jC 1]) rfl (fun K hK => ?_) (J6);go_simp;(go_at_call 95;refine (kd _).mono ?_;clear kd;rintro e ws_15 ⟨s,rfl,hs,hb9⟩;(replace hc:=hc.still hb9);(replace hd:=hd.still hb9);(replace hbW:=aa hbW hb9);clear hb9);(try go_simp);refine hK.out _ _ trivial (fun h => ?_);clear h hK K;(try simp only [pS]);refine J1 (rs:=[4]) (by kernel_rfl) (by simp) ?_;refine J7 (o:=oS (Op.store 77 (oT 2) (oT 6)) "point.go:88" #[jD 1,jC 3,jP 0,jP 1,jT 2,jU 3]) rfl (fun K hK => ?_) (J6);rw [if_pos (by rfl)];refine wp_store_mid 77 _ _ rfl g2 0 (aw r.X r.Y r.Z r.T).toArray rfl rfl (io hc lc rfl) (a7 _ _ _ _) (bJ _ _ _ _) ?_;have Os_16:=aT.setCells (b:=g2) (o:=0) (n:=(aw r.X r.Y r.Z r.T).length) ws_15 (aw r.X r.Y r.Z r.T) (JW _) (JW _);replace hbW:=ac w2l (aw r.X r.Y r.Z r.T) 0 _ hbW;replace hc:=hc.stored (aw r.X r.Y r.Z r.T) lc.symm;replace hd:=hd.far g2 0 (aw r.X r.Y r.Z r.T) (.inl (by omega))
    obtain ⟨ws_16,hws_16⟩:∃ W,ws_15.setCells g2 0 (aw r.X r.Y r.Z r.T)=W:=⟨_,rfl⟩
    rw [hws_16] at hd;rw [hws_16] at hc;rw [hws_16] at Os_16;rw [hws_16] at hbW;rw [show ws_15.setCells g2 0 (aw r.X r.Y r.Z r.T).toArray.toList=ws_16 from hws_16];refine hK.out _ _ trivial (fun h => ?_);clear h hK K hws_16;(try dsimp only [Act.put]);refine J1 (rs:=[5]) (by kernel_rfl) (by simp) ?_;refine J7 (o:=oS (Op.store 77 (oT 3) (oT 8)) "point.go:88" #[jD 3,jC 4,jP 0,jP 1,jP 2,jP 3,jP 4]) rfl (fun K hK => ?_) (J6);rw [if_pos (by rfl)];refine wp_store_mid 77 _ _ rfl g3 0 (aw s.X s.Y s.Z s.T).toArray rfl rfl (io hd ld rfl) (a7 _ _ _ _) (bJ _ _ _ _) ?_;have Os_17:=aT.setCells (b:=g3) (o:=0) (n:=(aw s.X s.Y s.Z s.T).length) ws_16 (aw s.X s.Y s.Z s.T) (JW _) (JW _);replace hbW:=ac w3l (aw s.X s.Y s.Z s.T) 0 _ hbW;replace hd:=hd.stored (aw s.X s.Y s.Z s.T) ld.symm;replace hc:=hc.far g3 0 (aw s.X s.Y s.Z s.T) (.inl (by omega))
    obtain ⟨ws_17,hws_17⟩:∃ W,ws_16.setCells g3 0 (aw s.X s.Y s.Z s.T)=W:=⟨_,rfl⟩
    rw [hws_17] at hc;rw [hws_17] at hd;rw [hws_17] at Os_17;rw [hws_17] at hbW;rw [show ws_16.setCells g3 0 (aw s.X s.Y s.Z s.T).toArray.toList=ws_17 from hws_17];refine hK.out _ _ trivial (fun h => ?_);clear h hK K hws_17;(try dsimp only [Act.put]);refine J4 (by kernel_rfl) ?_ _;refine J8 ?_;go_wp2;go_meet
    case rel=>exact ⟨r,s,hr,hs,hbW,hc,hd⟩
 case rest =>
 clear hbW hc hd kc kd lc ld;obtain ⟨r,s,hr,hs,hbW,hc,hd⟩:=hcut
 obtain ⟨U,hU⟩:∃ W,W=wc:=⟨_,rfl⟩
 rw [←hU];rw [←hU] at hbW hc hd;clear hU
 go_upto_region 2 with (fail)
 obtain ⟨rX,rY,rZ,-⟩:=jp hc;obtain ⟨sX,sY,sZ,-⟩:=jp hd
 have k1:∀ W,Calls Tryz.prog 98 #[ag r.X,ag s.Z] W fun e w'=>e = .returned (ag (av r.X s.Z))∧Below W.heap.size W w':=fun W=>aI _ _ hr.ok.X hs.ok.Z W
 have k2:∀ W,Calls Tryz.prog 98 #[ag s.X,ag r.Z] W fun e w'=>e = .returned (ag (av s.X r.Z))∧Below W.heap.size W w':=fun W=>aI _ _ hs.ok.X hr.ok.Z W
 have k4:∀ W,Calls Tryz.prog 98 #[ag r.Y,ag s.Z] W fun e w'=>e = .returned (ag (av r.Y s.Z))∧Below W.heap.size W w':=fun W=>aI _ _ hr.ok.Y hs.ok.Z W
 have k5:∀ W,Calls Tryz.prog 98 #[ag s.Y,ag r.Z] W fun e w'=>e = .returned (ag (av s.Y r.Z))∧Below W.heap.size W w':=fun W=>aI _ _ hs.ok.Y hr.ok.Z W
 have k3:∀ W,Calls Tryz.prog 114 #[ag (av r.X s.Z),ag (av s.X r.Z)] W fun e w'=>e = .returned (.bool (decide (av r.X s.Z=av s.X r.Z)))∧Below W.heap.size W w':=fun W=>oH _ _ (aJ _ _) (aJ _ _) W
 have k6:∀ W,Calls Tryz.prog 114 #[ag (av r.Y s.Z),ag (av s.Y r.Z)] W fun e w'=>e = .returned (.bool (decide (av r.Y s.Z=av s.Y r.Z)))∧Below W.heap.size W w':=fun W=>oH _ _ (aJ _ _) (aJ _ _) W
 have hsm:=Ih hr hs;clear hc hd hr hs;generalize av r.X s.Z=xa at *;generalize av s.X r.Z=xb at *;generalize av r.Y s.Z=ya at *;generalize av s.Y r.Z=yb at *
 by_cases hx:xa=xb
 · have hzz:z=decide (ya=yb):=by
    rw [Hz.out];exact decide_eq_decide.2 ⟨fun h=>(hsm.2 h).2,fun h=>hsm.1 ⟨hx,h⟩⟩
   rw [decide_eq_true hx] at k3;rw [←hzz] at k6;clear hsm hx hzz Hz;have hdrew:Below U.heap.size U U.drew:=(Below.refl _ _).drew;replace rX:=rX.still hdrew;replace rY:=rY.still hdrew;replace rZ:=rZ.still hdrew;replace sX:=sX.still hdrew;replace sY:=sY.still hdrew;replace sZ:=sZ.still hdrew;replace hbW:=aa hbW hdrew;clear hdrew;refine wp_region_noPanic ?_;refine wp_region_held_drew (S:=fun w'=>Below U.drew.heap.size U.drew w') (by kernel_rfl) (Below.refl _ _) (fun hHeld => ?_);clear hHeld;refine tk 0 (pA g2 0) bR (hy:=yR) (h := ?_);(try simp only [pS]);refine tk 1 (ag r.X) bR (hy:=(d9 rX 75 9 Tryz.underlying75 aE)) (h := ?_);(try simp only [pS]);refine tk 2 (pA g3 8) bR (hy:=yR) (h := ?_);(try simp only [pS]);refine tk 3 (ag s.Z) bR (hy:=(d9 sZ 75 11 Tryz.underlying75 aE)) (h := ?_);(try simp only [pS]);refine tk 5 (pA g3 0) bR (hy:=yR) (h := ?_);(try simp only [pS]);refine tk 6 (ag s.X) bR (hy:=(d9 sX 75 14 Tryz.underlying75 aE)) (h := ?_);(try simp only [pS]);refine tk 7 (pA g2 8) bR (hy:=yR) (h := ?_);(try simp only [pS]);refine tk 8 (ag r.Z) bR (hy:=(d9 rZ 75 16 Tryz.underlying75 aE)) (h := ?_);(try simp only [pS]);refine cn 4 (k1 _) ?_;(clear k1;rintro e w1 ⟨rfl,hb1⟩);refine ⟨_,rfl,hb1,?_⟩;replace rX:=rX.still hb1;replace rY:=rY.still hb1;replace rZ:=rZ.still hb1;replace sX:=sX.still hb1;replace sY:=sY.still hb1;replace sZ:=sZ.still hb1;replace hbW:=aa hbW hb1;clear hb1;(try simp only [pS]);refine cn 9 (k2 _) ?_;(clear k2;rintro e w2 ⟨rfl,hb2⟩);refine ⟨_,rfl,hb2,?_⟩;replace rX:=rX.still hb2;replace rY:=rY.still hb2;replace rZ:=rZ.still hb2;replace sX:=sX.still hb2;replace sY:=sY.still hb2;replace sZ:=sZ.still hb2;replace hbW:=aa hbW hb2;clear hb2;(try simp only [pS]);refine cn 10 (k3 _) ?_;(clear k3;rintro e w3 ⟨rfl,hb3⟩);refine ⟨_,rfl,hb3,?_⟩;replace rX:=rX.still hb3;replace rY:=rY.still hb3;replace rZ:=rZ.still hb3;replace sX:=sX.still hb3;replace sY:=sY.still hb3;replace sZ:=sZ.still hb3;replace hbW:=aa hbW hb3;clear hb3;(try simp only [pS]);refine tg 11 bR ?_;(try simp only [pS]);refine tk 12 (pA g2 4) bR (hy:=yR) (h := ?_);(try simp only [pS]);refine tk 13 (ag r.Y) bR (hy:=(d9 rY 75 21 Tryz.underlying75 aE)) (h := ?_);(try simp only [pS]);refine tk 14 (pA g3 8) bR (hy:=yR) (h := ?_);(try simp only [pS]);refine tk 15 (ag s.Z) bR (hy:=(d9 sZ 75 23 Tryz.underlying75 aE)) (h := ?_);(try simp only [pS]);refine tk 17 (pA g3 4) bR (hy:=yR) (h := ?_);(try simp only [pS]);refine tk 18 (ag s.Y) bR (hy:=(d9 sY 75 26 Tryz.underlying75 aE)) (h := ?_);(try simp only [pS]);refine tk 19 (pA g2 8) bR (hy:=yR) (h := ?_);(try simp only [pS]);refine tk 20 (ag r.Z) bR (hy:=(d9 rZ 75 28 Tryz.underlying75 aE)) (h := ?_);(try simp only [pS]);refine cn 16 (k4 _) ?_;(clear k4;rintro e w4 ⟨rfl,hb4⟩);refine ⟨_,rfl,hb4,?_⟩;replace rX:=rX.still hb4;replace rY:=rY.still hb4;replace rZ:=rZ.still hb4;replace sX:=sX.still hb4;replace sY:=sY.still hb4;replace sZ:=sZ.still hb4;replace hbW:=aa hbW hb4;clear hb4;(try simp only [pS]);refine cn 21 (k5 _) ?_;(clear k5;rintro e w5 ⟨rfl,hb5⟩);refine ⟨_,rfl,hb5,?_⟩;replace rX:=rX.still hb5;replace rY:=rY.still hb5;replace rZ:=rZ.still hb5;replace sX:=sX.still hb5;replace sY:=sY.still hb5;replace sZ:=sZ.still hb5;replace hbW:=aa hbW hb5;clear hb5;(try simp only [pS]);refine cn 22 (k6 _) ?_;(clear k6;rintro e w6 ⟨rfl,hb6⟩);refine ⟨_,rfl,hb6,?_⟩;replace rX:=rX.still hb6;replace rY:=rY.still hb6;replace rZ:=rZ.still hb6;replace sX:=sX.still hb6;replace sY:=sY.still hb6;replace sZ:=sZ.still hb6;replace hbW:=aa hbW hb6;clear hb6;(try simp only [pS]);refine tg 23 bR ?_;(try simp only [pS]);refine tg 24 bR ?_;(try simp only [pS]);refine J4 (by kernel_rfl) ?_ _;refine J8 ?_;go_wp2;go_ret;exact ⟨rfl,hbW⟩
 · have hzz:z=false:=by
    rw [Hz.out]
    exact decide_eq_false fun h=>hx (hsm.2 h).1
   rw [decide_eq_false hx] at k3;clear hsm hx Hz k4 k5 k6;have hdrew:Below U.heap.size U U.drew:=(Below.refl _ _).drew;replace rX:=rX.still hdrew;replace rY:=rY.still hdrew;replace rZ:=rZ.still hdrew;replace sX:=sX.still hdrew;replace sY:=sY.still hdrew;replace sZ:=sZ.still hdrew;replace hbW:=aa hbW hdrew;clear hdrew;refine wp_region_noPanic ?_;refine wp_region_held_drew (S:=fun w'=>Below U.drew.heap.size U.drew w') (by kernel_rfl) (Below.refl _ _) (fun hHeld => ?_);clear hHeld;refine tk 0 (pA g2 0) bR (hy:=yR) (h := ?_);(try simp only [pS]);refine tk 1 (ag r.X) bR (hy:=(d9 rX 75 9 Tryz.underlying75 aE)) (h := ?_);(try simp only [pS]);refine tk 2 (pA g3 8) bR (hy:=yR) (h := ?_);(try simp only [pS]);refine tk 3 (ag s.Z) bR (hy:=(d9 sZ 75 11 Tryz.underlying75 aE)) (h := ?_);(try simp only [pS]);refine tk 5 (pA g3 0) bR (hy:=yR) (h := ?_);(try simp only [pS]);refine tk 6 (ag s.X) bR (hy:=(d9 sX 75 14 Tryz.underlying75 aE)) (h := ?_);(try simp only [pS]);refine tk 7 (pA g2 8) bR (hy:=yR) (h := ?_);(try simp only [pS]);refine tk 8 (ag r.Z) bR (hy:=(d9 rZ 75 16 Tryz.underlying75 aE)) (h := ?_);(try simp only [pS]);refine cn 4 (k1 _) ?_;(clear k1;rintro e w1 ⟨rfl,hb1⟩);refine ⟨_,rfl,hb1,?_⟩;replace rX:=rX.still hb1;replace rY:=rY.still hb1;replace rZ:=rZ.still hb1;replace sX:=sX.still hb1;replace sY:=sY.still hb1;replace sZ:=sZ.still hb1;replace hbW:=aa hbW hb1;clear hb1;(try simp only [pS]);refine cn 9 (k2 _) ?_;(clear k2;rintro e w2 ⟨rfl,hb2⟩);refine ⟨_,rfl,hb2,?_⟩;replace rX:=rX.still hb2;replace rY:=rY.still hb2;replace rZ:=rZ.still hb2;replace sX:=sX.still hb2;replace sY:=sY.still hb2;replace sZ:=sZ.still hb2;replace hbW:=aa hbW hb2;clear hb2;(try simp only [pS]);refine cn 10 (k3 _) ?_;(clear k3;rintro e w3 ⟨rfl,hb3⟩);refine ⟨_,rfl,hb3,?_⟩;replace rX:=rX.still hb3;replace rY:=rY.still hb3;replace rZ:=rZ.still hb3;replace sX:=sX.still hb3;replace sY:=sY.still hb3;replace sZ:=sZ.still hb3;replace hbW:=aa hbW hb3;clear hb3;(try simp only [pS]);refine tg 11 bR ?_;(try simp only [pS]);refine tk 12 undef bR (hy:=(Or.inr ⟨by rfl,rfl⟩)) (h := ?_);(try simp only [pS]);refine tk 13 undef bR (hy:=(Or.inr ⟨by rfl,rfl⟩)) (h := ?_);(try simp only [pS]);refine tk 14 undef bR (hy:=(Or.inr ⟨by rfl,rfl⟩)) (h := ?_);(try simp only [pS]);refine tk 15 undef bR (hy:=(Or.inr ⟨by rfl,rfl⟩)) (h := ?_);(try simp only [pS]);refine tk 16 undef bR (hy:=(Or.inr ⟨by rfl,rfl⟩)) (h := ?_);(try simp only [pS]);refine tk 17 undef bR (hy:=(Or.inr ⟨by rfl,rfl⟩)) (h := ?_);(try simp only [pS]);refine tk 18 undef bR (hy:=(Or.inr ⟨by rfl,rfl⟩)) (h := ?_);(try simp only [pS]);refine tk 19 undef bR (hy:=(Or.inr ⟨by rfl,rfl⟩)) (h := ?_);(try simp only [pS]);refine tk 20 undef bR (hy:=(Or.inr ⟨by rfl,rfl⟩)) (h := ?_);(try simp only [pS]);refine tk 21 undef bR (hy:=(Or.inr ⟨by rfl,rfl⟩)) (h := ?_);(try simp only [pS]);refine tk 22 undef bR (hy:=(Or.inr ⟨by rfl,rfl⟩)) (h := ?_);(try simp only [pS]);refine tg 23 bR ?_;(try simp only [pS]);refine tg 24 bR ?_;(try simp only [pS]);refine J4 (by kernel_rfl) ?_ _;refine J8 ?_;go_wp2;go_ret;exact ⟨by rw [hzz];rfl,hbW⟩
def N4.C (p:N4):List Value:=aw p.X p.Y p.Z p.T
def fT (f:Nat→N4):List Value:=(List.range 256).map fun k=>((f (k / 16)).C)[k%16]?.getD undef
theorem di (f:Nat→N4):(fT f).length=256:=by unfold fT;rw [List.length_map,List.length_range]
theorem yE (f:Nat→N4) {j i:Nat} (hj:j<16) (hi:i<16):(fT f)[j*16+i]? = (f j).C[i]?:=by
 unfold fT;rw [List.getElem?_map,List.getElem?_range (by omega)];have h:i<(f j).C.length:=hi;simp only [Option.map_some];rw [show (j*16+i) / 16=j by omega,show (j*16+i)%16=i by omega,List.getElem?_eq_getElem h];rfl
def GV:Array Value:=Array.replicate 256 (.int .u64 0)
theorem Bw (w:World):Sem.run Tryz.prog (zeroValue 178) w = .ok (.agg GV) w:=by kernel_rfl
theorem Dx:(Tryz.prog.info? 178).map (·.size)=some 256:=by kernel_rfl
theorem Hf:GV=(fT fun _=>⟨0,0,0,0⟩).toArray:=by kernel_rfl
theorem FG (f:Nat→N4):(Tryz.prog.info? 178).map (·.size)=some (fT f).length:=by rw [di];exact Dx
theorem BH (f:Nat→N4):(Tryz.prog.info? 178).map (·.size)=some (fT f).toArray.size:=by rw [List.size_toArray,di];exact Dx
theorem IF (f:Nat→N4):(fT f).toArray.all (·.oneCell')=true:=all_oneCell_toArray (fun v hv=>by
 unfold fT at hv;obtain ⟨k,hk,rfl⟩:=List.mem_map.1 hv;have h:k%16<(f (k / 16)).C.length:=Nat.mod_lt _ (by decide);rw [List.getElem?_eq_getElem h];have ha:=bJ (f (k / 16)).X (f (k / 16)).Y (f (k / 16)).Z (f (k / 16)).T;rw [List.all_toArray,List.all_eq_true] at ha
 exact ha _ (List.getElem_mem h))
def pK (w:World) (g:Nat) (f:Nat→N4):Prop:=∀ j,j<16→RW w g (j*16) (aw (f j).X (f j).Y (f j).Z (f j).T)
theorem pK.of {w:World} {g:Nat} {f:Nat→N4} (h:RW w g 0 (fT f)):pK w g f:=fun j hj =>
 ⟨fun i v hv=>by
   have hi:i<16:=(List.getElem?_eq_some_iff.1 hv).1;have:=h.range (j*16+i) v (by rw [yE f hj hi];exact hv)
   rwa [Nat.zero_add] at this,fun i hi=>by
   have hi':i<16:=hi;have:=h.there (j*16+i) (by rw [di];omega)
   rwa [Nat.zero_add] at this,h.lt⟩
theorem pK.row {w:World} {g:Nat} {f:Nat→N4} (h:pK w g f):RW w g 0 (fT f) :=
 ⟨fun k v hv=>by
   have hk:k<256:=by have:=(List.getElem?_eq_some_iff.1 hv).1;rwa [di] at this
   rw [show k=k / 16*16+k%16 by omega,yE f (by omega) (Nat.mod_lt _ (by decide))] at hv;have:=(h (k / 16) (by omega)).range (k%16) v hv
   rwa [show k / 16*16+k%16=0+k by omega] at this,fun k hk=>by
   rw [di] at hk;have:=(h (k / 16) (by omega)).there (k%16) (Nat.mod_lt _ (by decide))
   rwa [show k / 16*16+k%16=0+k by omega] at this,(h 0 (by decide)).lt⟩
theorem pK.still {w w':World} {g:Nat} {f:Nat→N4} (h:pK w g f) (hb:Below w.heap.size w w'):pK w' g f:=fun j hj=>(h j hj).still hb
theorem pK.far {w:World} {g:Nat} {f:Nat→N4} (h:pK w g f) (b p:Nat) (ds:List Value) (hne:g≠b):pK (w.setCells b p ds) g f:=fun j hj=>(h j hj).far b p ds (.inl hne)
def xJ (f:Nat→N4) (i:Nat) (p:N4):Nat→N4:=fun j=>if j=i then p else f j
theorem pK.set {w:World} {g:Nat} {f:Nat→N4} (h:pK w g f) {i:Nat} (hi:i<16) (p:N4):pK (w.setCells g (i*16) (aw p.X p.Y p.Z p.T)) g (xJ f i p):=fun j hj=>by
 unfold xJ
 by_cases e:j=i
 · subst e
   rw [if_pos rfl];exact (h j hj).stored (aw p.X p.Y p.Z p.T) rfl
 · rw [if_neg e]
   exact (h j hj).far g (i*16) _ (.inr (by show j*16+16≤i*16∨i*16+16≤j*16;omega))
theorem wR (w:World):∃ w' g,w.alloc (.cells GV 178)=w'∧w.heap.size=g∧Below w.heap.size w w'∧pK w' g (fun _=>⟨0,0,0,0⟩):=by
 refine ⟨_,_,rfl,rfl,(Below.refl _ _).alloc (JW _) _,pK.of ?_⟩;rw [Hf];exact RW.fresh w _ _
end Go.Proofs.YtibdhadbflfdpaaGreatDoor
