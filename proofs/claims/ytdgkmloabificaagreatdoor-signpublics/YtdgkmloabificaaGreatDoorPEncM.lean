/- What the proof stands on: PEnc, PTab, PWin, PAcc, PTms, RootApi. -/
import Derived.Test.YtdgkmloabificaaGreatDoorLimbsM
import Derived.Test.YtdgkmloabificaaGreatDoorPAddM
import Derived.Test.YtdgkmloabificaaGreatDoorRRatioM
import Derived.Test.YtdgkmloabificaaGreatDoorRootRefM
import Derived.ScopeJumps
import Derived.WalkMore
namespace Go.Proofs.YtdgkmloabificaaGreatDoor
open Go.RowKit
theorem NewC.from {w v w':World} {s:Value} {n:Nat} {X:Nat→Nat} (h:NewC v w' s n X) (hs:w.heap.size≤v.heap.size):NewC w w' s n X:=by
 obtain ⟨g,cap,e,hc,hg,hr⟩:=h
 exact ⟨g,cap,e,hc,Nat.le_trans hs hg,hr⟩
theorem finverse_any (x:Nat) (hx:x<pF) (w:World):Calls Tryz.prog 51 #[numV x] w fun e w'=>e = .returned (numV (finv x))∧Below w.heap.size w w':=by
 unfold finv
 exact inverse_any x hx w
theorem enc_parts {r:N4} {P:Fp × Fp} (hr:W6 r P):∃ iz ax ay:Nat,
 (∀ W,Calls Tryz.prog 51 #[numV r.Z] W fun e w'=>e = .returned (numV iz)∧Below W.heap.size W w') ∧
 (∀ W,Calls Tryz.prog 53 #[numV r.X,numV iz] W fun e w'=>e = .returned (numV ax)∧Below W.heap.size W w') ∧
 (∀ W,Calls Tryz.prog 53 #[numV r.Y,numV iz] W fun e w'=>e = .returned (numV ay)∧Below W.heap.size W w') ∧
 (∀ W,Calls Tryz.prog 52 #[numV ax,numV ay] W fun e w'=>∃ s,e = .returned s∧NewC W w' s 32 (encB P)∧Below W.heap.size W w'):=by
 have e:=encXY_encB hr.ok hr.ext
 have k:=fun W=>finverse_any r.Z hr.ok.Z W
 have l:=finv_lt r.Z
 generalize finv r.Z=iz at *
 refine ⟨iz,fmul r.X iz,fmul r.Y iz,k,fun W=>times_any _ _ hr.ok.X l W,fun W=>times_any _ _ hr.ok.Y l W,fun W => ?_⟩
 rw [←e]
 exact bytesOf_any _ _ (fmul_lt _ _) W
set_option maxRecDepth 20000 in
set_option maxHeartbeats 8000000 in
theorem penc_pt {c:List Value} {P:Fp × Fp} (hP:R6 c P) (w:World) :
 Calls Tryz.prog 22 #[.agg c.toArray] w fun e w'=>∃ s,e = .returned s∧NewC w w' s 32 (encB P)∧Below w.heap.size w w':=by
 have kc:=fun W=>pwhole_pt hP W
 have lc:=hP.len
 clear hP
 obtain ⟨W,g1,eg1,hg1,hw,hc⟩:∃ V g,w.alloc (.cells c.toArray 53)=V∧w.heap.size=g∧Below w.heap.size w V∧RW V g 0 c:=⟨_,_,rfl,rfl,(Below.refl _ _).alloc (Nat.le_refl _) _,RW.fresh w _ _⟩
 have HW:Hid (w.alloc (.cells c.toArray 53)=W):=Hid.mk' eg1
 have q1:Hid (w.heap.size=g1):=Hid.mk' hg1
 have w1l:w.heap.size≤g1:=Nat.le_of_eq hg1
 clear eg1 hg1
 go_enter Tryz.func22,Tryz.ntmps22
 go_upto_region 3 with (first
  | (rw [HW.out,q1.out];refine wpList_load_mid rfl 53 _ rfl g1 0 rfl c _ hc.range Tryz.underlying53 rfl (infoP lc) ?_;clear HW q1)
  | (go_at_call 50;refine (kc _).mono ?_;clear kc;rintro e w4 ⟨r,rfl,hr,hb4⟩;(replace hc:=hc.still hb4);(replace hw:=below_next hw hb4);clear hb4;(have t4:w4.there g1 0 (p16 r.X r.Y r.Z r.T).toArray.size:=thereP hc lc rfl);(obtain ⟨V4,hV4⟩:∃ V,V=w4.setCells g1 0 (p16 r.X r.Y r.Z r.T):=⟨_,rfl⟩);(have hp:RW V4 g1 0 (p16 r.X r.Y r.Z r.T):=by rw [hV4];exact hc.stored _ lc.symm);(replace hw:=below_setCells w1l (p16 r.X r.Y r.Z r.T) 0 _ hw);rw [←hV4] at hw;(have H4:=Hid.mk' hV4);clear hV4 hc;(obtain ⟨hX,hY,hZ,-⟩:=parts16 hp);clear hp;(obtain ⟨iz,ax,ay,kI2',cX,cY,cB⟩:=enc_parts hr);(have kI2:∀ W,Calls Tryz.prog 51 #[.agg (c4 r.Z).toArray] W fun e w'=>e = .returned (.agg (c4 iz).toArray)∧Below W.heap.size W w':=kI2');clear kI2';clear hr)
  | (with_reducible (refine id (?_:wpList _ _ _ _ _ _));refine wpList_store_mid rfl 53 _ _ rfl g1 0 (p16 r.X r.Y r.Z r.T).toArray rfl rfl t4 (info16A _ _ _ _) (one16 _ _ _ _) ?_;rw [List.toList_toArray,←H4.out];clear t4 H4)
  | (refine wpList_load_mid rfl 51 _ rfl g1 8 rfl (c4 r.Z) _ hZ.range Tryz.underlying51 rfl info4 ?_)
  | (go_at_call 51;refine (kI2 _).mono ?_;clear kI2 hZ;rintro e w1 ⟨rfl,hb1⟩;(replace hX:=hX.still hb1);(replace hY:=hY.still hb1);(replace hw:=below_next hw hb1);clear hb1;(have z1:=fresh4' w1);(have t1:=fresh4t w1 iz);(obtain ⟨V5,hV5⟩:∃ V,V=(w1.alloc (.cells #[.int .u64 0,.int .u64 0,.int .u64 0,.int .u64 0] 51)).setCells w1.heap.size 0 (c4 iz):=⟨_,rfl⟩);(have h3:RW V5 w1.heap.size 0 (c4 iz):=by rw [hV5];exact z1.stored (c4 iz) rfl);(have b1:Below w1.heap.size w1 V5:=by rw [hV5];exact below_setCells (Nat.le_refl _) _ _ _ ((Below.refl _ _).alloc (Nat.le_refl _) _));(have H5:=Hid.mk' hV5);clear hV5 z1;(replace hX:=hX.still b1);(replace hY:=hY.still b1);(replace hw:=below_next hw b1);clear b1)
  | (with_reducible (refine id (?_:wpList _ _ _ _ _ _));refine wpList_store_mid rfl 51 _ _ rfl w1.heap.size 0 (c4 iz).toArray rfl rfl t1 (info4a iz) (one4 iz) ?_;rw [List.toList_toArray,←H5.out];clear t1 H5))
 (try dsimp only [Act.put])
 generalize w1.heap.size=g3 at *
 have hdrew:Below V5.heap.size V5 V5.drew:=(Below.refl _ _).drew
 replace hX:=hX.still hdrew
 replace hY:=hY.still hdrew
 replace h3:=h3.still hdrew
 replace hw:=below_next hw hdrew
 clear hdrew
 refine wp_region_noPanic ?_
 refine wp_region_held_drew (S:=fun w'=>Below V5.drew.heap.size V5.drew w') (by kernel_rfl) (Below.refl _ _) (fun hHeld => ?_)
 clear hHeld
 refine tkH 0 (oN 9 (Op.fieldAddr 53 (oT 1) 0) 0 "point.go:53" #[]) (pA g1 0) bR yR ?_
 (try simp only [pS])
 refine tkH 1 (oN 10 (Op.load 51 (oT 9)) 51 "point.go:53" #[jD 0]) (numV r.X) bR (ldH hX 51 9 Tryz.underlying51 info4) ?_
 (try simp only [pS])
 refine tkH 2 (oN 11 (Op.load 51 (oT 3)) 51 "point.go:53" #[]) (numV iz) bR (ldH h3 51 3 Tryz.underlying51 info4) ?_
 (try simp only [pS])
 refine tkH 4 (oN 13 (Op.fieldAddr 53 (oT 1) 1) 0 "point.go:53" #[]) (pA g1 4) bR yR ?_
 (try simp only [pS])
 refine tkH 5 (oN 14 (Op.load 51 (oT 13)) 51 "point.go:53" #[jD 4]) (numV r.Y) bR (ldH hY 51 13 Tryz.underlying51 info4) ?_
 (try simp only [pS])
 refine tkH 6 (oN 15 (Op.load 51 (oT 3)) 51 "point.go:53" #[]) (numV iz) bR (ldH h3 51 3 Tryz.underlying51 info4) ?_
 (try simp only [pS])
 refine callN 3 (oN 12 (cF1 53 #[oT 10,oT 11] #[51,51]) 51 "point.go:53" #[jD 1,jD 2]) (cX _) ?_
 (clear cX;rintro e w5 ⟨rfl,hb5⟩)
 refine ⟨_,rfl,hb5,?_⟩
 clear hX
 replace hY:=hY.still hb5
 replace h3:=h3.still hb5
 replace hw:=below_next hw hb5
 clear hb5
 (try simp only [pS])
 refine callN 7 (oN 16 (cF1 53 #[oT 14,oT 15] #[51,51]) 51 "point.go:53" #[jD 5,jD 6,jC 3]) (cY _) ?_
 (clear cY;rintro e w6 ⟨rfl,hb6⟩)
 refine ⟨_,rfl,hb6,?_⟩
 clear hY
 clear h3
 replace hw:=below_next hw hb6
 clear hb6
 (try simp only [pS])
 refine callN 8 (oN 17 (cF1 52 #[oT 12,oT 16] #[51,51]) 22 "point.go:53" #[jD 3,jD 7,jC 7]) (cB _) ?_
 (clear cB;rintro e w7 ⟨s7,rfl,hn7,hb7⟩;(have hq:=NewC.from hn7 hw.size);clear hn7)
 refine ⟨_,rfl,hb7,?_⟩
 replace hw:=below_next hw hb7
 clear hb7
 (try simp only [pS])
 refine tkH 9 (oN 2 (Op.assign (oT 17)) 22 "point.go:53" #[jD 8,jC 8,jP 0,jP 1,jP 2,jP 3,jP 4,jP 5,jP 6,jP 7,jP 8]) ?ve9 bR (Or.inl ⟨by rfl,?he9⟩) ?re9
 case he9 =>
  intro w hSw
  go_simp
  try with_reducible rfl
 (try simp only [pS])
 refine wpAnyH_done (by kernel_rfl) ?_ _
 refine NoPanic.normal ?_
 go_wp2
 go_ret
 exact ⟨_,rfl,hq,hw⟩
theorem same_n {r s:N4} {P Q:Fp × Fp} (hr:W6 r P) (hs:W6 s Q):(fmul r.X s.Z=fmul s.X r.Z∧fmul r.Y s.Z=fmul s.Y r.Z)↔P=Q:=by
 rw [←ext_same hr.ext hs.ext,←cF_mul,←cF_mul,←cF_mul,←cF_mul]
 exact ⟨fun ⟨h1,h2⟩=>⟨by rw [h1],by rw [h2]⟩,fun ⟨h1,h2⟩=>⟨cF_inj (fmul_lt _ _) (fmul_lt _ _) h1,cF_inj (fmul_lt _ _) (fmul_lt _ _) h2⟩⟩
set_option maxRecDepth 20000 in
set_option maxHeartbeats 16000000 in
theorem psame_pt {c d:List Value} {P Q:Fp × Fp} (hP:R6 c P) (hQ:R6 d Q) (w:World) :
 Calls Tryz.prog 29 #[.agg c.toArray,.agg d.toArray] w fun e w'=>e = .returned (.bool (decide (P=Q)))∧Below w.heap.size w w':=by
 have kc:=fun W=>pwhole_pt hP W
 have kd:=fun W=>pwhole_pt hQ W
 have lc:=hP.len
 have ld:=hQ.len
 clear hP hQ
 obtain ⟨z,hz⟩:∃ z,z=decide (P=Q):=⟨_,rfl⟩
 rw [←hz]
 have Hz:=Hid.mk' hz
 clear hz
 obtain ⟨V1,g2,eg2,hg2,bg2,hc⟩:∃ V g,w.alloc (.cells c.toArray 53)=V∧w.heap.size=g∧Below w.heap.size w V∧RW V g 0 c:=⟨_,_,rfl,rfl,(Below.refl _ _).alloc (Nat.le_refl _) _,RW.fresh w _ _⟩
 obtain ⟨W,g3,eg3,hg3,bg3,hd⟩:∃ V g,V1.alloc (.cells d.toArray 53)=V∧V1.heap.size=g∧Below V1.heap.size V1 V∧RW V g 0 d:=⟨_,_,rfl,rfl,(Below.refl _ _).alloc (Nat.le_refl _) _,RW.fresh V1 _ _⟩
 have t1:V1.heap.size=w.heap.size+1:=by rw [←eg2];simp
 have HW:Hid (W=(w.alloc (.cells c.toArray 53)).alloc (.cells d.toArray 53)):=Hid.mk' (by rw [←eg3,←eg2])
 have q2:Hid (w.heap.size=g2):=Hid.mk' hg2
 have q3:Hid (w.heap.size+1=g3):=Hid.mk' (by omega)
 replace hc:=hc.still bg3
 have hbW:Below w.heap.size w W:=bg2.trans (bg3.mono (by omega))
 have w2l:w.heap.size≤g2:=by omega
 have w3l:w.heap.size≤g3:=by omega
 have n23:g2≠g3:=by omega
 clear eg2 eg3 hg2 hg3 bg2 bg3 t1 V1
 go_enter Tryz.func29,Tryz.ntmps29
 go_upto_region 1 with (fail)
 rw [←HW.out,q3.out,q2.out]
 clear HW q3 q2
 go_cut [] from 5 (fun wc=>∃ r s:N4,W6 r P∧W6 s Q∧Below w.heap.size w wc∧RW wc g2 0 (p16 r.X r.Y r.Z r.T)∧RW wc g3 0 (p16 s.X s.Y s.Z s.T))
 case first =>
  clear Hz
  have hdrew:Below W.heap.size W W.drew:=(Below.refl _ _).drew
  replace hc:=hc.still hdrew
  replace hd:=hd.still hdrew
  refine wp_region_noPanic ?_
  refine wp_region_held_drew (S:=fun _=>True) (by kernel_rfl) trivial (fun _ => ?_)
  replace hbW:=below_next hbW hdrew
  generalize W.drew=Vs_ at *
  refine wpAnyH_ready (rs:=[0,2]) (by kernel_rfl) (by simp) ?_
  refine AllReadyH.cons (o:=oN 5 (Op.load 53 (oT 2)) 53 "point.go:88" #[]) rfl (fun K hK => ?_) (AllReadyH.cons (o:=oN 7 (Op.load 53 (oT 3)) 53 "point.go:88" #[]) rfl (fun K hK => ?_) (AllReadyH.nil))
  · rw [if_pos (by rfl)]
    refine wp_load_mid 53 _ rfl g2 0 rfl (c) _ hc.range Tryz.underlying53 rfl (infoP lc) ?_
    refine hK.out _ _ trivial (fun h => ?_)
    clear h hK K
    rw [show Value.agg (c).toArray = .agg c.toArray from rfl]
    (try simp only [pS])
    refine wpAnyH_ready (rs:=[1,2]) (by kernel_rfl) (by simp) ?_
    refine AllReadyH.cons (o:=oN 6 (cF1 50 #[oT 5] #[53]) 53 "point.go:88" #[jD 0]) rfl (fun K hK => ?_) (AllReadyH.cons (o:=oN 7 (Op.load 53 (oT 3)) 53 "point.go:88" #[]) rfl (fun K hK => ?_) (AllReadyH.nil))
    · go_simp
      (go_at_call 50;refine (kc _).mono ?_;clear kc;rintro e ws_2 ⟨r,rfl,hr,hb9⟩;(replace hc:=hc.still hb9);(replace hd:=hd.still hb9);(replace hbW:=below_next hbW hb9);clear hb9)
      (try go_simp)
      refine hK.out _ _ trivial (fun h => ?_)
      clear h hK K
      (try simp only [pS])
      refine wpAnyH_ready (rs:=[2]) (by kernel_rfl) (by simp) ?_
      refine AllReadyH.cons (o:=oN 7 (Op.load 53 (oT 3)) 53 "point.go:88" #[]) rfl (fun K hK => ?_) (AllReadyH.nil)
      rw [if_pos (by rfl)]
      refine wp_load_mid 53 _ rfl g3 0 rfl (d) _ hd.range Tryz.underlying53 rfl (infoP ld) ?_
      refine hK.out _ _ trivial (fun h => ?_)
      clear h hK K
      rw [show Value.agg (d).toArray = .agg d.toArray from rfl]
      (try simp only [pS])
      refine wpAnyH_ready (rs:=[3]) (by kernel_rfl) (by simp) ?_
      refine AllReadyH.cons (o:=oN 8 (cF1 50 #[oT 7] #[53]) 53 "point.go:88" #[jD 2,jC 1]) rfl (fun K hK => ?_) (AllReadyH.nil)
      go_simp
      (go_at_call 50;refine (kd _).mono ?_;clear kd;rintro e ws_4 ⟨s,rfl,hs,hb9⟩;(replace hc:=hc.still hb9);(replace hd:=hd.still hb9);(replace hbW:=below_next hbW hb9);clear hb9)
      (try go_simp)
      refine hK.out _ _ trivial (fun h => ?_)
      clear h hK K
      (try simp only [pS])
      refine wpAnyH_ready (rs:=[4]) (by kernel_rfl) (by simp) ?_
      refine AllReadyH.cons (o:=oS (Op.store 53 (oT 2) (oT 6)) "point.go:88" #[jD 1,jC 3,jP 0,jP 1,jT 2,jU 3]) rfl (fun K hK => ?_) (AllReadyH.nil)
      rw [if_pos (by rfl)]
      refine wp_store_mid 53 _ _ rfl g2 0 (p16 r.X r.Y r.Z r.T).toArray rfl rfl (thereP hc lc rfl) (info16A _ _ _ _) (one16 _ _ _ _) ?_
      have Os_5:=Out.setCells (b:=g2) (o:=0) (n:=(p16 r.X r.Y r.Z r.T).length) ws_4 (p16 r.X r.Y r.Z r.T) (Nat.le_refl _) (Nat.le_refl _)
      replace hbW:=below_setCells w2l (p16 r.X r.Y r.Z r.T) 0 _ hbW
      replace hc:=hc.stored (p16 r.X r.Y r.Z r.T) lc.symm
      replace hd:=hd.far g2 0 (p16 r.X r.Y r.Z r.T) (.inl (by omega))
      obtain ⟨ws_5,hws_5⟩:∃ W,ws_4.setCells g2 0 (p16 r.X r.Y r.Z r.T)=W:=⟨_,rfl⟩
      rw [hws_5] at hd
      rw [hws_5] at hc
      rw [hws_5] at Os_5
      rw [hws_5] at hbW
      rw [show ws_4.setCells g2 0 (p16 r.X r.Y r.Z r.T).toArray.toList=ws_5 from hws_5]
      refine hK.out _ _ trivial (fun h => ?_)
      clear h hK K hws_5
      (try dsimp only [Act.put])
      refine wpAnyH_ready (rs:=[5]) (by kernel_rfl) (by simp) ?_
      refine AllReadyH.cons (o:=oS (Op.store 53 (oT 3) (oT 8)) "point.go:88" #[jD 3,jC 4,jP 0,jP 1,jP 2,jP 3,jP 4]) rfl (fun K hK => ?_) (AllReadyH.nil)
      rw [if_pos (by rfl)]
      refine wp_store_mid 53 _ _ rfl g3 0 (p16 s.X s.Y s.Z s.T).toArray rfl rfl (thereP hd ld rfl) (info16A _ _ _ _) (one16 _ _ _ _) ?_
      have Os_6:=Out.setCells (b:=g3) (o:=0) (n:=(p16 s.X s.Y s.Z s.T).length) ws_5 (p16 s.X s.Y s.Z s.T) (Nat.le_refl _) (Nat.le_refl _)
      replace hbW:=below_setCells w3l (p16 s.X s.Y s.Z s.T) 0 _ hbW
      replace hd:=hd.stored (p16 s.X s.Y s.Z s.T) ld.symm
      replace hc:=hc.far g3 0 (p16 s.X s.Y s.Z s.T) (.inl (by omega))
      obtain ⟨ws_6,hws_6⟩:∃ W,ws_5.setCells g3 0 (p16 s.X s.Y s.Z s.T)=W:=⟨_,rfl⟩
      rw [hws_6] at hc
      rw [hws_6] at hd
      rw [hws_6] at Os_6
      rw [hws_6] at hbW
      rw [show ws_5.setCells g3 0 (p16 s.X s.Y s.Z s.T).toArray.toList=ws_6 from hws_6]
      refine hK.out _ _ trivial (fun h => ?_)
      clear h hK K hws_6
      (try dsimp only [Act.put])
      refine wpAnyH_done (by kernel_rfl) ?_ _
      refine NoPanic.normal ?_
      go_wp2
      go_meet
      case rel=>exact ⟨r,s,hr,hs,hbW,hc,hd⟩
    · rw [if_pos (by rfl)]
      refine wp_load_mid 53 _ rfl g3 0 rfl (d) _ hd.range Tryz.underlying53 rfl (infoP ld) ?_
      refine hK.out _ _ trivial (fun h => ?_)
      clear h hK K
      rw [show Value.agg (d).toArray = .agg d.toArray from rfl]
      (try simp only [pS])
      refine wpAnyH_ready (rs:=[1]) (by kernel_rfl) (by simp) ?_
      refine AllReadyH.cons (o:=oN 6 (cF1 50 #[oT 5] #[53]) 53 "point.go:88" #[jD 0]) rfl (fun K hK => ?_) (AllReadyH.nil)
      go_simp
      (go_at_call 50;refine (kc _).mono ?_;clear kc;rintro e ws_8 ⟨r,rfl,hr,hb9⟩;(replace hc:=hc.still hb9);(replace hd:=hd.still hb9);(replace hbW:=below_next hbW hb9);clear hb9)
      (try go_simp)
      refine hK.out _ _ trivial (fun h => ?_)
      clear h hK K
      (try simp only [pS])
      refine wpAnyH_ready (rs:=[3]) (by kernel_rfl) (by simp) ?_
      refine AllReadyH.cons (o:=oN 8 (cF1 50 #[oT 7] #[53]) 53 "point.go:88" #[jD 2,jC 1]) rfl (fun K hK => ?_) (AllReadyH.nil)
      go_simp
      (go_at_call 50;refine (kd _).mono ?_;clear kd;rintro e ws_9 ⟨s,rfl,hs,hb9⟩;(replace hc:=hc.still hb9);(replace hd:=hd.still hb9);(replace hbW:=below_next hbW hb9);clear hb9)
      (try go_simp)
      refine hK.out _ _ trivial (fun h => ?_)
      clear h hK K
      (try simp only [pS])
      refine wpAnyH_ready (rs:=[4]) (by kernel_rfl) (by simp) ?_
      refine AllReadyH.cons (o:=oS (Op.store 53 (oT 2) (oT 6)) "point.go:88" #[jD 1,jC 3,jP 0,jP 1,jT 2,jU 3]) rfl (fun K hK => ?_) (AllReadyH.nil)
      rw [if_pos (by rfl)]
      refine wp_store_mid 53 _ _ rfl g2 0 (p16 r.X r.Y r.Z r.T).toArray rfl rfl (thereP hc lc rfl) (info16A _ _ _ _) (one16 _ _ _ _) ?_
      have Os_10:=Out.setCells (b:=g2) (o:=0) (n:=(p16 r.X r.Y r.Z r.T).length) ws_9 (p16 r.X r.Y r.Z r.T) (Nat.le_refl _) (Nat.le_refl _)
      replace hbW:=below_setCells w2l (p16 r.X r.Y r.Z r.T) 0 _ hbW
      replace hc:=hc.stored (p16 r.X r.Y r.Z r.T) lc.symm
      replace hd:=hd.far g2 0 (p16 r.X r.Y r.Z r.T) (.inl (by omega))
      obtain ⟨ws_10,hws_10⟩:∃ W,ws_9.setCells g2 0 (p16 r.X r.Y r.Z r.T)=W:=⟨_,rfl⟩
      rw [hws_10] at hd
      rw [hws_10] at hc
      rw [hws_10] at Os_10
      rw [hws_10] at hbW
      rw [show ws_9.setCells g2 0 (p16 r.X r.Y r.Z r.T).toArray.toList=ws_10 from hws_10]
      refine hK.out _ _ trivial (fun h => ?_)
      clear h hK K hws_10
      (try dsimp only [Act.put])
      refine wpAnyH_ready (rs:=[5]) (by kernel_rfl) (by simp) ?_
      refine AllReadyH.cons (o:=oS (Op.store 53 (oT 3) (oT 8)) "point.go:88" #[jD 3,jC 4,jP 0,jP 1,jP 2,jP 3,jP 4]) rfl (fun K hK => ?_) (AllReadyH.nil)
      rw [if_pos (by rfl)]
      refine wp_store_mid 53 _ _ rfl g3 0 (p16 s.X s.Y s.Z s.T).toArray rfl rfl (thereP hd ld rfl) (info16A _ _ _ _) (one16 _ _ _ _) ?_
      have Os_11:=Out.setCells (b:=g3) (o:=0) (n:=(p16 s.X s.Y s.Z s.T).length) ws_10 (p16 s.X s.Y s.Z s.T) (Nat.le_refl _) (Nat.le_refl _)
      replace hbW:=below_setCells w3l (p16 s.X s.Y s.Z s.T) 0 _ hbW
      replace hd:=hd.stored (p16 s.X s.Y s.Z s.T) ld.symm
      replace hc:=hc.far g3 0 (p16 s.X s.Y s.Z s.T) (.inl (by omega))
      obtain ⟨ws_11,hws_11⟩:∃ W,ws_10.setCells g3 0 (p16 s.X s.Y s.Z s.T)=W:=⟨_,rfl⟩
      rw [hws_11] at hc
      rw [hws_11] at hd
      rw [hws_11] at Os_11
      rw [hws_11] at hbW
      rw [show ws_10.setCells g3 0 (p16 s.X s.Y s.Z s.T).toArray.toList=ws_11 from hws_11]
      refine hK.out _ _ trivial (fun h => ?_)
      clear h hK K hws_11
      (try dsimp only [Act.put])
      refine wpAnyH_done (by kernel_rfl) ?_ _
      refine NoPanic.normal ?_
      go_wp2
      go_meet
      case rel=>exact ⟨r,s,hr,hs,hbW,hc,hd⟩
  · rw [if_pos (by rfl)]
    refine wp_load_mid 53 _ rfl g3 0 rfl (d) _ hd.range Tryz.underlying53 rfl (infoP ld) ?_
    refine hK.out _ _ trivial (fun h => ?_)
    clear h hK K
    rw [show Value.agg (d).toArray = .agg d.toArray from rfl]
    (try simp only [pS])
    refine wpAnyH_ready (rs:=[0]) (by kernel_rfl) (by simp) ?_
    refine AllReadyH.cons (o:=oN 5 (Op.load 53 (oT 2)) 53 "point.go:88" #[]) rfl (fun K hK => ?_) (AllReadyH.nil)
    rw [if_pos (by rfl)]
    refine wp_load_mid 53 _ rfl g2 0 rfl (c) _ hc.range Tryz.underlying53 rfl (infoP lc) ?_
    refine hK.out _ _ trivial (fun h => ?_)
    clear h hK K
    rw [show Value.agg (c).toArray = .agg c.toArray from rfl]
    (try simp only [pS])
    refine wpAnyH_ready (rs:=[1]) (by kernel_rfl) (by simp) ?_
    refine AllReadyH.cons (o:=oN 6 (cF1 50 #[oT 5] #[53]) 53 "point.go:88" #[jD 0]) rfl (fun K hK => ?_) (AllReadyH.nil)
    go_simp
    (go_at_call 50;refine (kc _).mono ?_;clear kc;rintro e ws_14 ⟨r,rfl,hr,hb9⟩;(replace hc:=hc.still hb9);(replace hd:=hd.still hb9);(replace hbW:=below_next hbW hb9);clear hb9)
    (try go_simp)
    refine hK.out _ _ trivial (fun h => ?_)
    clear h hK K
    (try simp only [pS])
    refine wpAnyH_ready (rs:=[3]) (by kernel_rfl) (by simp) ?_
    refine AllReadyH.cons (o:=oN 8 (cF1 50 #[oT 7] #[53]) 53 "point.go:88" #[jD 2,jC 1]) rfl (fun K hK => ?_) (AllReadyH.nil)
    go_simp
    (go_at_call 50;refine (kd _).mono ?_;clear kd;rintro e ws_15 ⟨s,rfl,hs,hb9⟩;(replace hc:=hc.still hb9);(replace hd:=hd.still hb9);(replace hbW:=below_next hbW hb9);clear hb9)
    (try go_simp)
    refine hK.out _ _ trivial (fun h => ?_)
    clear h hK K
    (try simp only [pS])
    refine wpAnyH_ready (rs:=[4]) (by kernel_rfl) (by simp) ?_
    refine AllReadyH.cons (o:=oS (Op.store 53 (oT 2) (oT 6)) "point.go:88" #[jD 1,jC 3,jP 0,jP 1,jT 2,jU 3]) rfl (fun K hK => ?_) (AllReadyH.nil)
    rw [if_pos (by rfl)]
    refine wp_store_mid 53 _ _ rfl g2 0 (p16 r.X r.Y r.Z r.T).toArray rfl rfl (thereP hc lc rfl) (info16A _ _ _ _) (one16 _ _ _ _) ?_
    have Os_16:=Out.setCells (b:=g2) (o:=0) (n:=(p16 r.X r.Y r.Z r.T).length) ws_15 (p16 r.X r.Y r.Z r.T) (Nat.le_refl _) (Nat.le_refl _)
    replace hbW:=below_setCells w2l (p16 r.X r.Y r.Z r.T) 0 _ hbW
    replace hc:=hc.stored (p16 r.X r.Y r.Z r.T) lc.symm
    replace hd:=hd.far g2 0 (p16 r.X r.Y r.Z r.T) (.inl (by omega))
    obtain ⟨ws_16,hws_16⟩:∃ W,ws_15.setCells g2 0 (p16 r.X r.Y r.Z r.T)=W:=⟨_,rfl⟩
    rw [hws_16] at hd
    rw [hws_16] at hc
    rw [hws_16] at Os_16
    rw [hws_16] at hbW
    rw [show ws_15.setCells g2 0 (p16 r.X r.Y r.Z r.T).toArray.toList=ws_16 from hws_16]
    refine hK.out _ _ trivial (fun h => ?_)
    clear h hK K hws_16
    (try dsimp only [Act.put])
    refine wpAnyH_ready (rs:=[5]) (by kernel_rfl) (by simp) ?_
    refine AllReadyH.cons (o:=oS (Op.store 53 (oT 3) (oT 8)) "point.go:88" #[jD 3,jC 4,jP 0,jP 1,jP 2,jP 3,jP 4]) rfl (fun K hK => ?_) (AllReadyH.nil)
    rw [if_pos (by rfl)]
    refine wp_store_mid 53 _ _ rfl g3 0 (p16 s.X s.Y s.Z s.T).toArray rfl rfl (thereP hd ld rfl) (info16A _ _ _ _) (one16 _ _ _ _) ?_
    have Os_17:=Out.setCells (b:=g3) (o:=0) (n:=(p16 s.X s.Y s.Z s.T).length) ws_16 (p16 s.X s.Y s.Z s.T) (Nat.le_refl _) (Nat.le_refl _)
    replace hbW:=below_setCells w3l (p16 s.X s.Y s.Z s.T) 0 _ hbW
    replace hd:=hd.stored (p16 s.X s.Y s.Z s.T) ld.symm
    replace hc:=hc.far g3 0 (p16 s.X s.Y s.Z s.T) (.inl (by omega))
    obtain ⟨ws_17,hws_17⟩:∃ W,ws_16.setCells g3 0 (p16 s.X s.Y s.Z s.T)=W:=⟨_,rfl⟩
    rw [hws_17] at hc
    rw [hws_17] at hd
    rw [hws_17] at Os_17
    rw [hws_17] at hbW
    rw [show ws_16.setCells g3 0 (p16 s.X s.Y s.Z s.T).toArray.toList=ws_17 from hws_17]
    refine hK.out _ _ trivial (fun h => ?_)
    clear h hK K hws_17
    (try dsimp only [Act.put])
    refine wpAnyH_done (by kernel_rfl) ?_ _
    refine NoPanic.normal ?_
    go_wp2
    go_meet
    case rel=>exact ⟨r,s,hr,hs,hbW,hc,hd⟩
 case rest =>
 clear hbW hc hd kc kd lc ld
 obtain ⟨r,s,hr,hs,hbW,hc,hd⟩:=hcut
 obtain ⟨U,hU⟩:∃ W,W=wc:=⟨_,rfl⟩
 rw [←hU]
 rw [←hU] at hbW hc hd
 clear hU
 go_upto_region 2 with (fail)
 obtain ⟨rX,rY,rZ,-⟩:=parts16 hc
 obtain ⟨sX,sY,sZ,-⟩:=parts16 hd
 have k1:∀ W,Calls Tryz.prog 53 #[numV r.X,numV s.Z] W fun e w'=>e = .returned (numV (fmul r.X s.Z))∧Below W.heap.size W w':=fun W=>times_any _ _ hr.ok.X hs.ok.Z W
 have k2:∀ W,Calls Tryz.prog 53 #[numV s.X,numV r.Z] W fun e w'=>e = .returned (numV (fmul s.X r.Z))∧Below W.heap.size W w':=fun W=>times_any _ _ hs.ok.X hr.ok.Z W
 have k4:∀ W,Calls Tryz.prog 53 #[numV r.Y,numV s.Z] W fun e w'=>e = .returned (numV (fmul r.Y s.Z))∧Below W.heap.size W w':=fun W=>times_any _ _ hr.ok.Y hs.ok.Z W
 have k5:∀ W,Calls Tryz.prog 53 #[numV s.Y,numV r.Z] W fun e w'=>e = .returned (numV (fmul s.Y r.Z))∧Below W.heap.size W w':=fun W=>times_any _ _ hs.ok.Y hr.ok.Z W
 have k3:∀ W,Calls Tryz.prog 65 #[numV (fmul r.X s.Z),numV (fmul s.X r.Z)] W fun e w'=>e = .returned (.bool (decide (fmul r.X s.Z=fmul s.X r.Z)))∧Below W.heap.size W w':=fun W=>pequal_any _ _ (fmul_lt _ _) (fmul_lt _ _) W
 have k6:∀ W,Calls Tryz.prog 65 #[numV (fmul r.Y s.Z),numV (fmul s.Y r.Z)] W fun e w'=>e = .returned (.bool (decide (fmul r.Y s.Z=fmul s.Y r.Z)))∧Below W.heap.size W w':=fun W=>pequal_any _ _ (fmul_lt _ _) (fmul_lt _ _) W
 have hsm:=same_n hr hs
 clear hc hd hr hs
 generalize fmul r.X s.Z=xa at *
 generalize fmul s.X r.Z=xb at *
 generalize fmul r.Y s.Z=ya at *
 generalize fmul s.Y r.Z=yb at *
 by_cases hx:xa=xb
 · have hzz:z=decide (ya=yb):=by
    rw [Hz.out]
    exact decide_eq_decide.2 ⟨fun h=>(hsm.2 h).2,fun h=>hsm.1 ⟨hx,h⟩⟩
   rw [decide_eq_true hx] at k3
   rw [←hzz] at k6
   clear hsm hx hzz Hz
   have hdrew:Below U.heap.size U U.drew:=(Below.refl _ _).drew
   replace rX:=rX.still hdrew
   replace rY:=rY.still hdrew
   replace rZ:=rZ.still hdrew
   replace sX:=sX.still hdrew
   replace sY:=sY.still hdrew
   replace sZ:=sZ.still hdrew
   replace hbW:=below_next hbW hdrew
   clear hdrew
   refine wp_region_noPanic ?_
   refine wp_region_held_drew (S:=fun w'=>Below U.drew.heap.size U.drew w') (by kernel_rfl) (Below.refl _ _) (fun hHeld => ?_)
   clear hHeld
   refine tkH 0 (oN 9 (Op.fieldAddr 53 (oT 2) 0) 0 "point.go:89" #[]) (pA g2 0) bR yR ?_
   (try simp only [pS])
   refine tkH 1 (oN 10 (Op.load 51 (oT 9)) 51 "point.go:89" #[jD 0]) (numV r.X) bR (ldH rX 51 9 Tryz.underlying51 info4) ?_
   (try simp only [pS])
   refine tkH 2 (oN 11 (Op.fieldAddr 53 (oT 3) 2) 0 "point.go:89" #[]) (pA g3 8) bR yR ?_
   (try simp only [pS])
   refine tkH 3 (oN 12 (Op.load 51 (oT 11)) 51 "point.go:89" #[jD 2]) (numV s.Z) bR (ldH sZ 51 11 Tryz.underlying51 info4) ?_
   (try simp only [pS])
   refine tkH 5 (oN 14 (Op.fieldAddr 53 (oT 3) 0) 0 "point.go:89" #[]) (pA g3 0) bR yR ?_
   (try simp only [pS])
   refine tkH 6 (oN 15 (Op.load 51 (oT 14)) 51 "point.go:89" #[jD 5]) (numV s.X) bR (ldH sX 51 14 Tryz.underlying51 info4) ?_
   (try simp only [pS])
   refine tkH 7 (oN 16 (Op.fieldAddr 53 (oT 2) 2) 0 "point.go:89" #[]) (pA g2 8) bR yR ?_
   (try simp only [pS])
   refine tkH 8 (oN 17 (Op.load 51 (oT 16)) 51 "point.go:89" #[jD 7]) (numV r.Z) bR (ldH rZ 51 16 Tryz.underlying51 info4) ?_
   (try simp only [pS])
   refine callN 4 (oN 13 (cF1 53 #[oT 10,oT 12] #[51,51]) 51 "point.go:89" #[jD 1,jD 3]) (k1 _) ?_
   (clear k1;rintro e w1 ⟨rfl,hb1⟩)
   refine ⟨_,rfl,hb1,?_⟩
   replace rX:=rX.still hb1
   replace rY:=rY.still hb1
   replace rZ:=rZ.still hb1
   replace sX:=sX.still hb1
   replace sY:=sY.still hb1
   replace sZ:=sZ.still hb1
   replace hbW:=below_next hbW hb1
   clear hb1
   (try simp only [pS])
   refine callN 9 (oN 18 (cF1 53 #[oT 15,oT 17] #[51,51]) 51 "point.go:89" #[jD 6,jD 8,jC 4]) (k2 _) ?_
   (clear k2;rintro e w2 ⟨rfl,hb2⟩)
   refine ⟨_,rfl,hb2,?_⟩
   replace rX:=rX.still hb2
   replace rY:=rY.still hb2
   replace rZ:=rZ.still hb2
   replace sX:=sX.still hb2
   replace sY:=sY.still hb2
   replace sZ:=sZ.still hb2
   replace hbW:=below_next hbW hb2
   clear hb2
   (try simp only [pS])
   refine callN 10 (oN 19 (cF1 65 #[oT 13,oT 18] #[51,51]) 4 "point.go:89" #[jD 4,jD 9,jC 9]) (k3 _) ?_
   (clear k3;rintro e w3 ⟨rfl,hb3⟩)
   refine ⟨_,rfl,hb3,?_⟩
   replace rX:=rX.still hb3
   replace rY:=rY.still hb3
   replace rZ:=rZ.still hb3
   replace sX:=sX.still hb3
   replace sY:=sY.still hb3
   replace sZ:=sZ.still hb3
   replace hbW:=below_next hbW hb3
   clear hb3
   (try simp only [pS])
   refine tkH 11 (oN 20 (Op.move (oT 19)) 4 "point.go:89" #[jD 10,jC 10]) ?vt11 bR (Or.inl ⟨by rfl,?ht11⟩) ?rt11
   case ht11 =>
    intro w hSw
    go_simp
    try with_reducible rfl
   (try simp only [pS])
   refine tkH 12 ({ dst:=some 21,op:=Op.fieldAddr 53 (oT 2) 1,type:=0,pos := "point.go:89", after:=#[jG 11],guard:=some (11,true) }) (pA g2 4) bR yR ?_
   (try simp only [pS])
   refine tkH 13 ({ dst:=some 22,op:=Op.load 51 (oT 21),type:=51,pos := "point.go:89", after:=#[jD 12,jG 11],guard:=some (11,true) }) (numV r.Y) bR (ldH rY 51 21 Tryz.underlying51 info4) ?_
   (try simp only [pS])
   refine tkH 14 ({ dst:=some 23,op:=Op.fieldAddr 53 (oT 3) 2,type:=0,pos := "point.go:89", after:=#[jG 11],guard:=some (11,true) }) (pA g3 8) bR yR ?_
   (try simp only [pS])
   refine tkH 15 ({ dst:=some 24,op:=Op.load 51 (oT 23),type:=51,pos := "point.go:89", after:=#[jD 14,jG 11],guard:=some (11,true) }) (numV s.Z) bR (ldH sZ 51 23 Tryz.underlying51 info4) ?_
   (try simp only [pS])
   refine tkH 17 ({ dst:=some 26,op:=Op.fieldAddr 53 (oT 3) 1,type:=0,pos := "point.go:89", after:=#[jG 11],guard:=some (11,true) }) (pA g3 4) bR yR ?_
   (try simp only [pS])
   refine tkH 18 ({ dst:=some 27,op:=Op.load 51 (oT 26),type:=51,pos := "point.go:89", after:=#[jD 17,jG 11],guard:=some (11,true) }) (numV s.Y) bR (ldH sY 51 26 Tryz.underlying51 info4) ?_
   (try simp only [pS])
   refine tkH 19 ({ dst:=some 28,op:=Op.fieldAddr 53 (oT 2) 2,type:=0,pos := "point.go:89", after:=#[jG 11],guard:=some (11,true) }) (pA g2 8) bR yR ?_
   (try simp only [pS])
   refine tkH 20 ({ dst:=some 29,op:=Op.load 51 (oT 28),type:=51,pos := "point.go:89", after:=#[jD 19,jG 11],guard:=some (11,true) }) (numV r.Z) bR (ldH rZ 51 28 Tryz.underlying51 info4) ?_
   (try simp only [pS])
   refine callN 16 ({ dst:=some 25,op:=cF1 53 #[oT 22,oT 24] #[51,51],type:=51,pos := "point.go:89", after:=#[jD 13,jD 15,jC 11,jG 11],guard:=some (11,true) }) (k4 _) ?_
   (clear k4;rintro e w4 ⟨rfl,hb4⟩)
   refine ⟨_,rfl,hb4,?_⟩
   replace rX:=rX.still hb4
   replace rY:=rY.still hb4
   replace rZ:=rZ.still hb4
   replace sX:=sX.still hb4
   replace sY:=sY.still hb4
   replace sZ:=sZ.still hb4
   replace hbW:=below_next hbW hb4
   clear hb4
   (try simp only [pS])
   refine callN 21 ({ dst:=some 30,op:=cF1 53 #[oT 27,oT 29] #[51,51],type:=51,pos := "point.go:89", after:=#[jD 18,jD 20,jC 16,jG 11],guard:=some (11,true) }) (k5 _) ?_
   (clear k5;rintro e w5 ⟨rfl,hb5⟩)
   refine ⟨_,rfl,hb5,?_⟩
   replace rX:=rX.still hb5
   replace rY:=rY.still hb5
   replace rZ:=rZ.still hb5
   replace sX:=sX.still hb5
   replace sY:=sY.still hb5
   replace sZ:=sZ.still hb5
   replace hbW:=below_next hbW hb5
   clear hb5
   (try simp only [pS])
   refine callN 22 ({ dst:=some 31,op:=cF1 65 #[oT 25,oT 30] #[51,51],type:=4,pos := "point.go:89", after:=#[jD 16,jD 21,jC 21,jG 11],guard:=some (11,true) }) (k6 _) ?_
   (clear k6;rintro e w6 ⟨rfl,hb6⟩)
   refine ⟨_,rfl,hb6,?_⟩
   replace rX:=rX.still hb6
   replace rY:=rY.still hb6
   replace rZ:=rZ.still hb6
   replace sX:=sX.still hb6
   replace sY:=sY.still hb6
   replace sZ:=sZ.still hb6
   replace hbW:=below_next hbW hb6
   clear hb6
   (try simp only [pS])
   refine tkH 23 (oN 32 (Op.pick (oT 20) (oT 31) (Operand.const (Value.bool false))) 4 "point.go:89" #[jD 11,jD 22]) ?vt23 bR (Or.inl ⟨by rfl,?ht23⟩) ?rt23
   case ht23 =>
    intro w hSw
    go_simp
    try with_reducible rfl
   (try simp only [pS])
   refine tkH 24 (oN 4 (Op.assign (oT 32)) 4 "point.go:89" #[jD 23,jC 22,jP 0,jP 1,jP 2,jP 3,jP 4,jP 5,jP 6,jP 7,jP 8,jP 9,jP 10,jP 11,jP 12,jP 13,jP 14,jP 15,jP 16,jP 17,jP 18,jP 19,jP 20,jP 21,jP 22,jP 23]) ?vt24 bR (Or.inl ⟨by rfl,?ht24⟩) ?rt24
   case ht24 =>
    intro w hSw
    go_simp
    try with_reducible rfl
   (try simp only [pS])
   refine wpAnyH_done (by kernel_rfl) ?_ _
   refine NoPanic.normal ?_
   go_wp2
   go_ret
   exact ⟨rfl,hbW⟩
 · have hzz:z=false:=by
    rw [Hz.out]
    exact decide_eq_false fun h=>hx (hsm.2 h).1
   rw [decide_eq_false hx] at k3
   clear hsm hx Hz k4 k5 k6
   have hdrew:Below U.heap.size U U.drew:=(Below.refl _ _).drew
   replace rX:=rX.still hdrew
   replace rY:=rY.still hdrew
   replace rZ:=rZ.still hdrew
   replace sX:=sX.still hdrew
   replace sY:=sY.still hdrew
   replace sZ:=sZ.still hdrew
   replace hbW:=below_next hbW hdrew
   clear hdrew
   refine wp_region_noPanic ?_
   refine wp_region_held_drew (S:=fun w'=>Below U.drew.heap.size U.drew w') (by kernel_rfl) (Below.refl _ _) (fun hHeld => ?_)
   clear hHeld
   refine tkH 0 (oN 9 (Op.fieldAddr 53 (oT 2) 0) 0 "point.go:89" #[]) (pA g2 0) bR yR ?_
   (try simp only [pS])
   refine tkH 1 (oN 10 (Op.load 51 (oT 9)) 51 "point.go:89" #[jD 0]) (numV r.X) bR (ldH rX 51 9 Tryz.underlying51 info4) ?_
   (try simp only [pS])
   refine tkH 2 (oN 11 (Op.fieldAddr 53 (oT 3) 2) 0 "point.go:89" #[]) (pA g3 8) bR yR ?_
   (try simp only [pS])
   refine tkH 3 (oN 12 (Op.load 51 (oT 11)) 51 "point.go:89" #[jD 2]) (numV s.Z) bR (ldH sZ 51 11 Tryz.underlying51 info4) ?_
   (try simp only [pS])
   refine tkH 5 (oN 14 (Op.fieldAddr 53 (oT 3) 0) 0 "point.go:89" #[]) (pA g3 0) bR yR ?_
   (try simp only [pS])
   refine tkH 6 (oN 15 (Op.load 51 (oT 14)) 51 "point.go:89" #[jD 5]) (numV s.X) bR (ldH sX 51 14 Tryz.underlying51 info4) ?_
   (try simp only [pS])
   refine tkH 7 (oN 16 (Op.fieldAddr 53 (oT 2) 2) 0 "point.go:89" #[]) (pA g2 8) bR yR ?_
   (try simp only [pS])
   refine tkH 8 (oN 17 (Op.load 51 (oT 16)) 51 "point.go:89" #[jD 7]) (numV r.Z) bR (ldH rZ 51 16 Tryz.underlying51 info4) ?_
   (try simp only [pS])
   refine callN 4 (oN 13 (cF1 53 #[oT 10,oT 12] #[51,51]) 51 "point.go:89" #[jD 1,jD 3]) (k1 _) ?_
   (clear k1;rintro e w1 ⟨rfl,hb1⟩)
   refine ⟨_,rfl,hb1,?_⟩
   replace rX:=rX.still hb1
   replace rY:=rY.still hb1
   replace rZ:=rZ.still hb1
   replace sX:=sX.still hb1
   replace sY:=sY.still hb1
   replace sZ:=sZ.still hb1
   replace hbW:=below_next hbW hb1
   clear hb1
   (try simp only [pS])
   refine callN 9 (oN 18 (cF1 53 #[oT 15,oT 17] #[51,51]) 51 "point.go:89" #[jD 6,jD 8,jC 4]) (k2 _) ?_
   (clear k2;rintro e w2 ⟨rfl,hb2⟩)
   refine ⟨_,rfl,hb2,?_⟩
   replace rX:=rX.still hb2
   replace rY:=rY.still hb2
   replace rZ:=rZ.still hb2
   replace sX:=sX.still hb2
   replace sY:=sY.still hb2
   replace sZ:=sZ.still hb2
   replace hbW:=below_next hbW hb2
   clear hb2
   (try simp only [pS])
   refine callN 10 (oN 19 (cF1 65 #[oT 13,oT 18] #[51,51]) 4 "point.go:89" #[jD 4,jD 9,jC 9]) (k3 _) ?_
   (clear k3;rintro e w3 ⟨rfl,hb3⟩)
   refine ⟨_,rfl,hb3,?_⟩
   replace rX:=rX.still hb3
   replace rY:=rY.still hb3
   replace rZ:=rZ.still hb3
   replace sX:=sX.still hb3
   replace sY:=sY.still hb3
   replace sZ:=sZ.still hb3
   replace hbW:=below_next hbW hb3
   clear hb3
   (try simp only [pS])
   refine tkH 11 (oN 20 (Op.move (oT 19)) 4 "point.go:89" #[jD 10,jC 10]) ?vf11 bR (Or.inl ⟨by rfl,?hf11⟩) ?rf11
   case hf11 =>
    intro w hSw
    go_simp
    try with_reducible rfl
   (try simp only [pS])
   refine tkH 12 ({ dst:=some 21,op:=Op.fieldAddr 53 (oT 2) 1,type:=0,pos := "point.go:89", after:=#[jG 11],guard:=some (11,true) }) undef bR (Or.inr ⟨by rfl,rfl⟩) ?_
   (try simp only [pS])
   refine tkH 13 ({ dst:=some 22,op:=Op.load 51 (oT 21),type:=51,pos := "point.go:89", after:=#[jD 12,jG 11],guard:=some (11,true) }) undef bR (Or.inr ⟨by rfl,rfl⟩) ?_
   (try simp only [pS])
   refine tkH 14 ({ dst:=some 23,op:=Op.fieldAddr 53 (oT 3) 2,type:=0,pos := "point.go:89", after:=#[jG 11],guard:=some (11,true) }) undef bR (Or.inr ⟨by rfl,rfl⟩) ?_
   (try simp only [pS])
   refine tkH 15 ({ dst:=some 24,op:=Op.load 51 (oT 23),type:=51,pos := "point.go:89", after:=#[jD 14,jG 11],guard:=some (11,true) }) undef bR (Or.inr ⟨by rfl,rfl⟩) ?_
   (try simp only [pS])
   refine tkH 16 ({ dst:=some 25,op:=cF1 53 #[oT 22,oT 24] #[51,51],type:=51,pos := "point.go:89", after:=#[jD 13,jD 15,jC 11,jG 11],guard:=some (11,true) }) undef bR (Or.inr ⟨by rfl,rfl⟩) ?_
   (try simp only [pS])
   refine tkH 17 ({ dst:=some 26,op:=Op.fieldAddr 53 (oT 3) 1,type:=0,pos := "point.go:89", after:=#[jG 11],guard:=some (11,true) }) undef bR (Or.inr ⟨by rfl,rfl⟩) ?_
   (try simp only [pS])
   refine tkH 18 ({ dst:=some 27,op:=Op.load 51 (oT 26),type:=51,pos := "point.go:89", after:=#[jD 17,jG 11],guard:=some (11,true) }) undef bR (Or.inr ⟨by rfl,rfl⟩) ?_
   (try simp only [pS])
   refine tkH 19 ({ dst:=some 28,op:=Op.fieldAddr 53 (oT 2) 2,type:=0,pos := "point.go:89", after:=#[jG 11],guard:=some (11,true) }) undef bR (Or.inr ⟨by rfl,rfl⟩) ?_
   (try simp only [pS])
   refine tkH 20 ({ dst:=some 29,op:=Op.load 51 (oT 28),type:=51,pos := "point.go:89", after:=#[jD 19,jG 11],guard:=some (11,true) }) undef bR (Or.inr ⟨by rfl,rfl⟩) ?_
   (try simp only [pS])
   refine tkH 21 ({ dst:=some 30,op:=cF1 53 #[oT 27,oT 29] #[51,51],type:=51,pos := "point.go:89", after:=#[jD 18,jD 20,jC 16,jG 11],guard:=some (11,true) }) undef bR (Or.inr ⟨by rfl,rfl⟩) ?_
   (try simp only [pS])
   refine tkH 22 ({ dst:=some 31,op:=cF1 65 #[oT 25,oT 30] #[51,51],type:=4,pos := "point.go:89", after:=#[jD 16,jD 21,jC 21,jG 11],guard:=some (11,true) }) undef bR (Or.inr ⟨by rfl,rfl⟩) ?_
   (try simp only [pS])
   refine tkH 23 (oN 32 (Op.pick (oT 20) (oT 31) (Operand.const (Value.bool false))) 4 "point.go:89" #[jD 11,jD 22]) ?vf23 bR (Or.inl ⟨by rfl,?hf23⟩) ?rf23
   case hf23 =>
    intro w hSw
    go_simp
    try with_reducible rfl
   (try simp only [pS])
   refine tkH 24 (oN 4 (Op.assign (oT 32)) 4 "point.go:89" #[jD 23,jC 22,jP 0,jP 1,jP 2,jP 3,jP 4,jP 5,jP 6,jP 7,jP 8,jP 9,jP 10,jP 11,jP 12,jP 13,jP 14,jP 15,jP 16,jP 17,jP 18,jP 19,jP 20,jP 21,jP 22,jP 23]) ?vf24 bR (Or.inl ⟨by rfl,?hf24⟩) ?rf24
   case hf24 =>
    intro w hSw
    go_simp
    try with_reducible rfl
   (try simp only [pS])
   refine wpAnyH_done (by kernel_rfl) ?_ _
   refine NoPanic.normal ?_
   go_wp2
   go_ret
   exact ⟨by rw [hzz];rfl,hbW⟩
end Go.Proofs.YtdgkmloabificaaGreatDoor
namespace Go.Proofs.YtdgkmloabificaaGreatDoor
open Go.RowKit
def N4.C (p:N4):List Value:=p16 p.X p.Y p.Z p.T
def tabL (f:Nat→N4):List Value:=(List.range 256).map fun k=>((f (k / 16)).C)[k%16]?.getD undef
theorem tabL_len (f:Nat→N4):(tabL f).length=256:=by unfold tabL;rw [List.length_map,List.length_range]
theorem tabL_at (f:Nat→N4) {j i:Nat} (hj:j<16) (hi:i<16):(tabL f)[j*16+i]? = (f j).C[i]?:=by
 unfold tabL
 rw [List.getElem?_map,List.getElem?_range (by omega)]
 have h:i<(f j).C.length:=hi
 simp only [Option.map_some]
 rw [show (j*16+i) / 16=j by omega,show (j*16+i)%16=i by omega,List.getElem?_eq_getElem h]
 rfl
def zTb:Array Value:=Array.replicate 256 (.int .u64 0)
theorem zeroTb (w:World):Sem.run Tryz.prog (zeroValue 126) w = .ok (.agg zTb) w:=by kernel_rfl
theorem infoTs:(Tryz.prog.info? 126).map (·.size)=some 256:=by kernel_rfl
theorem zTb_eq:zTb=(tabL fun _=>⟨0,0,0,0⟩).toArray:=by kernel_rfl
theorem infoT (f:Nat→N4):(Tryz.prog.info? 126).map (·.size)=some (tabL f).length:=by rw [tabL_len];exact infoTs
theorem infoTA (f:Nat→N4):(Tryz.prog.info? 126).map (·.size)=some (tabL f).toArray.size:=by rw [List.size_toArray,tabL_len];exact infoTs
theorem oneT (f:Nat→N4):(tabL f).toArray.all (·.oneCell')=true:=all_oneCell_toArray (fun v hv=>by
 unfold tabL at hv
 obtain ⟨k,hk,rfl⟩:=List.mem_map.1 hv
 have h:k%16<(f (k / 16)).C.length:=Nat.mod_lt _ (by decide)
 rw [List.getElem?_eq_getElem h]
 have ha:=one16 (f (k / 16)).X (f (k / 16)).Y (f (k / 16)).Z (f (k / 16)).T
 rw [List.all_toArray,List.all_eq_true] at ha
 exact ha _ (List.getElem_mem h))
def Tab (w:World) (g:Nat) (f:Nat→N4):Prop:=∀ j,j<16→RW w g (j*16) (p16 (f j).X (f j).Y (f j).Z (f j).T)
theorem Tab.of {w:World} {g:Nat} {f:Nat→N4} (h:RW w g 0 (tabL f)):Tab w g f:=fun j hj =>
 ⟨fun i v hv=>by
   have hi:i<16:=(List.getElem?_eq_some_iff.1 hv).1
   have:=h.range (j*16+i) v (by rw [tabL_at f hj hi];exact hv)
   rwa [Nat.zero_add] at this,fun i hi=>by
   have hi':i<16:=hi
   have:=h.there (j*16+i) (by rw [tabL_len];omega)
   rwa [Nat.zero_add] at this,h.lt⟩
theorem Tab.row {w:World} {g:Nat} {f:Nat→N4} (h:Tab w g f):RW w g 0 (tabL f) :=
 ⟨fun k v hv=>by
   have hk:k<256:=by have:=(List.getElem?_eq_some_iff.1 hv).1;rwa [tabL_len] at this
   rw [show k=k / 16*16+k%16 by omega,tabL_at f (by omega) (Nat.mod_lt _ (by decide))] at hv
   have:=(h (k / 16) (by omega)).range (k%16) v hv
   rwa [show k / 16*16+k%16=0+k by omega] at this,fun k hk=>by
   rw [tabL_len] at hk
   have:=(h (k / 16) (by omega)).there (k%16) (Nat.mod_lt _ (by decide))
   rwa [show k / 16*16+k%16=0+k by omega] at this,(h 0 (by decide)).lt⟩
theorem Tab.still {w w':World} {g:Nat} {f:Nat→N4} (h:Tab w g f) (hb:Below w.heap.size w w'):Tab w' g f:=fun j hj=>(h j hj).still hb
theorem Tab.far {w:World} {g:Nat} {f:Nat→N4} (h:Tab w g f) (b p:Nat) (ds:List Value) (hne:g≠b):Tab (w.setCells b p ds) g f:=fun j hj=>(h j hj).far b p ds (.inl hne)
def updT (f:Nat→N4) (i:Nat) (p:N4):Nat→N4:=fun j=>if j=i then p else f j
theorem Tab.set {w:World} {g:Nat} {f:Nat→N4} (h:Tab w g f) {i:Nat} (hi:i<16) (p:N4):Tab (w.setCells g (i*16) (p16 p.X p.Y p.Z p.T)) g (updT f i p):=fun j hj=>by
 unfold updT
 by_cases e:j=i
 · subst e
   rw [if_pos rfl]
   exact (h j hj).stored (p16 p.X p.Y p.Z p.T) rfl
 · rw [if_neg e]
   exact (h j hj).far g (i*16) _ (.inr (by show j*16+16≤i*16∨i*16+16≤j*16;omega))
theorem freshT (w:World):∃ w' g,w.alloc (.cells zTb 126)=w'∧w.heap.size=g∧Below w.heap.size w w'∧Tab w' g (fun _=>⟨0,0,0,0⟩):=by
 refine ⟨_,_,rfl,rfl,(Below.refl _ _).alloc (Nat.le_refl _) _,Tab.of ?_⟩
 rw [zTb_eq];exact RW.fresh w _ _
end Go.Proofs.YtdgkmloabificaaGreatDoor
namespace Go.Proofs.YtdgkmloabificaaGreatDoor
open Go.RowKit
set_option maxRecDepth 20000 in
set_option maxHeartbeats 16000000 in
theorem pwindow_pt {p:N4} {P:Fp × Fp} (hp:W6 p P) (w:World) :
 Calls Tryz.prog 87 #[.agg (p16 p.X p.Y p.Z p.T).toArray] w fun e w'=>∃ f:Nat→N4,e = .returned (.agg (tabL f).toArray)∧(∀ j,j<16→W6 (f j) (emul dE j P))∧Below w.heap.size w w':=by
 have hzp:=zeroP
 have hzt:=zeroTb
 have cz:∀ W,Calls Tryz.prog 120 #[] W fun e w'=>e = .returned (.agg (p16 0 0 0 0).toArray)∧Below W.heap.size W w':=pzero_pt
 have cw:∀ W,Calls Tryz.prog 50 #[.agg (p16 0 0 0 0).toArray] W fun e w'=>∃ r:N4,e = .returned (.agg (p16 r.X r.Y r.Z r.T).toArray)∧W6 r ezero∧Below W.heap.size W w':=fun W=>pwhole_pt r6_zero W
 have ca:∀ (q:N4) (Q:Fp × Fp),W6 q Q→∀ W,Calls Tryz.prog 66 #[.agg (p16 q.X q.Y q.Z q.T).toArray,.agg (p16 p.X p.Y p.Z p.T).toArray] W fun e w'=>∃ r:N4,e = .returned (.agg (p16 r.X r.Y r.Z r.T).toArray)∧W6 r (eadd dE Q P)∧Below W.heap.size W w':=fun q Q hq W=>padd_pt hq hp W
 obtain ⟨V1,g1,eg1,hg1,bg1,hq⟩:∃ V g,w.alloc (.cells (p16 p.X p.Y p.Z p.T).toArray 53)=V∧w.heap.size=g∧Below w.heap.size w V∧RW V g 0 (p16 p.X p.Y p.Z p.T):=⟨_,_,rfl,rfl,(Below.refl _ _).alloc (Nat.le_refl _) _,RW.fresh w _ _⟩
 obtain ⟨V2,g2,eg2,hg2,bg2,hres⟩:=freshT V1
 obtain ⟨W,g3,eg3,hg3,bg3,htab⟩:=freshT V2
 have t1:V1.heap.size=w.heap.size+1:=by rw [←eg1];simp
 have t2:V2.heap.size=V1.heap.size+1:=by rw [←eg2];simp
 have HW:Hid (W=((w.alloc (.cells (p16 p.X p.Y p.Z p.T).toArray 53)).alloc (.cells zTb 126)).alloc (.cells zTb 126)):=Hid.mk' (by rw [←eg3,←eg2,←eg1])
 have q1:Hid (w.heap.size=g1):=Hid.mk' hg1
 have q2:Hid (w.heap.size+1=g2):=Hid.mk' (by omega)
 have q3:Hid (w.heap.size+1+1=g3):=Hid.mk' (by omega)
 replace hq:=(hq.still bg2).still bg3
 replace hres:=hres.still bg3
 have hbW:Below w.heap.size w W:=(bg1.trans (bg2.mono (by omega))).trans (bg3.mono (by omega))
 have w2l:w.heap.size≤g2:=by omega
 have w3l:w.heap.size≤g3:=by omega
 have n12:g1≠g2:=by omega
 have n13:g1≠g3:=by omega
 have n23:g2≠g3:=by omega
 clear eg1 eg2 eg3 hg1 hg2 hg3 bg1 bg2 bg3 t1 t2 V1 V2
 go_enter Tryz.func87,Tryz.ntmps87
 go_upto_region 3 with (first
  | (go_at_call 120;rw [←HW.out,q3.out,q2.out,q1.out];refine (cz _).mono ?_;clear cz HW q1 q2 q3;rintro e w1 ⟨rfl,hb1⟩;(replace hq:=hq.still hb1);(replace hres:=hres.still hb1);(replace htab:=htab.still hb1);(replace hbW:=below_next hbW hb1);clear hb1)
  | (go_at_call 50;refine (cw _).mono ?_;clear cw;rintro e w2 ⟨r,rfl,hr,hb2⟩;(replace hq:=hq.still hb2);(replace hres:=hres.still hb2);(replace htab:=htab.still hb2);(replace hbW:=below_next hbW hb2);clear hb2;(have t0:w2.there g3 0 (p16 r.X r.Y r.Z r.T).toArray.size:=(htab 0 (by decide)).there);(obtain ⟨V4,hV4⟩:∃ V,V=w2.setCells g3 0 (p16 r.X r.Y r.Z r.T):=⟨_,rfl⟩);(replace htab:Tab V4 g3 (updT (fun _=>⟨0,0,0,0⟩) 0 r):=by rw [hV4];exact htab.set (i:=0) (by decide) r);(replace hq:=hq.far g3 0 (p16 r.X r.Y r.Z r.T) (.inl n13));(replace hres:=hres.far g3 0 (p16 r.X r.Y r.Z r.T) n23);(replace hbW:=below_setCells w3l (p16 r.X r.Y r.Z r.T) 0 _ hbW);rw [←hV4] at hq hres hbW;(have H4:=Hid.mk' hV4);clear hV4)
  | (with_reducible (refine id (?_:wpList _ _ _ _ _ _));refine wpList_store_mid rfl 53 _ _ rfl g3 0 (p16 r.X r.Y r.Z r.T).toArray rfl rfl t0 (info16A _ _ _ _) (one16 _ _ _ _) ?_;rw [List.toList_toArray,←H4.out];clear t0 H4))
 (try dsimp only [Act.put])
 go_wp2
 go_loopw [4] (fun i wr=>∃ (k:Nat) (f:Nat→N4),1≤k∧k≤16∧i = .int .i64 (k:Int)∧(∀ j,j<k→W6 (f j) (emul dE j P))∧RW wr g1 0 (p16 p.X p.Y p.Z p.T)∧Tab wr g2 (fun _=>⟨0,0,0,0⟩)∧Tab wr g3 f∧Below w.heap.size w wr) (fun i _=>17 - (intOf i).toNat)
 case atStart=>exact ⟨1,_,Nat.le_refl _,by decide,rfl,fun j hj=>by rw [show j=0 by omega];exact hr,hq,hres,htab,hbW⟩
 case round =>
  obtain ⟨k,f,hk1,hk2,rfl,hf,kq,kres,ktab,kb⟩:=hrel
  clear hq hres htab hbW hr
  by_cases hlt:k<16
  · have e1:((k:Int)<16):=by omega
    have hrow:=ktab (k - 1) (by omega)
    have hcell:=ktab k hlt
    have e2:IntKind.i64.wrap ((k:Int) - 1)=((k - 1:Nat):Int):=by simp only [IntKind.wrap_i64];omega
    have e3:¬(((k - 1:Nat):Int)<0):=by omega
    have e4:((k - 1:Nat):Int)<16:=by omega
    have e5:((k - 1:Nat):Int).toNat=k - 1:=by omega
    have e6:¬((k:Int)<0):=by omega
    have e7:(k:Int).toNat=k:=by omega
    have hup:∀ x:N4,W6 x (eadd dE (emul dE (k - 1) P) P)→∀ j,j<k+1→W6 (updT f k x j) (emul dE j P):=fun x hx j hj=>by
     unfold updT
     by_cases e:j=k
     · rw [if_pos e,e]
       have:emul dE k P=eadd dE (emul dE (k - 1) P) P:=by
        obtain ⟨m,rfl⟩:∃ m,k=m+1:=⟨k - 1,by omega⟩
        rfl
       rw [this];exact hx
     · rw [if_neg e];exact hf j (by omega)
    have ca2:=ca (f (k - 1)) _ (hf (k - 1) (by omega))
    go_upto_region 6 with (fail)
    clear hf hp ca
    have hdrew:Below wr.heap.size wr wr.drew:=(Below.refl _ _).drew
    replace kq:=kq.still hdrew
    replace kres:=kres.still hdrew
    replace ktab:=ktab.still hdrew
    replace hrow:=hrow.still hdrew
    replace hcell:=hcell.still hdrew
    refine wp_region_noPanic ?_
    refine wp_region_held_drew (S:=fun _=>True) (by kernel_rfl) trivial (fun _ => ?_)
    replace kb:=below_next kb hdrew
    generalize wr.drew=Vn_ at *
    refine wpAnyH_take (i:=0) (oi:=oN 12 (Op.move (oT 4)) 3 "curve.go:78" #[]) (v := ?vn_1) rfl (by kernel_rfl) (by kernel_rfl) (by kernel_rfl) (fun _ _ _ h=>h) (Or.inl ⟨by rfl,?hn_1⟩) trivial ?rn_1
    case hn_1 =>
     intro w hSw
     go_simp
     try with_reducible rfl
    (try simp only [pS])
    refine wpAnyH_take (i:=1) (oi:=oN 13 (Op.move (oT 4)) 3 "curve.go:78" #[]) (v := ?vn_2) rfl (by kernel_rfl) (by kernel_rfl) (by kernel_rfl) (fun _ _ _ h=>h) (Or.inl ⟨by rfl,?hn_2⟩) trivial ?rn_2
    case hn_2 =>
     intro w hSw
     go_simp
     try with_reducible rfl
    (try simp only [pS])
    refine wpAnyH_take (i:=2) (oi:=oN 14 (Op.binOp BinOp.sub 3 (oT 13) (Operand.const (Value.int IntKind.i64 1)) 3) 3 "curve.go:78" #[jD 1]) (v := ?vn_3) rfl (by kernel_rfl) (by kernel_rfl) (by kernel_rfl) (fun _ _ _ h=>h) (Or.inl ⟨by rfl,?hn_3⟩) trivial ?rn_3
    case hn_3 =>
     intro w hSw
     go_simp
     try with_reducible rfl
    (try simp only [pS])
    refine wpAnyH_take (i:=3) (oi:=oN 15 (Op.indexAddr 126 (oT 3) (oT 14)) 0 "curve.go:78" #[jD 2]) (v := ?vn_4) rfl (by kernel_rfl) (by kernel_rfl) (by kernel_rfl) (fun _ _ _ h=>h) (Or.inl ⟨by rfl,?hn_4⟩) trivial ?rn_4
    case hn_4 =>
     intro w hSw
     go_simp
     try with_reducible rfl
    (try simp only [pS])
    refine wpAnyH_ready (rs:=[4,5]) (by kernel_rfl) (by simp) ?_
    refine AllReadyH.cons (o:=oN 16 (Op.load 53 (oT 15)) 53 "curve.go:78" #[jD 3]) rfl (fun K hK => ?_) (AllReadyH.cons (o:=oN 17 (Op.load 53 (oT 1)) 53 "curve.go:78" #[]) rfl (fun K hK => ?_) (AllReadyH.nil))
    · rw [if_pos (by rfl)]
      refine wp_load_mid 53 _ rfl g3 ((k - 1)*16) rfl (p16 (f (k - 1)).X (f (k - 1)).Y (f (k - 1)).Z (f (k - 1)).T) _ hrow.range Tryz.underlying53 rfl (info16 _ _ _ _) ?_
      refine hK.out _ _ trivial (fun h => ?_)
      clear h hK K
      rw [show Value.agg (p16 (f (k - 1)).X (f (k - 1)).Y (f (k - 1)).Z (f (k - 1)).T).toArray = .agg (p16 (f (k - 1)).X (f (k - 1)).Y (f (k - 1)).Z (f (k - 1)).T).toArray from rfl]
      (try simp only [pS])
      refine wpAnyH_ready (rs:=[5]) (by kernel_rfl) (by simp) ?_
      refine AllReadyH.cons (o:=oN 17 (Op.load 53 (oT 1)) 53 "curve.go:78" #[]) rfl (fun K hK => ?_) (AllReadyH.nil)
      rw [if_pos (by rfl)]
      refine wp_load_mid 53 _ rfl g1 0 rfl (p16 p.X p.Y p.Z p.T) _ kq.range Tryz.underlying53 rfl (info16 _ _ _ _) ?_
      refine hK.out _ _ trivial (fun h => ?_)
      clear h hK K
      rw [show Value.agg (p16 p.X p.Y p.Z p.T).toArray = .agg (p16 p.X p.Y p.Z p.T).toArray from rfl]
      (try simp only [pS])
      refine wpAnyH_ready (rs:=[6]) (by kernel_rfl) (by simp) ?_
      refine AllReadyH.cons (o:=oN 18 (cF1 66 #[oT 16,oT 17] #[53,53]) 53 "curve.go:78" #[jD 4,jD 5]) rfl (fun K hK => ?_) (AllReadyH.nil)
      go_simp
      (go_at_call 66;refine (ca2 _).mono ?_;clear ca2;rintro e wn_7 ⟨x,rfl,hx,hb9⟩;(replace kq:=kq.still hb9);(replace kres:=kres.still hb9);(replace ktab:=ktab.still hb9);(replace hcell:=hcell.still hb9);(replace kb:=below_next kb hb9);clear hb9)
      (try go_simp)
      refine hK.out _ _ trivial (fun h => ?_)
      clear h hK K
      (try simp only [pS])
      refine wpAnyH_take (i:=7) (oi:=oN 19 (Op.indexAddr 126 (oT 3) (oT 12)) 0 "curve.go:78" #[jD 0,jP 0,jP 1,jP 2,jP 3,jP 4,jP 5,jP 6]) (v := ?vn_8) rfl (by kernel_rfl) (by kernel_rfl) (by kernel_rfl) (fun _ _ _ h=>h) (Or.inl ⟨by rfl,?hn_8⟩) trivial ?rn_8
      case hn_8 =>
       intro w hSw
       go_simp
       try with_reducible rfl
      (try simp only [pS])
      refine wpAnyH_ready (rs:=[8]) (by kernel_rfl) (by simp) ?_
      refine AllReadyH.cons (o:=oS (Op.store 53 (oT 19) (oT 18)) "curve.go:78" #[jD 7,jD 6,jC 6,jP 0,jP 1,jP 2,jP 3,jP 4,jP 5,jP 6]) rfl (fun K hK => ?_) (AllReadyH.nil)
      rw [if_pos (by rfl)]
      refine wp_store_mid 53 _ _ rfl g3 (k*16) (p16 x.X x.Y x.Z x.T).toArray rfl rfl hcell.there (info16A _ _ _ _) (one16 _ _ _ _) ?_
      have On_9:=Out.setCells (b:=g3) (o:=(k*16)) (n:=(p16 x.X x.Y x.Z x.T).length) wn_7 (p16 x.X x.Y x.Z x.T) (Nat.le_refl _) (Nat.le_refl _)
      replace kres:=kres.far g3 (k*16) (p16 x.X x.Y x.Z x.T) n23
      replace ktab:=ktab.set hlt x
      replace kb:=below_setCells w3l (p16 x.X x.Y x.Z x.T) (k*16) _ kb
      replace hcell:=hcell.stored (p16 x.X x.Y x.Z x.T) rfl
      replace kq:=kq.far g3 (k*16) (p16 x.X x.Y x.Z x.T) (.inl n13)
      obtain ⟨wn_9,hwn_9⟩:∃ W,wn_7.setCells g3 (k*16) (p16 x.X x.Y x.Z x.T)=W:=⟨_,rfl⟩
      rw [hwn_9] at kq
      rw [hwn_9] at hcell
      rw [hwn_9] at On_9
      rw [hwn_9] at kres ktab kb
      rw [show wn_7.setCells g3 (k*16) (p16 x.X x.Y x.Z x.T).toArray.toList=wn_9 from hwn_9]
      refine hK.out _ _ trivial (fun h => ?_)
      clear h hK K hwn_9
      (try dsimp only [Act.put])
      refine wpAnyH_done (by kernel_rfl) ?_ _
      refine NoPanic.normal ?_
      go_wp2
      go_roundw
      case rel=>exact ⟨k+1,updT f k x,by omega,by omega,by go_num,fun j hj=>hup x hx j hj,kq,kres,ktab,kb⟩
      case measure=>simp [intOf];omega
    · rw [if_pos (by rfl)]
      refine wp_load_mid 53 _ rfl g1 0 rfl (p16 p.X p.Y p.Z p.T) _ kq.range Tryz.underlying53 rfl (info16 _ _ _ _) ?_
      refine hK.out _ _ trivial (fun h => ?_)
      clear h hK K
      rw [show Value.agg (p16 p.X p.Y p.Z p.T).toArray = .agg (p16 p.X p.Y p.Z p.T).toArray from rfl]
      (try simp only [pS])
      refine wpAnyH_ready (rs:=[4]) (by kernel_rfl) (by simp) ?_
      refine AllReadyH.cons (o:=oN 16 (Op.load 53 (oT 15)) 53 "curve.go:78" #[jD 3]) rfl (fun K hK => ?_) (AllReadyH.nil)
      rw [if_pos (by rfl)]
      refine wp_load_mid 53 _ rfl g3 ((k - 1)*16) rfl (p16 (f (k - 1)).X (f (k - 1)).Y (f (k - 1)).Z (f (k - 1)).T) _ hrow.range Tryz.underlying53 rfl (info16 _ _ _ _) ?_
      refine hK.out _ _ trivial (fun h => ?_)
      clear h hK K
      rw [show Value.agg (p16 (f (k - 1)).X (f (k - 1)).Y (f (k - 1)).Z (f (k - 1)).T).toArray = .agg (p16 (f (k - 1)).X (f (k - 1)).Y (f (k - 1)).Z (f (k - 1)).T).toArray from rfl]
      (try simp only [pS])
      refine wpAnyH_ready (rs:=[6]) (by kernel_rfl) (by simp) ?_
      refine AllReadyH.cons (o:=oN 18 (cF1 66 #[oT 16,oT 17] #[53,53]) 53 "curve.go:78" #[jD 4,jD 5]) rfl (fun K hK => ?_) (AllReadyH.nil)
      go_simp
      (go_at_call 66;refine (ca2 _).mono ?_;clear ca2;rintro e wn_12 ⟨x,rfl,hx,hb9⟩;(replace kq:=kq.still hb9);(replace kres:=kres.still hb9);(replace ktab:=ktab.still hb9);(replace hcell:=hcell.still hb9);(replace kb:=below_next kb hb9);clear hb9)
      (try go_simp)
      refine hK.out _ _ trivial (fun h => ?_)
      clear h hK K
      (try simp only [pS])
      refine wpAnyH_take (i:=7) (oi:=oN 19 (Op.indexAddr 126 (oT 3) (oT 12)) 0 "curve.go:78" #[jD 0,jP 0,jP 1,jP 2,jP 3,jP 4,jP 5,jP 6]) (v := ?vn_13) rfl (by kernel_rfl) (by kernel_rfl) (by kernel_rfl) (fun _ _ _ h=>h) (Or.inl ⟨by rfl,?hn_13⟩) trivial ?rn_13
      case hn_13 =>
       intro w hSw
       go_simp
       try with_reducible rfl
      (try simp only [pS])
      refine wpAnyH_ready (rs:=[8]) (by kernel_rfl) (by simp) ?_
      refine AllReadyH.cons (o:=oS (Op.store 53 (oT 19) (oT 18)) "curve.go:78" #[jD 7,jD 6,jC 6,jP 0,jP 1,jP 2,jP 3,jP 4,jP 5,jP 6]) rfl (fun K hK => ?_) (AllReadyH.nil)
      rw [if_pos (by rfl)]
      refine wp_store_mid 53 _ _ rfl g3 (k*16) (p16 x.X x.Y x.Z x.T).toArray rfl rfl hcell.there (info16A _ _ _ _) (one16 _ _ _ _) ?_
      have On_14:=Out.setCells (b:=g3) (o:=(k*16)) (n:=(p16 x.X x.Y x.Z x.T).length) wn_12 (p16 x.X x.Y x.Z x.T) (Nat.le_refl _) (Nat.le_refl _)
      replace kres:=kres.far g3 (k*16) (p16 x.X x.Y x.Z x.T) n23
      replace ktab:=ktab.set hlt x
      replace kb:=below_setCells w3l (p16 x.X x.Y x.Z x.T) (k*16) _ kb
      replace hcell:=hcell.stored (p16 x.X x.Y x.Z x.T) rfl
      replace kq:=kq.far g3 (k*16) (p16 x.X x.Y x.Z x.T) (.inl n13)
      obtain ⟨wn_14,hwn_14⟩:∃ W,wn_12.setCells g3 (k*16) (p16 x.X x.Y x.Z x.T)=W:=⟨_,rfl⟩
      rw [hwn_14] at kq
      rw [hwn_14] at hcell
      rw [hwn_14] at On_14
      rw [hwn_14] at kres ktab kb
      rw [show wn_12.setCells g3 (k*16) (p16 x.X x.Y x.Z x.T).toArray.toList=wn_14 from hwn_14]
      refine hK.out _ _ trivial (fun h => ?_)
      clear h hK K hwn_14
      (try dsimp only [Act.put])
      refine wpAnyH_done (by kernel_rfl) ?_ _
      refine NoPanic.normal ?_
      go_wp2
      go_roundw
      case rel=>exact ⟨k+1,updT f k x,by omega,by omega,by go_num,fun j hj=>hup x hx j hj,kq,kres,ktab,kb⟩
      case measure=>simp [intOf];omega
  · obtain rfl:k=16:=by omega
    have e1:¬(((16:Nat):Int)<16):=by omega
    have krow:=ktab.row
    have kr2:=kres.row
    have t2:wr.there g2 0 (tabL f).toArray.size:=by
     have:=kr2.there
     rw [tabL_len] at this
     rw [List.size_toArray,tabL_len];exact this
    go_wp2_with (first
     | (refine wpList_load_mid rfl 126 _ rfl g3 0 rfl (tabL f) _ krow.range Tryz.underlying126 rfl (infoT _) ?_)
     | (with_reducible (refine id (?_:wpList _ _ _ _ _ _));refine wpList_store_mid rfl 126 _ _ rfl g2 0 (tabL f).toArray rfl rfl t2 (infoTA _) (oneT _) ?_))
    (try simp only [Exit.inBlock,Exit.then])
    exact bodyPost_ret (results_cell_mid Tryz.results87 _ _ g2 0 (tabL f) _ rfl (kr2.stored (tabL f) (by rw [tabL_len,tabL_len])).range Tryz.underlying126 rfl (infoT _)) rfl ⟨f,rfl,hf,below_setCells w2l _ _ _ kb⟩
end Go.Proofs.YtdgkmloabificaaGreatDoor
namespace Go.Proofs.YtdgkmloabificaaGreatDoor
open Go.RowKit
def digN (ks:Nat→Nat) (b:Nat):Nat:=ks (b / 8) / 2 ^ (b%8)%16
def accN (ks:Nat→Nat):Nat→Nat
 | 0=>0
 | j+1=>if (255 - j)%4=0 then 2*accN ks j+digN ks (255 - j) else 2*accN ks j
theorem div_mod16 {M k r:Nat} (hM:M%256=k) (hr:r=0∨r=4):M / 2 ^ r%16=k / 2 ^ r%16:=by
 rcases hr with rfl | rfl
 · rw [Nat.pow_zero,Nat.div_one,Nat.div_one];omega
 · rw [show 2 ^ 4=16 from rfl];omega
theorem dig_eq {ks:Nat→Nat} (hk:∀ j,ks j<256) {b:Nat} (hb:b<256) (h4:b%4=0):digN ks b=ofB ks 32 / 2 ^ b%16:=by
 unfold digN
 have h:=byt_ofB ks hk 32 (b / 8) (by omega)
 unfold byt at h
 have e:2 ^ b=256 ^ (b / 8)*2 ^ (b%8):=by
  rw [show (256:Nat)=2 ^ 8 from rfl,←Nat.pow_mul,←Nat.pow_add,show 8*(b / 8)+b%8=b by omega]
 rw [e,←Nat.div_div_eq_div_mul]
 exact (div_mod16 h (by omega)).symm
theorem acc_four {ks:Nat→Nat} (hk:∀ j,ks j<256):∀ m,m≤64→accN ks (4*m)=ofB ks 32 / 2 ^ (256 - 4*m)
 | 0,_=>by
  have:=ofB_lt ks hk 32
  show 0=_
  rw [Nat.div_eq_of_lt]
  exact Nat.lt_of_lt_of_le this (by decide)
 | m+1,h=>by
  have ih:=acc_four hk m (by omega)
  have d:=dig_eq hk (b:=255 - (4*m+3)) (by omega) (by omega)
  rw [show 4*(m+1)=4*m+3+1 by omega]
  unfold accN
  rw [if_pos (by omega)]
  unfold accN
  rw [if_neg (by omega)]
  unfold accN
  rw [if_neg (by omega)]
  unfold accN
  rw [if_neg (by omega),ih,d,show 256 - 4*m=(252 - 4*m)+4 by omega,show 255 - (4*m+3)=252 - 4*m by omega,show 256 - (4*m+3+1)=252 - 4*m by omega,Nat.pow_add,←Nat.div_div_eq_div_mul]
  generalize ofB ks 32 / 2 ^ (252 - 4*m)=M
  rw [show 2 ^ 4=16 from rfl]
  omega
theorem acc_all {ks:Nat→Nat} (hk:∀ j,ks j<256):accN ks 256=ofB ks 32:=by
 have:=acc_four hk 64 (by decide)
 rw [show 4*64=256 from rfl,Nat.sub_self,Nat.pow_zero,Nat.div_one] at this
 exact this
theorem dig_lt (ks:Nat→Nat) (b:Nat):digN ks b<16:=Nat.mod_lt _ (by decide)
theorem acc_dbl {P:Fp × Fp} (hP:On dE P) (ks:Nat→Nat) (j:Nat):eadd dE (emul dE (accN ks j) P) (emul dE (accN ks j) P)=emul dE (2*accN ks j) P:=by rw [←emul_add ns_dE hP,Nat.two_mul]
theorem acc_skip {ks:Nat→Nat} {j:Nat} (h:¬(255 - j)%4=0):accN ks (j+1)=2*accN ks j:=by
 show (if (255 - j)%4=0 then _ else _)=_
 rw [if_neg h]
theorem acc_take {ks:Nat→Nat} {j:Nat} (h:(255 - j)%4=0):accN ks (j+1)=2*accN ks j+digN ks (255 - j):=by
 show (if (255 - j)%4=0 then _ else _)=_
 rw [if_pos h]
end Go.Proofs.YtdgkmloabificaaGreatDoor
namespace Go.Proofs.YtdgkmloabificaaGreatDoor
open Go.RowKit
theorem dig_bits {ks:Nat→Nat} (hlt:∀ q,ks q<256) (b:Nat):bits .and .u8 ((ks (b / 8):Int) / 2 ^ (b%8)) 15=((digN ks b:Nat):Int):=by
 unfold digN
 have e:((ks (b / 8):Int) / 2 ^ (b%8))=((ks (b / 8) / 2 ^ (b%8):Nat):Int):=by simp
 have hb:ks (b / 8) / 2 ^ (b%8)<256:=Nat.lt_of_le_of_lt (Nat.div_le_self _ _) (hlt _)
 rw [e,show (15:Int)=((15:Nat):Int) from rfl,u8_and_nat _ 15 hb (by decide)]
 generalize ks (b / 8) / 2 ^ (b%8)=v
 congr 1
 exact Nat.and_two_pow_sub_one_eq_mod v 4
set_option maxRecDepth 20000 in
set_option maxHeartbeats 16000000 in
theorem ptm_good {c:List Value} {P:Fp × Fp} (hP:R6 c P) (v:Value) (ks:Nat→Nat) (hks:∀ j,ks j<256) (w:World) (hv:BytesIn w v 32 ks) :
 Calls Tryz.prog 46 #[.agg c.toArray,v] w fun e w'=>∃ c',e = .returned (.tuple #[.agg c'.toArray,.int .i64 0])∧R6 c' (emul dE (ofB ks 32) P)∧Below w.heap.size w w':=by
 have hzp:=zeroP
 have hzt:=zeroTb
 have hon:=hP.on
 have lc:=hP.len
 have kc:=fun W=>pwhole_pt hP W
 have kw:∀ (r:N4),W6 r P→∀ W,Calls Tryz.prog 87 #[.agg (p16 r.X r.Y r.Z r.T).toArray] W fun e w'=>∃ f:Nat→N4,e = .returned (.agg (tabL f).toArray)∧(∀ j,j<16→W6 (f j) (emul dE j P))∧Below W.heap.size W w':=fun r hr W=>pwindow_pt hr W
 have kt:∀ (t:N4) (Q:Fp × Fp),W6 t Q→∀ W,Calls Tryz.prog 88 #[.agg (p16 t.X t.Y t.Z t.T).toArray] W fun e w'=>∃ r:N4,e = .returned (.agg (p16 r.X r.Y r.Z r.T).toArray)∧W6 r (eadd dE Q Q)∧Below W.heap.size W w':=fun t Q ht W=>ptwice_pt ht W
 have ka:∀ (t s:N4) (Q S:Fp × Fp),W6 t Q→W6 s S→∀ W,Calls Tryz.prog 66 #[.agg (p16 t.X t.Y t.Z t.T).toArray,.agg (p16 s.X s.Y s.Z s.T).toArray] W fun e w'=>∃ r:N4,e = .returned (.agg (p16 r.X r.Y r.Z r.T).toArray)∧W6 r (eadd dE Q S)∧Below W.heap.size W w':=fun t s Q S ht hs W=>padd_pt ht hs W
 obtain ⟨bb,ob,cap,hsl,hlb,hcap,hcl⟩:∃ bb ob cap,v = .slice (some ⟨bb,ob,none⟩) 32 cap∧bb<w.heap.size∧32≤cap∧∀ j,j<32→w.cell? ⟨bb,ob+j,none⟩=some (.int .u8 (ks j)):=hv.resolve_left (fun ⟨_,_,h⟩=>by omega)
 subst hsl
 obtain ⟨V1,g2,eg2,hg2,bg2,hc⟩:∃ V g,w.alloc (.cells c.toArray 53)=V∧w.heap.size=g∧Below w.heap.size w V∧RW V g 0 c:=⟨_,_,rfl,rfl,(Below.refl _ _).alloc (Nat.le_refl _) _,RW.fresh w _ _⟩
 obtain ⟨W,g4,eg4,hg4,bg4,hres⟩:=fresh16 V1
 have t1:V1.heap.size=w.heap.size+1:=by rw [←eg2];simp
 have HW:Hid (W=(w.alloc (.cells c.toArray 53)).alloc (.cells zP 53)):=Hid.mk' (by rw [←eg4,←eg2])
 have q2:Hid (w.heap.size=g2):=Hid.mk' hg2
 have q4:Hid (w.heap.size+1=g4):=Hid.mk' (by omega)
 replace hc:=hc.still bg4
 have hbW:Below w.heap.size w W:=bg2.trans (bg4.mono (by omega))
 have w4l:w.heap.size≤g4:=by omega
 clear eg2 eg4 hg2 hg4 bg2 bg4 t1 V1 hP hv
 go_enter Tryz.func46,Tryz.ntmps46
 go_wp2
 rw [←HW.out,q4.out,q2.out]
 clear HW q2 q4
 refine wp_scope_jumps 0 (fun a' wr=>∃ (j:Nat) (t:N4) (f:Nat→N4) (g6 g7:Nat) (u9 u10 u11 u12 u13 u14 u15 u16 u17 u18 u19 u20 u21 u22 u23 u24 u25 u26 u27 u28 u29 u30 u31 u32 u33 u34 u35 u36 u37 u38 u39 u40 u41 u42 u43:Value),a'={ tmps:=#[.agg c.toArray,.slice (some ⟨bb,ob,none⟩) 32 cap,.pointer (some ⟨g2,0,none⟩),undef,.pointer (some ⟨g4,0,none⟩),.int .i64 0,.pointer (some ⟨g6,0,none⟩),.pointer (some ⟨g7,0,none⟩),.int .i64 (256 - (j:Int)),u9,u10,u11,u12,u13,u14,u15,u16,u17,u18,u19,u20,u21,u22,u23,u24,u25,u26,u27,u28,u29,u30,u31,u32,u33,u34,u35,u36,u37,u38,u39,u40,u41,u42,u43],defers:=[] }∧1≤j∧j≤255∧W6 t (emul dE (accN ks j) P)∧(∀ i,i<16→W6 (f i) (emul dE i P))∧RW wr g4 0 (p16 0 0 0 0)∧Tab wr g6 f∧RW wr g7 0 (p16 t.X t.Y t.Z t.T)∧g6≠g7∧g4≠g7∧w.heap.size≤g7∧Below w.heap.size w wr) (fun a' _=>(intOf (a'.tmps.getD 8 undef)).toNat) rfl ?_ ?_
 · go_wp2_with (first
    | (refine wpList_load_mid rfl 53 _ rfl g2 0 rfl c _ hc.range Tryz.underlying53 rfl (infoP lc) ?_)
    | (go_at_call 50;refine (kc _).mono ?_;clear kc;rintro e w1 ⟨r,rfl,hr,hb1⟩;(replace hres:=hres.still hb1);(replace hbW:=below_next hbW hb1);clear hb1 hc;(have kw2:=kw r hr);clear kw)
    | (go_at_call 87;refine (kw2 _).mono ?_;clear kw2;rintro e w2 ⟨f,rfl,hf,hb2⟩;(replace hres:=hres.still hb2);(replace hbW:=below_next hbW hb2);clear hb2;(obtain ⟨A2,g6,eA,hg6,bA,hT⟩:=freshT w2);(have l4:=hres.lt);(have hT0:=hT.row);(have t6:(w2.alloc (.cells zTb 126)).there w2.heap.size 0 (tabL f).toArray.size:=by (rw [eA,hg6,List.size_toArray,tabL_len];(have hh:=hT0.there);rw [tabL_len] at hh;exact hh));(obtain ⟨V2,hV2⟩:∃ V,V=(w2.alloc (.cells zTb 126)).setCells w2.heap.size 0 (tabL f):=⟨_,rfl⟩);(have htab:Tab V2 g6 f:=by (rw [hV2,eA,hg6];exact Tab.of (hT0.stored (tabL f) (by rw [tabL_len,tabL_len]))));(have bV:Below w2.heap.size w2 V2:=by (rw [hV2];exact below_setCells (Nat.le_refl _) _ _ _ ((Below.refl _ _).alloc (Nat.le_refl _) _)));(have H2:=Hid.mk' hV2);(have Q6:=Hid.mk' hg6);(have n46:g4≠g6:=by omega);clear hV2 eA bA hT hT0 hg6 l4;(replace hres:=hres.still bV);(replace hbW:=below_next hbW bV);clear bV;(obtain ⟨A3,g7,eA3,hg7,bA3,hS⟩:=fresh16 V2);(have l4:=hres.lt);(have l6:=(htab 0 (by decide)).lt);(have t7:(V2.alloc (.cells zP 53)).there V2.heap.size 0 (p16 (f 0).X (f 0).Y (f 0).Z (f 0).T).toArray.size:=by (rw [eA3,hg7];exact thr16 hS _ _ _ _));(have hrow:=htab 0 (by decide));(obtain ⟨V3,hV3⟩:∃ V,V=(V2.alloc (.cells zP 53)).setCells V2.heap.size 0 (p16 (f 0).X (f 0).Y (f 0).Z (f 0).T):=⟨_,rfl⟩);(have h7:RW V3 g7 0 (p16 (f 0).X (f 0).Y (f 0).Z (f 0).T):=by (rw [hV3,eA3,hg7];exact hS.stored _ rfl));(have bV3:Below V2.heap.size V2 V3:=by (rw [hV3];exact below_setCells (Nat.le_refl _) _ _ _ ((Below.refl _ _).alloc (Nat.le_refl _) _)));(have H3:=Hid.mk' hV3);(have Q7:=Hid.mk' hg7);(have n67:g6≠g7:=by omega);(have n47:g4≠g7:=by omega);(have w7l:w.heap.size≤g7:=by (have:=hbW.size;omega));clear hV3 eA3 bA3 hS hg7 l4 l6;(replace hres:=hres.still bV3);(replace htab:=htab.still bV3);(replace hbW:=below_next hbW bV3);clear bV3)
    | (with_reducible (refine id (?_:wpList _ _ _ _ _ _));refine wpList_store_mid rfl 126 _ _ rfl w2.heap.size 0 (tabL f).toArray rfl rfl t6 (infoTA _) (oneT _) ?_;rw [List.toList_toArray,←H2.out,Q6.out];clear t6 H2 Q6)
    | (refine wpList_load_mid rfl 53 _ rfl g6 0 rfl (p16 (f 0).X (f 0).Y (f 0).Z (f 0).T) _ hrow.range Tryz.underlying53 rfl (info16 _ _ _ _) ?_;clear hrow)
    | (with_reducible (refine id (?_:wpList _ _ _ _ _ _));refine wpList_store_mid rfl 53 _ _ rfl V2.heap.size 0 (p16 (f 0).X (f 0).Y (f 0).Z (f 0).T).toArray rfl rfl t7 (info16A _ _ _ _) (one16 _ _ _ _) ?_;rw [List.toList_toArray,←H3.out,Q7.out];clear t7 H3 Q7))
   go_step3
   have kt2:=kt (f 0) _ (hf 0 (by decide))
   (have k4:=hres);(have ktab:=htab);(have k7:=h7);(have kb:=hbW)
   clear hres htab h7 hbW
   go_wp2_with (first
    | (refine wpList_load_mid rfl 53 _ rfl g7 0 rfl (p16 (f 0).X (f 0).Y (f 0).Z (f 0).T) _ k7.range Tryz.underlying53 rfl (info16 _ _ _ _) ?_)
    | (go_at_call 88;refine (kt2 _).mono ?_;clear kt2;rintro e w3 ⟨x,rfl,hx,hb3⟩;(replace k4:=k4.still hb3);(replace ktab:=ktab.still hb3);(replace k7:=k7.still hb3);(replace kb:=below_next kb hb3);clear hb3;(have t7:w3.there g7 0 (p16 x.X x.Y x.Z x.T).toArray.size:=thr16 k7 _ _ _ _);(obtain ⟨V3,hV3⟩:∃ V,V=w3.setCells g7 0 (p16 x.X x.Y x.Z x.T):=⟨_,rfl⟩);(replace k7:=k7.stored (p16 x.X x.Y x.Z x.T) rfl);(replace k4:=k4.far g7 0 (p16 x.X x.Y x.Z x.T) (.inl n47));(replace ktab:=ktab.far g7 0 (p16 x.X x.Y x.Z x.T) n67);(replace kb:=below_setCells w7l (p16 x.X x.Y x.Z x.T) 0 _ kb);rw [←hV3] at k7 k4 ktab kb;(have H3:=Hid.mk' hV3);clear hV3)
    | (with_reducible (refine id (?_:wpList _ _ _ _ _ _));refine wpList_store_mid rfl 53 _ _ rfl g7 0 (p16 x.X x.Y x.Z x.T).toArray rfl rfl t7 (info16A _ _ _ _) (one16 _ _ _ _) ?_;rw [List.toList_toArray,←H3.out];clear t7 H3))
   go_step3
   refine ⟨rfl,1,x,f,g6,g7,_,_,_,_,_,_,_,_,_,_,_,_,_,_,_,_,_,_,_,_,_,_,_,_,_,_,_,_,_,_,_,_,_,_,_,rfl,Nat.le_refl _,by decide,?_,hf,k4,ktab,k7,n67,n47,w7l,kb⟩
   rw [acc_skip (j:=0) (by decide),←acc_dbl hon]
   exact hx
 · rintro a' wr ⟨j,t,f,g6,g7,u9,u10,u11,u12,u13,u14,u15,u16,u17,u18,u19,u20,u21,u22,u23,u24,u25,u26,u27,u28,u29,u30,u31,u32,u33,u34,u35,u36,u37,u38,u39,u40,u41,u42,u43,rfl,hj1,hj2,ht,hf,k4,ktab,k7,n67,n47,w7l,kb⟩
   clear hc hres hbW kc kw
   have kt2:=kt t _ ht
   have Hd:=Hid.mk' (acc_dbl hon ks j)
   have cc:=(kb.cell (p:=⟨bb,ob+(255 - j) / 8,none⟩) hlb).trans (hcl ((255 - j) / 8) (by omega))
   obtain ⟨m,hm⟩:∃ m,255 - j=m:=⟨_,rfl⟩
   have e0:IntKind.i64.wrap (256 - (j:Int) - 1)=(m:Int):=by simp only [IntKind.wrap_i64];omega
   have e1:256 - ((j+1:Nat):Int)=(m:Int):=by omega
   have E1:=Hid.mk' e1
   clear e1
   have hmj:m<j+1+256:=by omega
   have hm2:m≤254:=by omega
   have Hm:=Hid.mk' hm
   dsimp only
   have mu:Hid ((intOf (.int .i64 (256 - (j:Int)))).toNat=m+1):=Hid.mk' (by show (256 - (j:Int)).toNat=m+1;omega)
   by_cases h4:m%4=0
   · have e4:(m:Int)%4=0:=by omega
     obtain ⟨d,hd⟩:∃ d,d=digN ks m:=⟨_,rfl⟩
     have hd16:d<16:=by rw [hd];exact dig_lt ks m
     have e6:bits .and .u8 ((ks (m / 8):Int) / 2 ^ (m%8)) 15=(d:Int):=by rw [hd];exact dig_bits hks m
     have Hdg:=Hid.mk' hd
     clear hd
     rw [hm] at cc
     go_upto_region 9 with (first
      | (refine wpList_load_mid rfl 53 _ rfl g7 0 rfl (p16 t.X t.Y t.Z t.T) _ k7.range Tryz.underlying53 rfl (info16 _ _ _ _) ?_)
      | (go_at_call 88;refine (kt2 _).mono ?_;clear kt2;rintro e w3 ⟨x,rfl,hx,hb3⟩;(replace k4:=k4.still hb3);(replace ktab:=ktab.still hb3);(replace k7:=k7.still hb3);(replace kb:=below_next kb hb3);clear hb3;(have t7:w3.there g7 0 (p16 x.X x.Y x.Z x.T).toArray.size:=thr16 k7 _ _ _ _);(obtain ⟨V3,hV3⟩:∃ V,V=w3.setCells g7 0 (p16 x.X x.Y x.Z x.T):=⟨_,rfl⟩);(replace k7:=k7.stored (p16 x.X x.Y x.Z x.T) rfl);(replace k4:=k4.far g7 0 (p16 x.X x.Y x.Z x.T) (.inl n47));(replace ktab:=ktab.far g7 0 (p16 x.X x.Y x.Z x.T) n67);(replace kb:=below_setCells w7l (p16 x.X x.Y x.Z x.T) 0 _ kb);rw [←hV3] at k7 k4 ktab kb;(have H3:=Hid.mk' hV3);clear hV3;clear cc;(have cc:=(kb.cell (p:=⟨bb,ob+m / 8,none⟩) hlb).trans (hcl (m / 8) (by omega))))
      | (with_reducible (refine id (?_:wpList _ _ _ _ _ _));refine wpList_store_mid rfl 53 _ _ rfl g7 0 (p16 x.X x.Y x.Z x.T).toArray rfl rfl t7 (info16A _ _ _ _) (one16 _ _ _ _) ?_;rw [List.toList_toArray,←H3.out];clear t7 H3))
     have hrow:=ktab d hd16
     have ka2:=ka x (f d) _ _ hx (hf d hd16)
     have e7:((d:Int)).toNat=d:=by omega
     have e8:¬((d:Int)<0):=by omega
     have e9:(d:Int)<16:=by omega
     have hfin:∀ y:N4,W6 y (eadd dE (eadd dE (emul dE (accN ks j) P) (emul dE (accN ks j) P)) (emul dE d P))→W6 y (emul dE (accN ks (j+1)) P):=fun y hy=>by
      rw [acc_take (j:=j) (by omega),hm,←Hdg.out,emul_add ns_dE hon,←Hd.out]
      exact hy
     clear cc
     clear ka kt hcl
     have hdrew:Below V3.heap.size V3 V3.drew:=(Below.refl _ _).drew
     replace k4:=k4.still hdrew
     replace ktab:=ktab.still hdrew
     replace k7:=k7.still hdrew
     replace hrow:=hrow.still hdrew
     refine wp_region_noPanic ?_
     refine wp_region_held_drew (S:=fun _=>True) (by kernel_rfl) trivial (fun _ => ?_)
     replace kb:=below_next kb hdrew
     generalize V3.drew=Vn_ at *
     refine wpAnyH_take (i:=1) (oi:=oN 37 (Op.move (oT 9)) 5 "point.go:78" #[]) (v := ?vn_1) rfl (by kernel_rfl) (by kernel_rfl) (by kernel_rfl) (fun _ _ _ h=>h) (Or.inl ⟨by rfl,?hn_1⟩) trivial ?rn_1
     case hn_1 =>
      intro w hSw
      go_simp
      try with_reducible rfl
     (try simp only [pS])
     refine wpAnyH_take (i:=2) (oi:=oN 38 (Op.indexAddr 126 (oT 6) (oT 37)) 0 "point.go:78" #[jD 1]) (v := ?vn_2) rfl (by kernel_rfl) (by kernel_rfl) (by kernel_rfl) (fun _ _ _ h=>h) (Or.inl ⟨by rfl,?hn_2⟩) trivial ?rn_2
     case hn_2 =>
      intro w hSw
      go_simp
      try with_reducible rfl
     (try simp only [pS])
     refine wpAnyH_ready (rs:=[0,3]) (by kernel_rfl) (by simp) ?_
     refine AllReadyH.cons (o:=oN 36 (Op.load 53 (oT 7)) 53 "point.go:78" #[]) rfl (fun K hK => ?_) (AllReadyH.cons (o:=oN 39 (Op.load 53 (oT 38)) 53 "point.go:78" #[jD 2]) rfl (fun K hK => ?_) (AllReadyH.nil))
     · rw [if_pos (by rfl)]
       refine wp_load_mid 53 _ rfl g7 0 rfl (p16 x.X x.Y x.Z x.T) _ k7.range Tryz.underlying53 rfl (info16 _ _ _ _) ?_
       refine hK.out _ _ trivial (fun h => ?_)
       clear h hK K
       rw [show Value.agg (p16 x.X x.Y x.Z x.T).toArray = .agg (p16 x.X x.Y x.Z x.T).toArray from rfl]
       (try simp only [pS])
       refine wpAnyH_ready (rs:=[3]) (by kernel_rfl) (by simp) ?_
       refine AllReadyH.cons (o:=oN 39 (Op.load 53 (oT 38)) 53 "point.go:78" #[jD 2]) rfl (fun K hK => ?_) (AllReadyH.nil)
       rw [if_pos (by rfl)]
       refine wp_load_mid 53 _ rfl g6 (d*16) rfl (p16 (f d).X (f d).Y (f d).Z (f d).T) _ hrow.range Tryz.underlying53 rfl (info16 _ _ _ _) ?_
       refine hK.out _ _ trivial (fun h => ?_)
       clear h hK K
       rw [show Value.agg (p16 (f d).X (f d).Y (f d).Z (f d).T).toArray = .agg (p16 (f d).X (f d).Y (f d).Z (f d).T).toArray from rfl]
       (try simp only [pS])
       refine wpAnyH_ready (rs:=[4]) (by kernel_rfl) (by simp) ?_
       refine AllReadyH.cons (o:=oN 40 (cF1 66 #[oT 36,oT 39] #[53,53]) 53 "point.go:78" #[jD 0,jD 3]) rfl (fun K hK => ?_) (AllReadyH.nil)
       go_simp
       (go_at_call 66;refine (ka2 _).mono ?_;clear ka2;rintro e wn_5 ⟨y,rfl,hy,hb9⟩;(replace k4:=k4.still hb9);(replace ktab:=ktab.still hb9);(replace k7:=k7.still hb9);(replace kb:=below_next kb hb9);clear hb9)
       (try go_simp)
       refine hK.out _ _ trivial (fun h => ?_)
       clear h hK K
       (try simp only [pS])
       refine wpAnyH_ready (rs:=[5]) (by kernel_rfl) (by simp) ?_
       refine AllReadyH.cons (o:=oS (Op.store 53 (oT 7) (oT 40)) "point.go:78" #[jD 4,jC 4,jP 0,jP 1,jP 2,jP 3,jP 4]) rfl (fun K hK => ?_) (AllReadyH.nil)
       rw [if_pos (by rfl)]
       refine wp_store_mid 53 _ _ rfl g7 0 (p16 y.X y.Y y.Z y.T).toArray rfl rfl k7.there (info16A _ _ _ _) (one16 _ _ _ _) ?_
       have On_6:=Out.setCells (b:=g7) (o:=0) (n:=(p16 y.X y.Y y.Z y.T).length) wn_5 (p16 y.X y.Y y.Z y.T) (Nat.le_refl _) (Nat.le_refl _)
       replace ktab:=ktab.far g7 0 (p16 y.X y.Y y.Z y.T) n67
       replace kb:=below_setCells w7l (p16 y.X y.Y y.Z y.T) 0 _ kb
       replace k7:=k7.stored (p16 y.X y.Y y.Z y.T) rfl
       replace k4:=k4.far g7 0 (p16 y.X y.Y y.Z y.T) (.inl n47)
       obtain ⟨wn_6,hwn_6⟩:∃ W,wn_5.setCells g7 0 (p16 y.X y.Y y.Z y.T)=W:=⟨_,rfl⟩
       rw [hwn_6] at k4
       rw [hwn_6] at k7
       rw [hwn_6] at On_6
       rw [hwn_6] at ktab kb
       rw [show wn_5.setCells g7 0 (p16 y.X y.Y y.Z y.T).toArray.toList=wn_6 from hwn_6]
       refine hK.out _ _ trivial (fun h => ?_)
       clear h hK K hwn_6
       (try dsimp only [Act.put])
       refine wpAnyH_done (by kernel_rfl) ?_ _
       refine NoPanic.normal ?_
       replace hy:=hfin y hy
       clear hfin
       rcases Nat.eq_zero_or_pos m with hm0 | hmp
       · have e10:¬((0:Int)<(m:Int)):=by omega
         have hjj:j+1=256:=by omega
         rw [hjj,acc_all hks] at hy
         have tt:wn_6.there g4 0 (p16 y.X y.Y y.Z y.T).toArray.size:=thr16 k4 _ _ _ _
         clear hm0
         go_wp2_with (first
          | (refine wpList_load_mid rfl 53 _ rfl g7 0 rfl (p16 y.X y.Y y.Z y.T) _ k7.range Tryz.underlying53 rfl (info16 _ _ _ _) ?_)
          | (with_reducible (refine id (?_:wpList _ _ _ _ _ _));refine wpList_store_mid rfl 53 _ _ rfl g4 0 (p16 y.X y.Y y.Z y.T).toArray rfl rfl tt (info16A _ _ _ _) (one16 _ _ _ _) ?_))
         simp only [Exit.jump]
         exact bodyPost_ret (results_cell_tmp Tryz.results46 _ _ g4 0 (p16 y.X y.Y y.Z y.T) _ rfl (k4.stored (p16 y.X y.Y y.Z y.T) (p16_same _ _ _ _ _ _ _ _)).range Tryz.underlying53 rfl (info16 _ _ _ _)) rfl ⟨_,rfl,hy.r6,below_setCells w4l _ _ _ kb⟩
       · have e10:(0:Int)<(m:Int):=by omega
         go_wp2
         go_step3
         rw [←E1.out]
         refine ⟨rfl,⟨j+1,y,f,g6,g7,_,_,_,_,_,_,_,_,_,_,_,_,_,_,_,_,_,_,_,_,_,_,_,_,_,_,_,_,_,_,_,_,_,_,_,rfl,by omega,by omega,hy,hf,k4,ktab,k7,n67,n47,w7l,kb⟩,?_⟩
         show (256 - ((j+1:Nat):Int)).toNat<(256 - (j:Int)).toNat
         omega
     · rw [if_pos (by rfl)]
       refine wp_load_mid 53 _ rfl g6 (d*16) rfl (p16 (f d).X (f d).Y (f d).Z (f d).T) _ hrow.range Tryz.underlying53 rfl (info16 _ _ _ _) ?_
       refine hK.out _ _ trivial (fun h => ?_)
       clear h hK K
       rw [show Value.agg (p16 (f d).X (f d).Y (f d).Z (f d).T).toArray = .agg (p16 (f d).X (f d).Y (f d).Z (f d).T).toArray from rfl]
       (try simp only [pS])
       refine wpAnyH_ready (rs:=[0]) (by kernel_rfl) (by simp) ?_
       refine AllReadyH.cons (o:=oN 36 (Op.load 53 (oT 7)) 53 "point.go:78" #[]) rfl (fun K hK => ?_) (AllReadyH.nil)
       rw [if_pos (by rfl)]
       refine wp_load_mid 53 _ rfl g7 0 rfl (p16 x.X x.Y x.Z x.T) _ k7.range Tryz.underlying53 rfl (info16 _ _ _ _) ?_
       refine hK.out _ _ trivial (fun h => ?_)
       clear h hK K
       rw [show Value.agg (p16 x.X x.Y x.Z x.T).toArray = .agg (p16 x.X x.Y x.Z x.T).toArray from rfl]
       (try simp only [pS])
       refine wpAnyH_ready (rs:=[4]) (by kernel_rfl) (by simp) ?_
       refine AllReadyH.cons (o:=oN 40 (cF1 66 #[oT 36,oT 39] #[53,53]) 53 "point.go:78" #[jD 0,jD 3]) rfl (fun K hK => ?_) (AllReadyH.nil)
       go_simp
       (go_at_call 66;refine (ka2 _).mono ?_;clear ka2;rintro e wn_9 ⟨y,rfl,hy,hb9⟩;(replace k4:=k4.still hb9);(replace ktab:=ktab.still hb9);(replace k7:=k7.still hb9);(replace kb:=below_next kb hb9);clear hb9)
       (try go_simp)
       refine hK.out _ _ trivial (fun h => ?_)
       clear h hK K
       (try simp only [pS])
       refine wpAnyH_ready (rs:=[5]) (by kernel_rfl) (by simp) ?_
       refine AllReadyH.cons (o:=oS (Op.store 53 (oT 7) (oT 40)) "point.go:78" #[jD 4,jC 4,jP 0,jP 1,jP 2,jP 3,jP 4]) rfl (fun K hK => ?_) (AllReadyH.nil)
       rw [if_pos (by rfl)]
       refine wp_store_mid 53 _ _ rfl g7 0 (p16 y.X y.Y y.Z y.T).toArray rfl rfl k7.there (info16A _ _ _ _) (one16 _ _ _ _) ?_
       have On_10:=Out.setCells (b:=g7) (o:=0) (n:=(p16 y.X y.Y y.Z y.T).length) wn_9 (p16 y.X y.Y y.Z y.T) (Nat.le_refl _) (Nat.le_refl _)
       replace ktab:=ktab.far g7 0 (p16 y.X y.Y y.Z y.T) n67
       replace kb:=below_setCells w7l (p16 y.X y.Y y.Z y.T) 0 _ kb
       replace k7:=k7.stored (p16 y.X y.Y y.Z y.T) rfl
       replace k4:=k4.far g7 0 (p16 y.X y.Y y.Z y.T) (.inl n47)
       obtain ⟨wn_10,hwn_10⟩:∃ W,wn_9.setCells g7 0 (p16 y.X y.Y y.Z y.T)=W:=⟨_,rfl⟩
       rw [hwn_10] at k4
       rw [hwn_10] at k7
       rw [hwn_10] at On_10
       rw [hwn_10] at ktab kb
       rw [show wn_9.setCells g7 0 (p16 y.X y.Y y.Z y.T).toArray.toList=wn_10 from hwn_10]
       refine hK.out _ _ trivial (fun h => ?_)
       clear h hK K hwn_10
       (try dsimp only [Act.put])
       refine wpAnyH_done (by kernel_rfl) ?_ _
       refine NoPanic.normal ?_
       replace hy:=hfin y hy
       clear hfin
       rcases Nat.eq_zero_or_pos m with hm0 | hmp
       · have e10:¬((0:Int)<(m:Int)):=by omega
         have hjj:j+1=256:=by omega
         rw [hjj,acc_all hks] at hy
         have tt:wn_10.there g4 0 (p16 y.X y.Y y.Z y.T).toArray.size:=thr16 k4 _ _ _ _
         clear hm0
         go_wp2_with (first
          | (refine wpList_load_mid rfl 53 _ rfl g7 0 rfl (p16 y.X y.Y y.Z y.T) _ k7.range Tryz.underlying53 rfl (info16 _ _ _ _) ?_)
          | (with_reducible (refine id (?_:wpList _ _ _ _ _ _));refine wpList_store_mid rfl 53 _ _ rfl g4 0 (p16 y.X y.Y y.Z y.T).toArray rfl rfl tt (info16A _ _ _ _) (one16 _ _ _ _) ?_))
         simp only [Exit.jump]
         exact bodyPost_ret (results_cell_tmp Tryz.results46 _ _ g4 0 (p16 y.X y.Y y.Z y.T) _ rfl (k4.stored (p16 y.X y.Y y.Z y.T) (p16_same _ _ _ _ _ _ _ _)).range Tryz.underlying53 rfl (info16 _ _ _ _)) rfl ⟨_,rfl,hy.r6,below_setCells w4l _ _ _ kb⟩
       · have e10:(0:Int)<(m:Int):=by omega
         go_wp2
         go_step3
         rw [←E1.out]
         refine ⟨rfl,⟨j+1,y,f,g6,g7,_,_,_,_,_,_,_,_,_,_,_,_,_,_,_,_,_,_,_,_,_,_,_,_,_,_,_,_,_,_,_,_,_,_,_,rfl,by omega,by omega,hy,hf,k4,ktab,k7,n67,n47,w7l,kb⟩,?_⟩
         show (256 - ((j+1:Nat):Int)).toNat<(256 - (j:Int)).toNat
         omega
   · have e4:¬((m:Int)%4=0):=by omega
     have e5:(0:Int)<(m:Int):=by omega
     clear cc
     go_wp2_with (first
      | (refine wpList_load_mid rfl 53 _ rfl g7 0 rfl (p16 t.X t.Y t.Z t.T) _ k7.range Tryz.underlying53 rfl (info16 _ _ _ _) ?_)
      | (go_at_call 88;refine (kt2 _).mono ?_;clear kt2;rintro e w3 ⟨x,rfl,hx,hb3⟩;(replace k4:=k4.still hb3);(replace ktab:=ktab.still hb3);(replace k7:=k7.still hb3);(replace kb:=below_next kb hb3);clear hb3;(have t7:w3.there g7 0 (p16 x.X x.Y x.Z x.T).toArray.size:=thr16 k7 _ _ _ _);(obtain ⟨V3,hV3⟩:∃ V,V=w3.setCells g7 0 (p16 x.X x.Y x.Z x.T):=⟨_,rfl⟩);(replace k7:=k7.stored (p16 x.X x.Y x.Z x.T) rfl);(replace k4:=k4.far g7 0 (p16 x.X x.Y x.Z x.T) (.inl n47));(replace ktab:=ktab.far g7 0 (p16 x.X x.Y x.Z x.T) n67);(replace kb:=below_setCells w7l (p16 x.X x.Y x.Z x.T) 0 _ kb);rw [←hV3] at k7 k4 ktab kb;(have H3:=Hid.mk' hV3);clear hV3)
      | (with_reducible (refine id (?_:wpList _ _ _ _ _ _));refine wpList_store_mid rfl 53 _ _ rfl g7 0 (p16 x.X x.Y x.Z x.T).toArray rfl rfl t7 (info16A _ _ _ _) (one16 _ _ _ _) ?_;rw [List.toList_toArray,←H3.out];clear t7 H3))
     go_step3
     rw [←E1.out]
     refine ⟨rfl,⟨j+1,x,f,g6,g7,_,_,_,_,_,_,_,_,_,_,_,_,_,_,_,_,_,_,_,_,_,_,_,_,_,_,_,_,_,_,_,_,_,_,_,rfl,by omega,by omega,?_,hf,k4,ktab,k7,n67,n47,w7l,kb⟩,?_⟩
     · rw [acc_skip (j:=j) (by omega),←Hd.out]
       exact hx
     · show (256 - ((j+1:Nat):Int)).toNat<(256 - (j:Int)).toNat
       omega
end Go.Proofs.YtdgkmloabificaaGreatDoor
namespace Go.Proofs.YtdgkmloabificaaGreatDoor
open Go.RowKit
set_option maxRecDepth 20000 in
set_option maxHeartbeats 4000000 in
theorem froot_good (v u:Value) (bs cs:Nat→Nat) (hbs:∀ j,bs j<256) (hcs:∀ j,cs j<256) (w:World) (im:IM w) (hv:BytesIn w v 32 bs) (hu:BytesIn w u 32 cs) :
 Calls Tryz.prog 102 #[v,u] w fun e w'=>∃ s,e = .returned (.tuple #[s,.bool (rootP kP (ofB bs 32%pF) (ofB cs 32%pF)).isSome,.int .i64 0])∧NewB w w' s 32 (byt ((rootP kP (ofB bs 32%pF) (ofB cs 32%pF)).getD 0))∧Below w.heap.size w w':=by
 have cb:=both_good v u bs cs hbs hcs w hv hu
 obtain ⟨xv,kv,rfl,-⟩:=hv.src
 obtain ⟨xu,ku,rfl,-⟩:=hu.src
 have hx:ofB bs 32%pF<pF:=Nat.mod_lt _ (by decide)
 have hy:ofB cs 32%pF<pF:=Nat.mod_lt _ (by decide)
 obtain ⟨x,hxe⟩:∃ x,x=ofB bs 32%pF:=⟨_,rfl⟩
 obtain ⟨y,hye⟩:∃ y,y=ofB cs 32%pF:=⟨_,rfl⟩
 rw [←hxe] at cb hx ⊢
 rw [←hye] at cb hy ⊢
 have cp:=fun W (h:IM W)=>rootq_any x y hx hy W h
 obtain ⟨N,hN⟩:∃ N,N=(rootP kP x y).getD 0:=⟨_,rfl⟩
 obtain ⟨ok,hok⟩:∃ N,N=(rootP kP x y).isSome:=⟨_,rfl⟩
 have cq:=fun W=>bytes_any N W
 rw [←hN,←hok] at cp
 rw [←hN,←hok]
 obtain ⟨x0,x1,x2,x3,hxv⟩:=numV_ex x
 obtain ⟨y0,y1,y2,y3,hyv⟩:=numV_ex y
 obtain ⟨z0,z1,z2,z3,hzv⟩:=numV_ex N
 rw [hxv,hyv] at cb cp
 rw [hzv] at cp cq
 clear hv hu hxe hye hN hxv hyv hzv hok
 go_enter Tryz.func102,Tryz.ntmps102
 go_wp2_with (first
  | (go_at_call 125;refine cb.mono ?_;clear cb;rintro e w1 ⟨rfl,hb1⟩;(have im2:=fun (A B:Obj)=>(im.still hb1).still (show Below w1.heap.size w1 ((w1.alloc A).alloc B) from ((Below.refl _ w1).alloc (Nat.le_refl _) _).alloc (by simp) _)))
  | (go_at_call 126;refine (cp _ (im2 _ _)).mono ?_;clear cp im2;rintro e w2 ⟨rfl,hb2⟩)
  | (go_at_call 92;refine (cq _).mono ?_;clear cq;rintro e w3 ⟨g,rfl,hg,hr,hb3⟩))
 go_ret3
 have hb12:Below w1.heap.size w1 w2:=(((Below.refl _ w1).alloc (Nat.le_refl _) _).alloc (by simp) _).trans (hb2.mono (by simp;omega))
 have hbw2:Below w.heap.size w w2:=hb1.trans (hb12.mono hb1.size)
 have hb23:Below w2.heap.size w2 w3:=((Below.refl _ w2).alloc (Nat.le_refl _) _).trans (hb3.mono (by simp))
 have hg2:w2.heap.size≤g:=Nat.le_trans (by simp) hg
 exact ⟨_,rfl,⟨g,rfl,Nat.le_trans hbw2.size hg2,hr⟩,below_next hbw2 hb23⟩
end Go.Proofs.YtdgkmloabificaaGreatDoor
