/- The law HpkeOnce in the model. -/
import Derived.Test.YtcgkajlehdgpoaaGreatDoorG9LBM
import Derived.Test.YtcgkajlehdgpoaaGreatDoorQBp
namespace Go.Proofs.YtcgkajlehdgpoaaGreatDoor
open Go.RowKit
set_option maxRecDepth 20000 in
set_option maxHeartbeats 8000000 in
theorem hpkeOnce_any (v0 v1 v3 vm vt:Value) (n0 n1 n3 nm nt:Nat) (b0 b1 b3 bm bt:Nat→Nat) (l0:∀ j,b0 j<256) (l1:∀ j,b1 j<256) (l3:∀ j,b3 j<256) (lm:∀ j,bm j<256) (lt:∀ j,bt j<256) (k0:n0+300<140737488355000) (k1:n1+300<140737488355000) (k3:n3+300<140737488355000) (km:nm+300<140737488355000) (kt:nt+300<140737488355000) (zk zn:Int) (w:World) (hT:HTab w cubeK squareK) (h0:BytesIn w v0 n0 b0) (h1:BytesIn w v1 n1 b1) (h3:BytesIn w v3 n3 b3) (hm:BytesIn w vm nm bm) (ht:BytesIn w vt nt bt) :
 Calls Tryz.prog 6 #[v0,v1,.agg #[.int .i64 zk,.int .i64 zn,vm,vt],v3] w fun e w'=>e = .returned (.bool true)∧Below w.heap.size w w':=by
 have hnum:=num10_any
 have hK:=fun W hb=>knows10 W (hT.keep hb)
 obtain ⟨La,A,Lb,B,E,lA,lB,sc,sr⟩:=sealto_both n0 n1 n3 nm nt b0 b1 b3 bm bt l0 l1 l3 lm lt k1
 obtain ⟨Lc,C,F,lC,oc,or_⟩:=openby_both 32 La n3 nm Lb (dsN n1 b1) A b3 bm B (dsN_lt _ _) lA l3 lm lB
 obtain ⟨x0,d0,rfl,-,-,-⟩:=h0.src
 obtain ⟨x1,d1,rfl,-,-,-⟩:=h1.src
 obtain ⟨x3,d3,rfl,-,-,-⟩:=h3.src
 obtain ⟨xm,dm,rfl,-,-,-⟩:=hm.src
 obtain ⟨xt,dt,rfl,-,-,-⟩:=ht.src
 obtain ⟨W,hW⟩:∃ W,W=w.alloc (.cells #[.int .i64 zk,.int .i64 zn,.slice xm nm dm,.slice xt nt dt] 41):=⟨_,rfl⟩
 obtain ⟨g,hg⟩:∃ g,g=w.heap.size:=⟨_,rfl⟩
 have bW:Below w.heap.size w W:=by rw [hW];exact (Below.refl _ _).alloc (Nat.le_refl _) _
 have r:RW W g 0 [.int .i64 zk,.int .i64 zn,.slice xm nm dm,.slice xt nt dt]:=by rw [hW,hg];exact RW.fresh w _ _
 have HW:=Hid.mk' hW
 have Hg:=Hid.mk' hg
 clear hW hg
 have bd:Below W.heap.size W W.drew:=(Below.refl _ _).drew
 have bV:=below_next bW bd
 replace r:=r.still bd
 have gl:=r.lt
 have f2:W.drew.cell? ⟨g,2,none⟩=some (.slice xm nm dm):=r.range 2 _ rfl
 have f3:W.drew.cell? ⟨g,3,none⟩=some (.slice xt nt dt):=r.range 3 _ rfl
 have c1:=lent_any _ n0 b0 W.drew (h0.keep bV) (by omega)
 have c2:=fun V hb=>lent_any _ n1 b1 V (h1.keep hb) (by omega)
 have c3:=fun V hb=>lent_any _ n3 b3 V (h3.keep hb) (by omega)
 have c4:=fun V hb=>lent_any _ nm bm V (hm.keep hb) (by omega)
 have c5:=fun V hb=>lent_any _ nt bt V (ht.keep hb) (by omega)
 have c6:=fun u v i m t V hb h1 h2 h3 h4 h5=>sc u v i m t V (hT.keep hb) h1 h2 h3 h4 h5
 have c7:=fun V hb=>sr (.slice x0 n0 d0) (.slice x1 n1 d1) (.slice x3 n3 d3) (.slice xm nm dm) (.slice xt nt dt) V (h0.keep hb) (h1.keep hb) (h3.keep hb) (hm.keep hb) (ht.keep hb)
 have c8:=fun V hb=>rDerive_any (.slice x1 n1 d1) n1 b1 l1 k1 V (h1.keep hb)
 have c9:=fun s a b V hb hs ha hb'=>oc s a (.slice x3 n3 d3) (.slice xm nm dm) b V (hT.keep hb) hs ha (h3.keep hb) (hm.keep hb) hb'
 have c10:=fun s a b V hb hs ha hb'=>or_ s a (.slice x3 n3 d3) (.slice xm nm dm) b V hs ha (h3.keep hb) (hm.keep hb) hb'
 have s0:∀ S:ByteArray,(S.toList == S.toList)=true:=fun _=>beq_self_eq_true _
 generalize dsN n1 b1=D at *
 generalize puN D=P at *
 clear h0 h1 h3 hm ht sc sr oc or_ hT
 go_enter Tryz.func6,Tryz.ntmps6
 go_upto_region 1 with (fail)
 rw [←HW.out,←Hg.out]
 go_cut [9,10,11] from 12 (fun s9 s10 s11 wc=>s11 = .int .i64 E∧BytesIn wc s9 La A∧BytesIn wc s10 Lb B∧RW wc g 0 [.int .i64 zk,.int .i64 zn,.slice xm nm dm,.slice xt nt dt]∧Below w.heap.size w wc)
 case first =>
  refine wp_region_noPanic ?_
  refine wp_region_held_drew (S:=fun u=>Below W.drew.heap.size W.drew u) (by kernel_rfl) (Below.refl _ _) (fun hS => ?_)
  generalize W.drew=V at *
  refine tg 0 hS ?_
  (try simp only [pS])
  refine tg 2 hS ?_
  (try simp only [pS])
  refine tg 4 hS ?_
  (try simp only [pS])
  refine tg 6 hS ?_
  (try simp only [pS])
  refine tc 7 hS (fun u hu=>(hu.cell (p:=⟨g,2,none⟩) gl).trans f2) ?_
  (try simp only [pS])
  refine tg 9 hS ?_
  (try simp only [pS])
  refine tc 10 hS (fun u hu=>(hu.cell (p:=⟨g,3,none⟩) gl).trans f3) ?_
  (try simp only [pS])
  refine cl 1 (c1) ?_
  rintro e u1 ⟨g1,m1,rfl,q1,-,r1,hb1⟩
  have b1:=hb1
  refine ⟨_,rfl,b1,?_⟩
  (try simp only [pS])
  refine cl 3 (c2 u1 (below_next bV b1)) ?_
  rintro e u2 ⟨g2,m2,rfl,q2,-,r2,hb2⟩
  have b2:=below_next b1 hb2
  replace r1:=r1.stay (by omega) hb2
  refine ⟨_,rfl,b2,?_⟩
  (try simp only [pS])
  refine cl 5 (c3 u2 (below_next bV b2)) ?_
  rintro e u3 ⟨g3,m3,rfl,q3,-,r3,hb3⟩
  have b3:=below_next b2 hb3
  replace r1:=r1.stay (by omega) hb3
  replace r2:=r2.stay (by omega) hb3
  refine ⟨_,rfl,b3,?_⟩
  (try simp only [pS])
  refine cl 8 (c4 u3 (below_next bV b3)) ?_
  rintro e u4 ⟨g4,m4,rfl,q4,-,r4,hb4⟩
  have b4:=below_next b3 hb4
  replace r1:=r1.stay (by omega) hb4
  replace r2:=r2.stay (by omega) hb4
  replace r3:=r3.stay (by omega) hb4
  refine ⟨_,rfl,b4,?_⟩
  (try simp only [pS])
  refine cl 11 (c5 u4 (below_next bV b4)) ?_
  rintro e u5 ⟨g5,m5,rfl,q5,-,r5,hb5⟩
  have b5:=below_next b4 hb5
  replace r1:=r1.stay (by omega) hb5
  replace r2:=r2.stay (by omega) hb5
  replace r3:=r3.stay (by omega) hb5
  replace r4:=r4.stay (by omega) hb5
  refine ⟨_,rfl,b5,?_⟩
  (try simp only [pS])
  refine cl 12 (c6 _ _ _ _ _ u5 (below_next bV b5) (lent_bytes r1 q1) (lent_bytes r2 q2) (lent_bytes r3 q3) (lent_bytes r4 q4) (lent_bytes r5 q5)) ?_
  rintro e u6 ⟨s6,p6,rfl,o6,o7,hb6⟩
  have b6:=below_next b5 hb6
  refine ⟨_,rfl,b6,?_⟩
  (try simp only [pS])
  refine tg 13 b6 ?_
  (try simp only [pS])
  refine tg 14 b6 ?_
  (try simp only [pS])
  refine tg 15 b6 ?_
  (try simp only [pS])
  refine tg 16 b6 ?_
  (try simp only [pS])
  refine tg 17 b6 ?_
  (try simp only [pS])
  refine tg 18 b6 ?_
  (try simp only [pS])
  refine tg 19 b6 ?_
  (try simp only [pS])
  refine wpAnyH_done (by kernel_rfl) ?_ _
  refine NoPanic.normal ?_
  go_wp2
  go_meet
  case rel=>exact ⟨rfl,o6,o7,r.still b6,below_next bV b6⟩
 case rest =>
 obtain ⟨rfl,o9,o10,r,b⟩:=hcut
 have f2:wc.cell? ⟨g,2,none⟩=some (.slice xm nm dm):=r.range 2 _ rfl
 have f3:wc.cell? ⟨g,3,none⟩=some (.slice xt nt dt):=r.range 3 _ rfl
 have y0:=c7 wc b
 clear c1 c2 c3 c4 c5 c6 c7 bW bd bV gl HW Hg
 go_upto_region 6 with (first
  | (go_at_call 25;refine y0.mono ?_;clear y0;rintro e w1 ⟨s1,p1,rfl,o1,q1,hb1⟩;(have b1:=below_next b hb1);(replace r:=r.still hb1);clear f2 f3;(have f2:w1.cell? ⟨g,2,none⟩=some (.slice xm nm dm):=r.range 2 _ rfl);(replace o9:=o9.keep hb1);(replace o10:=o10.keep hb1);(have y1:=c8 w1 b1);clear c8 hb1 b)
  | (go_at_call 10;refine y1.mono ?_;clear y1;rintro e w2 ⟨s2,p2,rfl,o2,q2,hb2⟩;(have b2:=below_next b1 hb2);(replace r:=r.still hb2);clear f2;(have f2:w2.cell? ⟨g,2,none⟩=some (.slice xm nm dm):=r.range 2 _ rfl);(replace o9:=o9.keep hb2);(replace o10:=o10.keep hb2);(replace o1:=o1.keep hb2);(replace q1:=q1.keep hb2);(have y2:=c9 _ _ _ w2 b2 o2 o9 o10);clear c9 hb2 b1 q2)
  | (go_at_call 26;refine y2.mono ?_;clear y2;rintro e w3 ⟨s3,rfl,o3,hb3⟩;(have b3:=below_next b2 hb3);(replace r:=r.still hb3);clear f2;(have f2:w3.cell? ⟨g,2,none⟩=some (.slice xm nm dm):=r.range 2 _ rfl);(replace o9:=o9.keep hb3);(replace o10:=o10.keep hb3);(replace o1:=o1.keep hb3);(replace q1:=q1.keep hb3);(replace o2:=o2.keep hb3);(have y3:=c10 _ _ _ w3 b3 o2 o1 q1);clear c10 hb3 b2)
  | (go_at_call 27;refine y3.mono ?_;clear y3;rintro e w4 ⟨s4,rfl,o4,hb4⟩;(have b4:=below_next b3 hb4);(replace o9:=o9.keep hb4);(replace o10:=o10.keep hb4);(replace o1:=o1.keep hb4);(replace q1:=q1.keep hb4);(replace o3:=o3.keep hb4);clear f2 r o2 hb4 b3))
 have a1:=o9.conv lA w4 (Below.refl _ _)
 have a2:=o1.conv lA w4 (Below.refl _ _)
 have a3:=o10.conv lB w4 (Below.refl _ _)
 have a4:=q1.conv lB w4 (Below.refl _ _)
 have a5:=o3.conv lC w4 (Below.refl _ _)
 have a6:=o4.conv lC w4 (Below.refl _ _)
 have e1:=s0 (strB La A)
 have e2:=s0 (strB Lb B)
 have e3:=s0 (strB Lc C)
 have z2:=hK w4 b4
 clear o9 o1 o10 q1 o3 o4 s0 hK lA lB lC
 generalize strB La A=S1 at *
 generalize strB Lb B=S2 at *
 generalize strB Lc C=S3 at *
 go_wp2_with (first
  | (go_at_call 15;refine (hnum _ _).mono ?_;rintro e wn ⟨rfl,rfl⟩)
  | rw [a1]
  | rw [a2]
  | rw [a3]
  | rw [a4]
  | rw [a5]
  | rw [a6]
  | (go_at_call 17;refine z2.mono ?_;clear z2;rintro e w11 ⟨rfl,hb11⟩))
 go_ret
 exact ⟨rfl,below_next b4 hb11⟩
end Go.Proofs.YtcgkajlehdgpoaaGreatDoor
