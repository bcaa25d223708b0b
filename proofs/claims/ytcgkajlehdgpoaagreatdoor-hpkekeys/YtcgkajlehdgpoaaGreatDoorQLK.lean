/- The law HpkeKeys in the model. -/
import Derived.Test.YtcgkajlehdgpoaaGreatDoorG9LBM
import Derived.Test.YtcgkajlehdgpoaaGreatDoorQBo
namespace Go.Proofs.YtcgkajlehdgpoaaGreatDoor
open Go.RowKit
set_option maxRecDepth 20000 in
set_option maxHeartbeats 8000000 in
theorem hpkeKeys_any (v0 v1 v2:Value) (n0 n1 n2:Nat) (b0 b1 b2:Nat→Nat) (l0:∀ j,b0 j<256) (l1:∀ j,b1 j<256) (l2:∀ j,b2 j<256) (k0:n0+300<140737488355000) (k1:n1+300<140737488355000) (k2:n2+300<140737488355000) (w:World) (hT:HTab w cubeK squareK) (h0:BytesIn w v0 n0 b0) (h1:BytesIn w v1 n1 b1) (h2:BytesIn w v2 n2 b2) :
 Calls Tryz.prog 3 #[v0,v1,v2] w fun e w'=>e = .returned (.bool true)∧Below w.heap.size w w':=by
 have hnum:=num10_any
 have hK:=fun W hb=>knows10 W (hT.keep hb)
 obtain ⟨La,A,Lb,B,E,lA,lB,ec,er,-⟩:=encap_both n1 n0 b1 b0 l1 l0 k0
 obtain ⟨Lc,C,F,lC,dc,dr,-⟩:=decap_both 32 n2 (dsN n0 b0) b2 (dsN_lt _ _) l2
 have c1:=lent_any v0 n0 b0 w h0 (by omega)
 have c2:=fun x W hb hx=>cDerive_any x n0 b0 l0 k0 W (hT.keep hb) hx
 have c3:=fun W hb=>rDerive_any v0 n0 b0 l0 k0 W (h0.keep hb)
 have c4:=fun W hb=>lent_any v1 n1 b1 W (h1.keep hb) (by omega)
 have c5:=fun u x W hb hu hx=>ec u x W (hT.keep hb) hu hx
 have c6:=fun W hb=>er v1 v0 W (h1.keep hb) (h0.keep hb)
 have c7:=fun W hb=>lent_any v2 n2 b2 W (h2.keep hb) (by omega)
 have c8:=fun u x W hb hu hx=>dc u x W (hT.keep hb) hu hx
 have c9:=fun u W hb hu=>dr u v2 W hu (h2.keep hb)
 have lD:∀ j,dsN n0 b0 j<256:=dsN_lt _ _
 have lP:∀ j,puN (dsN n0 b0) j<256:=puN_lt _
 have cS:=fun g cap W hcap hrow hb=>stays_any g cap n0 v0 b0 l0 W (by omega) hcap hrow (h0.keep hb)
 generalize dsN n0 b0=D at *
 generalize puN D=P at *
 have s0:∀ S:ByteArray,(S.toList == S.toList)=true:=fun _=>beq_self_eq_true _
 obtain ⟨x0,d0,rfl,-,-,-⟩:=h0.src
 obtain ⟨x1,d1,rfl,-,-,-⟩:=h1.src
 obtain ⟨x2,d2,rfl,-,-,-⟩:=h2.src
 clear h0 h1 h2 ec er dc dr hT
 go_enter Tryz.func3,Tryz.ntmps3
 go_upto_region 8 with (first
  | (go_at_call 8;refine c1.mono ?_;clear c1;rintro e w1 ⟨g1,m1,rfl,hc1,-,r1,b1⟩;(have y1:=c2 _ w1 b1 (lent_bytes r1 hc1));clear c2)
  | (go_at_call 9;refine y1.mono ?_;clear y1;rintro e w2 ⟨s2,p2,rfl,o2,q2,hb2⟩;(have b2:=below_next b1 hb2);(replace r1:=r1.stay (by omega) hb2);(have y2:=c3 w2 b2);clear hb2 b1 c3)
  | (go_at_call 10;refine y2.mono ?_;clear y2;rintro e w3 ⟨s3,p3,rfl,o3,q3,hb3⟩;(have b3:=below_next b2 hb3);(replace r1:=r1.stay (by omega) hb3);(replace o2:=o2.keep hb3);(replace q2:=q2.keep hb3);(have y3:=c4 w3 b3);clear hb3 b2 c4)
  | (go_at_call 8;refine y3.mono ?_;clear y3;rintro e w4 ⟨g4,m4,rfl,hc4,-,r4,hb4⟩;(have b4:=below_next b3 hb4);(replace r1:=r1.stay (by omega) hb4);(replace o2:=o2.keep hb4);(replace q2:=q2.keep hb4);(replace o3:=o3.keep hb4);(replace q3:=q3.keep hb4);(have y4:=c5 _ _ w4 b4 (lent_bytes r4 hc4) (lent_bytes r1 hc1));clear hb4 b3 c5 r4)
  | (go_at_call 11;refine y4.mono ?_;clear y4;rintro e w5 ⟨s5,p5,rfl,o5,q5,hb5⟩;(have b5:=below_next b4 hb5);(replace r1:=r1.stay (by omega) hb5);(replace o2:=o2.keep hb5);(replace q2:=q2.keep hb5);(replace o3:=o3.keep hb5);(replace q3:=q3.keep hb5);(have y5:=c6 w5 b5);clear hb5 b4 c6)
  | (go_at_call 12;refine y5.mono ?_;clear y5;rintro e w6 ⟨s6,p6,rfl,o6,q6,hb6⟩;(have b6:=below_next b5 hb6);(replace r1:=r1.stay (by omega) hb6);(replace o2:=o2.keep hb6);(replace q2:=q2.keep hb6);(replace o3:=o3.keep hb6);(replace q3:=q3.keep hb6);(replace o5:=o5.keep hb6);(replace q5:=q5.keep hb6);(have y6:=c7 w6 b6);clear hb6 b5 c7)
  | (go_at_call 8;refine y6.mono ?_;clear y6;rintro e w7 ⟨g7,m7,rfl,hc7,-,r7,hb7⟩;(have b7:=below_next b6 hb7);(replace r1:=r1.stay (by omega) hb7);(replace o2:=o2.keep hb7);(replace q2:=q2.keep hb7);(replace o3:=o3.keep hb7);(replace q3:=q3.keep hb7);(replace o5:=o5.keep hb7);(replace q5:=q5.keep hb7);(replace o6:=o6.keep hb7);(replace q6:=q6.keep hb7);(have y7:=c8 s2 _ w7 b7 o2 (lent_bytes r7 hc7));clear hb7 b6 c8 r7)
  | (go_at_call 13;refine y7.mono ?_;clear y7;rintro e w8 ⟨s8,rfl,o8,hb8⟩;(have b8:=below_next b7 hb8);(replace r1:=r1.stay (by omega) hb8);(replace o2:=o2.keep hb8);(replace q2:=q2.keep hb8);(replace o3:=o3.keep hb8);(replace q3:=q3.keep hb8);(replace o5:=o5.keep hb8);(replace q5:=q5.keep hb8);(replace o6:=o6.keep hb8);(replace q6:=q6.keep hb8);(have y8:=c9 s3 w8 b8 o3);clear hb8 b7 c9)
  | (go_at_call 14;refine y8.mono ?_;clear y8;rintro e w9 ⟨s9,rfl,o9,hb9⟩;(have b9:=below_next b8 hb9);(replace r1:=r1.stay (by omega) hb9);(replace o2:=o2.keep hb9);(replace q2:=q2.keep hb9);(replace o3:=o3.keep hb9);(replace q3:=q3.keep hb9);(replace o5:=o5.keep hb9);(replace q5:=q5.keep hb9);(replace o6:=o6.keep hb9);(replace q6:=q6.keep hb9);(replace o8:=o8.keep hb9);clear hb9 b8))
 have a1:=o2.conv lD w9 (Below.refl _ _)
 have a2:=o3.conv lD w9 (Below.refl _ _)
 have a3:=q2.conv lP w9 (Below.refl _ _)
 have a4:=q3.conv lP w9 (Below.refl _ _)
 have a5:=o5.conv lA w9 (Below.refl _ _)
 have a6:=o6.conv lA w9 (Below.refl _ _)
 have a7:=q5.conv lB w9 (Below.refl _ _)
 have a8:=q6.conv lB w9 (Below.refl _ _)
 have a9:=o8.conv lC w9 (Below.refl _ _)
 have a10:=o9.conv lC w9 (Below.refl _ _)
 have z1:=cS _ _ w9 hc1 r1 b9
 have e1:=s0 (strB 32 D)
 have e2:=s0 (strB 32 P)
 have e3:=s0 (strB La A)
 have e4:=s0 (strB Lb B)
 have e5:=s0 (strB Lc C)
 clear o2 o3 q2 q3 o5 o6 q5 q6 o8 o9 cS s0 r1 hc1 lD lP lA lB lC
 generalize strB 32 D=S1 at *
 generalize strB 32 P=S2 at *
 generalize strB La A=S3 at *
 generalize strB Lb B=S4 at *
 generalize strB Lc C=S5 at *
 go_wp2_with (first
  | (go_at_call 15;refine (hnum _ _).mono ?_;rintro e wn ⟨rfl,rfl⟩)
  | rw [a1]
  | rw [a2]
  | rw [a3]
  | rw [a4]
  | rw [a5]
  | rw [a6]
  | rw [a7]
  | rw [a8]
  | rw [a9]
  | rw [a10]
  | (go_at_call 16;refine z1.mono ?_;clear z1;rintro e w10 ⟨rfl,hb10⟩;(have b10:=below_next b9 hb10);(have z2:=hK w10 b10);clear hK)
  | (go_at_call 17;refine z2.mono ?_;clear z2;rintro e w11 ⟨rfl,hb11⟩))
 go_ret
 exact ⟨rfl,below_next b10 hb11⟩
end Go.Proofs.YtcgkajlehdgpoaaGreatDoor
