/- What the proof stands on: V6R, V6S, V6T, V6U, V6Q, D1Bl. -/
import Derived.Test.YtibmlmmoifgliaaGreatDoorD1BRM
import Derived.Test.YtibmlmmoifgliaaGreatDoorD1RLM
import Derived.Test.YtibmlmmoifgliaaGreatDoorHExpandM
import Derived.Test.YtibmlmmoifgliaaGreatDoorL5AM
import Derived.Test.YtibmlmmoifgliaaGreatDoorV6AM
namespace Go.Proofs.YtibmlmmoifgliaaGreatDoor
open Go.RowKit
theorem rRight_any (cs:List Value) (d:CxD) (w:World) (h:CxIn w cs d) :
 Calls Tryz.prog 37 #[.agg cs.toArray] w fun e w'=>e = .returned (.bool (cxOk d))∧Below w.heap.size w w':=by
 obtain ⟨v0,v1,v2,rfl,h0,h1,h2⟩:=h
 obtain ⟨x0,c0,rfl,-,-,-⟩:=h0.src
 obtain ⟨x1,c1,rfl,-,-,-⟩:=h1.src
 obtain ⟨x2,c2,rfl,-,-,-⟩:=h2.src
 clear h0 h1 h2
 obtain ⟨gn,g,e,tn,t,rn,r⟩:=d
 dsimp only
 have b1:Below w.heap.size w (w.alloc (.cells #[.slice x0 gn c0,.int .i64 e,.slice x1 tn c1,.slice x2 rn c2] 24)):=(Below.refl _ _).alloc (Nat.le_refl _) _
 have HB:=Hid.mk' b1
 clear b1
 obtain ⟨R,hR⟩:∃ R,R=cxOk ⟨gn,g,e,tn,t,rn,r⟩:=⟨_,rfl⟩
 rw [←hR]
 have HR:Hid (R=((decide (gn≤255) && decide (tn≤255) && decide (rn≤255)) && (decide (0≤e) && decide (e<4294967296)))):=hR
 clear hR
 have key:(R=true∧(gn:Int)≤255∧0≤e∧e<4294967296∧(tn:Int)≤255∧(rn:Int)≤255)∨(R=false∧(¬(gn:Int)≤255∨((gn:Int)≤255∧¬0≤e)∨((gn:Int)≤255∧0≤e∧¬e<4294967296)∨((gn:Int)≤255∧0≤e∧e<4294967296∧¬(tn:Int)≤255)∨((gn:Int)≤255∧0≤e∧e<4294967296∧(tn:Int)≤255∧¬(rn:Int)≤255))):=by
  rw [HR.out]
  simp only [Bool.and_eq_true,Bool.and_eq_false_iff,decide_eq_true_eq,decide_eq_false_iff_not]
  omega
 clear HR
 rcases key with ⟨rfl,a1,a2,a3,a4,a5⟩ | ⟨rfl,a1 | ⟨a1,a2⟩ | ⟨a1,a2,a3⟩ | ⟨a1,a2,a3,a4⟩ | ⟨a1,a2,a3,a4,a5⟩⟩
 all_goals
  go_enter Tryz.func37,Tryz.ntmps37
  go_wp2
  go_ret
  exact ⟨rfl,HB.out⟩
theorem infoRx (v0 v1 v2 v3:Value):(Tryz.prog.info? 24).map (·.size)=some [v0,v1,v2,v3].length:=by kernel_rfl
theorem catA (a b:Nat) (A B C:Nat→Nat):cat (a+b) (cat a A B) C=cat a A (cat b B C):=by
 funext j
 unfold cat
 by_cases h1:j<a
 · rw [if_pos (by omega),if_pos h1,if_pos h1]
 · by_cases h2:j<a+b
   · rw [if_pos h2,if_neg h1,if_neg h1,if_pos (by omega)]
   · rw [if_neg h2,if_neg h1,if_neg (by omega),show j - (a+b)=j - a - b by omega]
theorem rJ1_any (g:Nat) (v:Value) (n:Nat) (b:Nat→Nat) (hn:n≤65536) (lb:∀ j,b j<256) (w:World) (r:RW w g 0 [v]) (hv:BytesIn w v n b):Calls Tryz.prog 64 #[.slice (some ⟨g,0,none⟩) 1 1] w fun e w'=>∃ s,e = .returned s∧Own w.heap.size w' s (vcL n) (vcB n b)∧Below w.heap.size w w' :=
 (rJoin_any (some ⟨g,0,none⟩) 1 1 _ (fun _=>n) (fun _=>b) (fun _ _=>hn) (by decide) (by show 0+n≤_;omega) w (pieces_rw [v] _ _ r rfl (fun i u hu=>by
   match i,hu with
   | 0,hu=>cases hu;exact hv
   | i+1,hu=>simp at hu) (fun _=>lb))).mono fun e w' ⟨s,h1,h2,h3⟩=>⟨s,h1,by
    rw [vs1L,vs1B] at h2
    exact h2,h3⟩
theorem rJ3_any (g:Nat) (u v x:Value) (a b c:Nat) (A B C:Nat→Nat) (ha:a≤65536) (hb:b≤65536) (hc:c≤65536) (lA:∀ j,A j<256) (lB:∀ j,B j<256) (lC:∀ j,C j<256) (w:World) (r:RW w g 0 [u,v,x]) (h1:BytesIn w u a A) (h2:BytesIn w v b B) (h3:BytesIn w x c C):Calls Tryz.prog 64 #[.slice (some ⟨g,0,none⟩) 3 3] w fun e w'=>∃ s,e = .returned s∧Own w.heap.size w' s (t3L a b c) (t3B a A b B c C)∧Below w.heap.size w w' :=
 rJoin_any (some ⟨g,0,none⟩) 3 3 _ (thr a b c) (thr A B C) (fun i hi=>by
  match i,hi with
  | 0,_=>exact ha
  | 1,_=>exact hb
  | 2,_=>exact hc
  | i+3,hi=>omega) (by decide) (by show 0+a+b+c≤_;omega) w (pieces_rw [u,v,x] _ _ r rfl (fun i y hy=>by
  match i,hy with
  | 0,hy=>cases hy;exact h1
  | 1,hy=>cases hy;exact h2
  | 2,hy=>cases hy;exact h3
  | i+3,hy=>simp at hy) (thr_lt lA lB lC))
theorem own_lit4 (base:Nat) (w:World) (h:base≤w.heap.size):Own base (w.alloc (.cells #[.int .u8 0,.int .u8 1,.int .u8 0,.int .u8 1] 5)) (.slice (some ⟨w.heap.size,0,none⟩) 4 4) 4 (litB [0,1,0,1]) :=
 World.ownsRow_lit w #[.int .u8 0,.int .u8 1,.int .u8 0,.int .u8 1] 4 h (by decide) rfl
theorem cxT_left (d:CxD) (j:Nat) (hj:j<cxL d):cat (4+vcL d.gn+8) (cat (4+vcL d.gn) (cat 4 (litB [0,1,0,1]) (vcB d.gn d.g)) (beN d.e.toNat 8)) (t3B d.tn d.t d.rn d.r 0 lZ) j=cxT d j:=by
 rw [catA,catA]
 have e:cxL d=4+(vcL d.gn+(8+(t3L d.tn d.rn 0+0))):=rfl
 show _=cat 4 (litB [0,1,0,1]) (cat (vcL d.gn) (vcB d.gn d.g) (cat 8 (beN d.e.toNat 8) (cat (t3L d.tn d.rn 0) (t3B d.tn d.t d.rn d.r 0 lZ) (fun _=>0)))) j
 unfold cat
 split
 · rfl
 · split
   · rfl
   · split
     · rfl
     · rw [if_pos (by omega)]
theorem cxL_left (d:CxD):4+vcL d.gn+8+t3L d.tn d.rn 0=cxL d:=by
 have e:cxL d=4+(vcL d.gn+(8+(t3L d.tn d.rn 0+0))):=rfl
 omega
set_option maxRecDepth 20000 in
set_option maxHeartbeats 4000000 in
theorem rBytes16_any (cs:List Value) (d:CxD) (hB:cxB d) (ok:cxOk d=true) (w:World) (h:CxIn w cs d) :
 Calls Tryz.prog 38 #[.agg cs.toArray] w fun e w'=>∃ s,e = .returned s∧Own w.heap.size w' s (cxL d) (cxT d)∧Below w.heap.size w w':=by
 obtain ⟨l1,l2,l3,e0,e1⟩:=cxOk_le ok
 have hle:=cxL_le ok
 have hT:=cxT_left d
 have hL:=cxL_left d
 obtain ⟨CT,hCT⟩:∃ X,X=cxT d:=⟨_,rfl⟩
 obtain ⟨CL,hCL⟩:∃ X,X=cxL d:=⟨_,rfl⟩
 rw [←hCT,←hCL] at hT
 rw [←hCL] at hL hle
 rw [←hCT,←hCL]
 clear hCT hCL ok
 obtain ⟨v0,v1,v2,rfl,h0,h1,h2⟩:=h
 obtain ⟨gn,gB,e,tn,tB,rn,rB⟩:=d
 dsimp only at hT hL l1 l2 l3 e0 e1 h0 h1 h2 ⊢
 obtain ⟨E,rfl⟩:∃ E:Nat,e=(E:Int):=⟨e.toNat,by omega⟩
 rw [Int.toNat_natCast] at hT
 clear e0 e1
 obtain ⟨hBg,hBt,hBr⟩:=hB
 dsimp only at hBg hBt hBr
 obtain ⟨x0,c0,rfl,-,-,-⟩:=h0.src
 obtain ⟨x1,c1,rfl,-,-,-⟩:=h1.src
 obtain ⟨x2,c2,rfl,-,-,-⟩:=h2.src
 have b1:Below w.heap.size w (w.alloc (.cells #[.slice x0 gn c0,.int .i64 E,.slice x1 tn c1,.slice x2 rn c2] 24)):=(Below.refl _ _).alloc (Nat.le_refl _) _
 have k1:=RW.fresh w [.slice x0 gn c0,.int .i64 E,.slice x1 tn c1,.slice x2 rn c2] 24
 have n8:=fun (W:World)=>rbytes11_any E 8 (by decide) W
 have cv1:=fun (W:World) (g:Nat) (hb:Below w.heap.size w W) (r:RW W g 0 [.slice x0 gn c0])=>rJ1_any g (.slice x0 gn c0) gn gB (by omega) hBg W r (h0.keep hb)
 have cv3:=fun (W:World) (g:Nat) (hb:Below w.heap.size w W) (r:RW W g 0 [.slice x1 tn c1,.slice x2 rn c2,.slice none 0 0])=>rJ3_any g (.slice x1 tn c1) (.slice x2 rn c2) (.slice none 0 0) tn rn 0 tB rB lZ (by omega) (by omega) (by decide) hBt hBr (fun _=>by show 0<256;decide) W r (h1.keep hb) (h2.keep hb) (.inl ⟨none,rfl,rfl⟩)
 obtain ⟨T1,hT1⟩:∃ T,T=vcL gn:=⟨_,rfl⟩
 obtain ⟨F1,hF1⟩:∃ F,F=vcB gn gB:=⟨_,rfl⟩
 obtain ⟨T3,hT3⟩:∃ T,T=t3L tn rn 0:=⟨_,rfl⟩
 obtain ⟨F3,hF3⟩:∃ F,F=t3B tn tB rn rB 0 lZ:=⟨_,rfl⟩
 obtain ⟨F8,hF8⟩:∃ F,F=beN E 8:=⟨_,rfl⟩
 rw [←hT1,←hF1] at cv1
 rw [←hT3,←hF3] at cv3
 rw [←hF8] at n8
 rw [←hT1,←hF1,←hF8,←hF3] at hT
 rw [←hT1,←hT3] at hL
 have s1:4+T1≤140737488355328:=by omega
 have s2:4+T1+8≤140737488355328:=by omega
 have s3:4+T1+8+T3≤140737488355328:=by omega
 have HT:=Hid.mk' hT
 have HL:=Hid.mk' hL
 clear hT1 hF1 hT3 hF3 hF8 l1 l2 l3 hle hT hL hBg hBt hBr
 go_enter Tryz.func38,Tryz.ntmps38
 go_upto_region 1 with (fail)
 generalize w.alloc (.cells #[.slice x0 gn c0,.int .i64 E,.slice x1 tn c1,.slice x2 rn c2] 24)=W0 at *
 have o1:=own_lit4 W0.heap.size W0 (Nat.le_refl _)
 have b2:Below W0.heap.size W0 (W0.alloc (.cells #[.int .u8 0,.int .u8 1,.int .u8 0,.int .u8 1] 5)):=(Below.refl _ _).alloc (Nat.le_refl _) _
 have r3:=RW.fresh (W0.alloc (.cells #[.int .u8 0,.int .u8 1,.int .u8 0,.int .u8 1] 5)) [.slice x0 gn c0] 22
 have b3:=b2.alloc b2.size (.cells #[.slice x0 gn c0] 22)
 have o3:=o1.below ((Below.refl _ _).alloc (Nat.le_refl _) (.cells #[.slice x0 gn c0] 22))
 rw [World.size_alloc] at r3
 have C1:=cv1 _ _ (below_next b1 b3) r3
 have HO:=Hid.mk' o3
 have HK:=Hid.mk' k1
 have HB:=Hid.mk' b3
 have H1:=Hid.mk' b1
 have hc0:W0.cell? ⟨w.heap.size,0,none⟩=some (.slice x0 gn c0):=by simpa using k1.range 0 _ rfl
 have hlt0:w.heap.size<W0.heap.size:=k1.lt
 clear o1 b2 r3 b3 o3 cv1 k1 b1
 go_wp2_with (first
  | (go_at_call 64;refine C1.mono ?_;clear C1;rintro e w4 ⟨v4,rfl,ow4,hb4⟩;(obtain ⟨x4,d4,e4⟩:=ow4.slice);subst e4;have o4:=HO.out.below hb4;have b4:=below_next HB.out hb4;(obtain ⟨y4,z4,ey4,hxn4,-,src4⟩:=ow4.bytesIn.src);(obtain ⟨rfl,rfl⟩:x4=y4∧d4=z4:=(by injection ey4 with h1 h2 h3;exact ⟨h1,h3⟩));have r4:=src4 w4 (Below.refl _ _);have z4':=b4.size;clear src4 ey4 ow4 HO HB hc0)
  | (at_builtin;refine wpList_append_bytes rfl (.tmp 4) (.tmp 8) rfl W0.heap.size _ 4 _ rfl o4 x4 T1 d4 F1 rfl r4 hxn4 s1 z4' ?_;intro v5 w5 o5 g5;have b5:=Own.grown b4 g5 o4 (Nat.le_refl _) z4';have k5:=HK.out.still b5;have hc1:w5.cell? ⟨w.heap.size,1,none⟩=some (.int .i64 E):=(by simpa using k5.range 1 _ rfl);(obtain ⟨y5,d5,e5⟩:=o5.slice);subst e5;clear o4 b4 r4 z4' k5)
  | (go_at_call 68;refine (n8 w5).mono ?_;clear n8;rintro e w6 ⟨v6,rfl,ow6,hb6⟩;(obtain ⟨x6,d6,e6⟩:=ow6.slice);subst e6;have o6:=o5.below hb6;have b6:=below_next b5 hb6;(obtain ⟨y6,z6,ey6,hxn6,-,src6⟩:=ow6.bytesIn.src);(obtain ⟨rfl,rfl⟩:x6=y6∧d6=z6:=(by injection ey6 with h1 h2 h3;exact ⟨h1,h3⟩));have r6:=src6 w6 (Below.refl _ _);have z6':=b6.size;clear src6 ey6 ow6 hc1 o5 b5)
  | (at_builtin;refine wpList_append_bytes rfl (.tmp 10) (.tmp 13) rfl W0.heap.size _ _ _ rfl o6 x6 8 d6 F8 rfl r6 hxn6 s2 z6' ?_;intro v7 w7 o7 g7;have b7:=Own.grown b6 g7 o6 (Nat.le_refl _) z6';have k7:=HK.out.still b7;have hc2:w7.cell? ⟨w.heap.size,2,none⟩=some (.slice x1 tn c1):=(by simpa using k7.range 2 _ rfl);have hc3:w7.cell? ⟨w.heap.size,3,none⟩=some (.slice x2 rn c2):=(by simpa using k7.range 3 _ rfl);(obtain ⟨y7,d7,e7⟩:=o7.slice);subst e7;have r8:=RW.fresh w7 [.slice x1 tn c1,.slice x2 rn c2,.slice none 0 0] 22;have b8:=b7.alloc b7.size (.cells #[.slice x1 tn c1,.slice x2 rn c2,.slice none 0 0] 22);have C3:=cv3 _ _ (below_next H1.out b8) r8;have O8:=Hid.mk' (o7.alloc (.cells #[.slice x1 tn c1,.slice x2 rn c2,.slice none 0 0] 22));have B8:=Hid.mk' b8;clear o6 b6 r6 z6' k7 r8 b8 o7 b7 cv3)
  | (go_at_call 64;refine C3.mono ?_;clear C3;rintro e w9 ⟨v9,rfl,ow9,hb9⟩;(obtain ⟨x9,d9,e9⟩:=ow9.slice);subst e9;have o9:=O8.out.below hb9;have b9:=below_next B8.out hb9;(obtain ⟨y9,z9,ey9,hxn9,-,src9⟩:=ow9.bytesIn.src);(obtain ⟨rfl,rfl⟩:x9=y9∧d9=z9:=(by injection ey9 with h1 h2 h3;exact ⟨h1,h3⟩));have r9:=src9 w9 (Below.refl _ _);have z9':=b9.size;clear src9 ey9 ow9 O8 B8 hc2 hc3)
  | (at_builtin;refine wpList_append_bytes rfl (.tmp 15) (.tmp 21) rfl W0.heap.size _ _ _ rfl o9 x9 T3 d9 F3 rfl r9 hxn9 s3 z9' ?_;intro v10 w10 o10 g10;have b10:=Own.grown b9 g10 o9 (Nat.le_refl _) z9';(obtain ⟨y10,d10,e10⟩:=o10.slice);subst e10))
 go_ret
 refine ⟨_,rfl,?_,below_next H1.out b10⟩
 have o:=o10.lower H1.out.size
 rw [HL.out] at o
 rw [HL.out]
 exact o.congr HT.out
end Go.Proofs.YtibmlmmoifgliaaGreatDoor
namespace Go.Proofs.YtibmlmmoifgliaaGreatDoor
open Go.RowKit
theorem rPutCtx_bad (cs:List Value) (d:CxD) (ok:cxOk d=false) (w:World) (h:CxIn w cs d) :
 Calls Tryz.prog 9 #[.agg cs.toArray] w fun e w'=>e = .returned (.tuple #[.slice none 0 0,.int .i64 1])∧Below w.heap.size w w':=by
 have hm:=fun (W:World) (hb:Below w.heap.size w W)=>rRight_any cs d W (h.keep hb)
 obtain ⟨v0,v1,v2,rfl,h0,h1,h2⟩:=h
 rw [ok] at hm
 clear h0 h1 h2 ok
 obtain ⟨E,hE⟩:∃ E,E=d.e:=⟨_,rfl⟩
 rw [←hE] at hm ⊢
 clear hE d
 have b1:Below w.heap.size w (w.alloc (.cells #[v0,.int .i64 E,v1,v2] 24)):=(Below.refl _ _).alloc (Nat.le_refl _) _
 replace hm:=hm _ b1
 go_enter Tryz.func9,Tryz.ntmps9
 go_wp2_with (go_at_call 37;refine hm.mono ?_;clear hm;rintro e w1 ⟨rfl,hb1⟩)
 go_ret2
 exact ⟨rfl,below_next b1 hb1⟩
theorem rPutCtx_good (cs:List Value) (d:CxD) (hB:cxB d) (ok:cxOk d=true) (w:World) (h:CxIn w cs d) :
 Calls Tryz.prog 9 #[.agg cs.toArray] w fun e w'=>∃ s,e = .returned (.tuple #[s,.int .i64 0])∧Own w.heap.size w' s (cxL d) (cxT d)∧Below w.heap.size w w':=by
 have hm:=fun (W:World) (hb:Below w.heap.size w W)=>rRight_any cs d W (h.keep hb)
 have hy:=fun (W:World) (hb:Below w.heap.size w W)=>rBytes16_any cs d hB ok W (h.keep hb)
 obtain ⟨v0,v1,v2,rfl,h0,h1,h2⟩:=h
 rw [ok] at hm
 clear h0 h1 h2 ok hB
 obtain ⟨CL,hCL⟩:∃ X,X=cxL d:=⟨_,rfl⟩
 obtain ⟨CT,hCT⟩:∃ X,X=cxT d:=⟨_,rfl⟩
 rw [←hCL,←hCT] at hy ⊢
 obtain ⟨E,hE⟩:∃ E,E=d.e:=⟨_,rfl⟩
 rw [←hE] at hm hy ⊢
 clear hE hCL hCT d
 have b1:Below w.heap.size w (w.alloc (.cells #[v0,.int .i64 E,v1,v2] 24)):=(Below.refl _ _).alloc (Nat.le_refl _) _
 have k1:=RW.fresh w [v0,.int .i64 E,v1,v2] 24
 replace hm:=hm _ b1
 have HK:=Hid.mk' k1
 have HB:=Hid.mk' b1
 clear k1 b1
 go_enter Tryz.func9,Tryz.ntmps9
 go_wp2_with (first
  | (go_at_call 37;refine hm.mono ?_;clear hm;rintro e w1 ⟨rfl,hb1⟩;have k2:=HK.out.still hb1;have b2:=below_next HB.out hb1;have hy2:=hy w1 b2;clear hy HK HB)
  | (refine wpList_load_mid rfl 24 _ rfl w.heap.size 0 rfl _ _ k2.range Tryz.underlying24 rfl (infoRx _ _ _ _) ?_;clear k2)
  | (go_at_call 38;refine hy2.mono ?_;clear hy2;rintro e w3 ⟨s3,rfl,o3,hb3⟩;(obtain ⟨x3,c3,e3⟩:=o3.slice);subst e3))
 go_ret2
 exact ⟨_,rfl,o3.lower b2.size,below_next b2 hb3⟩
end Go.Proofs.YtibmlmmoifgliaaGreatDoor
namespace Go.Proofs.YtibmlmmoifgliaaGreatDoor
open Go.RowKit
structure SrAt (W:World) (g q:Nat) (N:Nat→Nat) (B:Nat→Nat→Nat) (cs:List Value):Prop where
 row:RW W g 0 cs
 len:cs.length=11
 low:∀ (i:Nat) (v:Value),i<q→cs[i]? = some v→BytesIn W v (N i) (B i)
 sls:∀ (i:Nat) (v:Value),cs[i]? = some v→∃ x n c,v = .slice x n c
theorem SrAt.still {W W':World} {g q:Nat} {N:Nat→Nat} {B:Nat→Nat→Nat} {cs:List Value} (h:SrAt W g q N B cs) (hb:Below W.heap.size W W'):SrAt W' g q N B cs :=
 ⟨h.row.still hb,h.len,fun i v hi hv=>(h.low i v hi hv).keep hb,h.sls⟩
theorem SrAt.cell {W:World} {g q:Nat} {N:Nat→Nat} {B:Nat→Nat→Nat} {cs:List Value} (h:SrAt W g q N B cs) (i:Nat) (hi:i<11):∃ u,W.cell? ⟨g,i,none⟩=some u∧W.frozen? ⟨g,i,none⟩=false∧(∀ z,u ≠ .int .u8 z):=by
 have hl:i<cs.length:=by rw [h.len];exact hi
 have hc:=h.row.range i _ (List.getElem?_eq_getElem hl)
 have hf:=(h.row.there i hl).2
 rw [Nat.zero_add] at hc hf
 obtain ⟨x,n,c,e⟩:=h.sls i _ (List.getElem?_eq_getElem hl)
 exact ⟨_,hc,hf,fun z ez=>by rw [e] at ez;cases ez⟩
theorem SrAt.put {W:World} {g q:Nat} {N:Nat→Nat} {B:Nat→Nat→Nat} {cs:List Value} (h:SrAt W g q N B cs) (hq:q<11) (v:Value) (hv:BytesIn W v (N q) (B q)):SrAt (W.setCell ⟨g,q,none⟩ v) g (q+1) N B (cs.set q v):=by
 obtain ⟨u,hc,-,hu⟩:=h.cell q hq
 have hl:q<cs.length:=by rw [h.len];exact hq
 refine ⟨h.row.put q hl v,by rw [List.length_set];exact h.len,fun i x hi hx => ?_,fun i x hx => ?_⟩
 · by_cases e:i=q
   · subst e
     rw [List.getElem?_set_self hl] at hx
     cases hx
     exact hv.setV hc hu v
   · rw [List.getElem?_set_ne (Ne.symm e)] at hx
     exact (h.low i x (by omega) hx).setV hc hu v
 · by_cases e:i=q
   · subst e
     rw [List.getElem?_set_self hl] at hx
     cases hx
     exact hv.isSl
   · rw [List.getElem?_set_ne (Ne.symm e)] at hx
     exact h.sls i x hx
structure SrS (w W:World) (g q:Nat) (N:Nat→Nat) (B:Nat→Nat→Nat) (m s:Value) (M S:Nat→Nat) (cs:List Value):Prop where
 sr:SrAt W g q N B cs
 hm:BytesIn W m 32 M
 hs:BytesIn W s 32 S
 kz:RW W (w.heap.size+1) 0 z11
 hb:Below w.heap.size w W
 gt:w.heap.size+1<g
theorem SrS.turn {w W W':World} {g q:Nat} {N:Nat→Nat} {B:Nat→Nat→Nat} {m s:Value} {M S:Nat→Nat} {cs:List Value} (h:SrS w W g q N B m s M S cs) (hb:Below W.heap.size W W'):SrS w W' g q N B m s M S cs :=
 ⟨h.sr.still hb,h.hm.keep hb,h.hs.keep hb,h.kz.still hb,below_next h.hb hb,h.gt⟩
theorem SrS.put {w W:World} {g q:Nat} {N:Nat→Nat} {B:Nat→Nat→Nat} {m s:Value} {M S:Nat→Nat} {cs:List Value} (h:SrS w W g q N B m s M S cs) (hq:q<11) (v:Value) (hv:BytesIn W v (N q) (B q)):SrS w (W.setCell ⟨g,q,none⟩ v) g (q+1) N B m s M S (cs.set q v):=by
 obtain ⟨u,hc,-,hu⟩:=h.sr.cell q hq
 exact ⟨h.sr.put hq v hv,h.hm.setV hc hu v,h.hs.setV hc hu v,h.kz.far g q [v] (.inl (Nat.ne_of_lt h.gt)),h.hb.setCell (show w.heap.size≤(⟨g,q,none⟩:Addr).block from Nat.le_of_lt (Nat.lt_of_succ_lt h.gt)) v,h.gt⟩
end Go.Proofs.YtibmlmmoifgliaaGreatDoor
namespace Go.Proofs.YtibmlmmoifgliaaGreatDoor
open Go.RowKit
def rcH (L:Nat) (B:Nat→Nat):Rd:=(numD L B 4 ⟨0,0⟩).2
def rcD (L:Nat) (B:Nat→Nat):CxD:=gcX L B (rcH L B)
def rcOk (L:Nat) (B:Nat→Nat):Bool:=decide ((numD L B 4 ⟨0,0⟩).1=65537) && gcE L B (rcH L B)
theorem BytesIn.outW {w w':World} {v:Value} {n g o m:Nat} {b:Nat→Nat} (h:BytesIn w v n b) (ho:Out g o m w w') (hno:∀ i,o≤i→i<o+m→∃ u,w.cell? ⟨g,i,none⟩=some u∧∀ z,u ≠ .int .u8 z):BytesIn w' v n b:=by
 rcases h with h | ⟨bb,ob,cap,rfl,h1,h2,h3⟩
 · exact .inl h
 · refine .inr ⟨bb,ob,cap,rfl,Nat.lt_of_lt_of_le h1 ho.size,h2,fun j hj => ?_⟩
   by_cases e:bb=g
   · subst e
     rw [ho.cell (ob+j) (by
      by_cases e2:o≤ob+j∧ob+j<o+m
      · obtain ⟨u,hu,hz⟩:=hno _ e2.1 e2.2
        rw [h3 j hj] at hu
        injection hu with hu
        exact absurd hu.symm (hz _)
      · omega)]
     exact h3 j hj
   · rw [ho.cell' h1 e]
     exact h3 j hj
theorem RdB.two {lo hi:Nat} {w:World} {g L:Nat} {B:Nat→Nat} {r:Rd} (h:RdB lo hi w g L B r):∀ i,1≤i→i<1+2→∃ u,w.cell? ⟨g,i,none⟩=some u∧∀ z,u ≠ .int .u8 z:=by
 obtain ⟨v,rr,-⟩:=h
 intro i h1 h2
 have hr:=rr.range
 match i,h1,h2 with
 | 1,_,_=>exact ⟨_,by simpa using hr 1 _ rfl,fun z e=>by cases e⟩
 | 2,_,_=>exact ⟨_,by simpa using hr 2 _ rfl,fun z e=>by cases e⟩
structure GrS (w W:World) (lo hi g c L:Nat) (B:Nat→Nat) (p:Rd) (vs:List Value):Prop where
 rd:RdB lo hi W g L B p
 kc:RW W c 0 vs
 kr:RW W w.heap.size 0 z4C
 hb:Below w.heap.size w W
 low:w.heap.size+1≤lo
 hic:hi≤c
theorem GrS.turn {w W W':World} {lo hi g c L:Nat} {B:Nat→Nat} {p p':Rd} {vs:List Value} (h:GrS w W lo hi g c L B p vs) (o:Out g 1 2 W W') (r:RdB lo hi W' g L B p'):GrS w W' lo hi g c L B p' vs:=by
 have hg:=h.rd.ge
 have hl:=h.low
 have hh:=h.rd.lt
 have hc:=h.hic
 exact ⟨r,h.kc.out o (by omega),h.kr.out o (by omega),h.hb.trans (o.below (by omega) h.hb.size),h.low,h.hic⟩
theorem GrS.put {w W:World} {lo hi g c L:Nat} {B:Nat→Nat} {p:Rd} {vs:List Value} (h:GrS w W lo hi g c L B p vs) (i:Nat) (hiv:i<vs.length) (v:Value):GrS w (W.setCell ⟨c,i,none⟩ v) lo hi g c L B p (vs.set i v):=by
 have hl:=h.low
 have hg:=h.rd.ge
 have hh:=h.rd.lt
 have hc:=h.hic
 exact ⟨h.rd.same (SameIn.of_out (Out.setCell (n:=1) W v (Nat.le_refl i) (Nat.lt_succ_self i)) (.inr hc) h.rd.size),h.kc.put i hiv v,h.kr.far c i [v] (.inl (by omega)),h.hb.setCell (show w.heap.size≤(⟨c,i,none⟩:Addr).block from by show w.heap.size≤c;omega) v,h.low,h.hic⟩
theorem GrS.cell {w W:World} {lo hi g c L:Nat} {B:Nat→Nat} {p:Rd} {vs:List Value} (h:GrS w W lo hi g c L B p vs) (i:Nat) (v:Value) (hv:vs[i]? = some v):W.cell? ⟨c,i,none⟩=some v∧W.frozen? ⟨c,i,none⟩=false:=by
 have h1:=h.kc.range i v hv
 have h2:=(h.kc.there i (List.getElem?_eq_some_iff.1 hv).1).2
 rw [Nat.zero_add] at h1 h2
 exact ⟨h1,h2⟩
theorem zCxR (w:World):Sem.run Tryz.prog (zeroValue 24) w = .ok (.agg z4C.toArray) w:=by kernel_rfl
theorem stCxR {ops:Array Oper} {rest:List Oper} {op:Oper} {a:Act} {w:World} {Q:Exit→Act→World→Prop} (x y:Operand) (ho:op.op = .store 24 x y) {g:Nat} {c0 c1 c2 c3 d0 d1 d2 d3:Value} (hx:a.eval x = .pointer (some ⟨g,0,none⟩)) (hy:a.eval y = .agg #[d0,d1,d2,d3]) (r:RW w g 0 [c0,c1,c2,c3]) (h1:#[d0,d1,d2,d3].all (·.oneCell')=true)
 (h:wpList Tryz.prog ops Q rest (a.put op.dst undef) (w.setCells g 0 [d0,d1,d2,d3])) (hgd:op.guard=none):wpList Tryz.prog ops Q (op :: rest) a w :=
 wpList_store_mid hgd 24 x y ho g 0 #[d0,d1,d2,d3] hx hy r.there (infoRx _ _ _ _) h1 h
set_option maxRecDepth 20000 in
set_option maxHeartbeats 8000000 in
theorem rGetCtx_any (v:Value) (L:Nat) (B:Nat→Nat) (lB:∀ j,B j<256) (hL:L<140737488355000) (w:World) (hv:BytesIn w v L B) :
 Calls Tryz.prog 11 #[v] w fun e w'=>((rcOk L B=true∧∃ cs:List Value,e = .returned (.tuple #[.agg cs.toArray,.int .i64 0])∧CxIn w' cs (rcD L B))∨(rcOk L B=false∧e = .returned (.tuple #[.agg z4C.toArray,.int .i64 21])))∧Below w.heap.size w w':=by
 have cN:=fun (W:World) (hb:Below w.heap.size w W)=>rNewB_any v L B hL W (hv.keep hb)
 have c2:=fun (lo hi g:Nat) (W:World) (h:RdB lo hi W g L B ⟨0,0⟩)=>rNumB_any lo hi g L B lB ⟨0,0⟩ 4 hL W h
 have c3:=fun (lo hi g:Nat) (W:World) (h:RdB lo hi W g L B (rcH L B))=>rVecB_any lo hi g L B lB _ hL W h
 have c4:=fun (lo hi g:Nat) (W:World) (h:RdB lo hi W g L B (gcT L B (rcH L B) 1))=>rNumB_any lo hi g L B lB _ 8 hL W h
 have c5:=fun (lo hi g:Nat) (W:World) (h:RdB lo hi W g L B (gcT L B (rcH L B) 2))=>rVecB_any lo hi g L B lB _ hL W h
 have c6:=fun (lo hi g:Nat) (W:World) (h:RdB lo hi W g L B (gcT L B (rcH L B) 3))=>rVecB_any lo hi g L B lB _ hL W h
 have c7:=fun (lo hi g:Nat) (W:World) (h:RdB lo hi W g L B (gcT L B (rcH L B) 4))=>rVecB_any lo hi g L B lB _ hL W h
 have c8:=fun (lo hi g:Nat) (W:World) (h:RdB lo hi W g L B (gcT L B (rcH L B) 5))=>rEndR_any g L B _ hL W h.of
 have cm:=fun (cs:List Value) (W:World) (h:CxIn W cs (rcD L B))=>rRight_any cs (rcD L B) W h
 have hOk:rcOk L B=(decide ((numD L B 4 ⟨0,0⟩).1=65537) && (decide (endD L (gcT L B (rcH L B) 5)=0) && (decide ((vecD L B (gcT L B (rcH L B) 4)).1=0) && cxOk (rcD L B)))):=rfl
 have hcx:=fun (W:World) (a b c:Value) (g0:BytesIn W a (vecD L B (rcH L B)).1 (fun j=>B ((lenD L B (rcH L B)).2.at_+j))) (g1:BytesIn W b (vecD L B (gcT L B (rcH L B) 2)).1 (fun j=>B ((lenD L B (gcT L B (rcH L B) 2)).2.at_+j))) (g2:BytesIn W c (vecD L B (gcT L B (rcH L B) 3)).1 (fun j=>B ((lenD L B (gcT L B (rcH L B) 3)).2.at_+j))) =>
  (⟨a,b,c,rfl,g0,g1,g2⟩:CxIn W [a,.int .i64 (((numD L B 8 (gcT L B (rcH L B) 1)).1:Nat):Int),b,c] (rcD L B))
 obtain ⟨OK,hOK⟩:∃ X,X=rcOk L B:=⟨_,rfl⟩
 obtain ⟨CO,hCO⟩:∃ X,X=cxOk (rcD L B):=⟨_,rfl⟩
 obtain ⟨D,hD⟩:∃ X,X=rcD L B:=⟨_,rfl⟩
 rw [←hOK,←hCO] at hOk
 rw [←hOK,←hD]
 rw [←hCO,←hD] at cm
 rw [←hD] at hcx
 replace c2:∀ (lo hi g:Nat) (W:World),RdB lo hi W g L B (⟨0,0⟩)→Calls Tryz.prog 44 #[.pointer (some ⟨g,0,none⟩),.int .i64 4] W fun e w'=>e = .returned (.int .i64 (((numD L B 4 ⟨0,0⟩).1:Nat):Int))∧RdB lo hi w' g L B (rcH L B)∧Out g 1 2 W w':=c2
 replace c3:∀ (lo hi g:Nat) (W:World),RdB lo hi W g L B (rcH L B)→Calls Tryz.prog 45 #[.pointer (some ⟨g,0,none⟩)] W fun e w'=>∃ v,e = .returned v∧Own W.heap.size w' v (vecD L B (rcH L B)).1 (fun j=>B ((lenD L B (rcH L B)).2.at_+j))∧RdB lo hi w' g L B (gcT L B (rcH L B) 1)∧Out g 1 2 W w':=c3
 replace c4:∀ (lo hi g:Nat) (W:World),RdB lo hi W g L B (gcT L B (rcH L B) 1)→Calls Tryz.prog 44 #[.pointer (some ⟨g,0,none⟩),.int .i64 8] W fun e w'=>e = .returned (.int .i64 (((numD L B 8 (gcT L B (rcH L B) 1)).1:Nat):Int))∧RdB lo hi w' g L B (gcT L B (rcH L B) 2)∧Out g 1 2 W w':=c4
 replace c5:∀ (lo hi g:Nat) (W:World),RdB lo hi W g L B (gcT L B (rcH L B) 2)→Calls Tryz.prog 45 #[.pointer (some ⟨g,0,none⟩)] W fun e w'=>∃ v,e = .returned v∧Own W.heap.size w' v (vecD L B (gcT L B (rcH L B) 2)).1 (fun j=>B ((lenD L B (gcT L B (rcH L B) 2)).2.at_+j))∧RdB lo hi w' g L B (gcT L B (rcH L B) 3)∧Out g 1 2 W w':=c5
 replace c6:∀ (lo hi g:Nat) (W:World),RdB lo hi W g L B (gcT L B (rcH L B) 3)→Calls Tryz.prog 45 #[.pointer (some ⟨g,0,none⟩)] W fun e w'=>∃ v,e = .returned v∧Own W.heap.size w' v (vecD L B (gcT L B (rcH L B) 3)).1 (fun j=>B ((lenD L B (gcT L B (rcH L B) 3)).2.at_+j))∧RdB lo hi w' g L B (gcT L B (rcH L B) 4)∧Out g 1 2 W w':=c6
 replace c7:∀ (lo hi g:Nat) (W:World),RdB lo hi W g L B (gcT L B (rcH L B) 4)→Calls Tryz.prog 45 #[.pointer (some ⟨g,0,none⟩)] W fun e w'=>∃ v,e = .returned v∧Own W.heap.size w' v (vecD L B (gcT L B (rcH L B) 4)).1 (fun j=>B ((lenD L B (gcT L B (rcH L B) 4)).2.at_+j))∧RdB lo hi w' g L B (gcT L B (rcH L B) 5)∧Out g 1 2 W w':=c7
 generalize endD L (gcT L B (rcH L B) 5)=EE at *
 generalize gcT L B (rcH L B) 5=p7 at *
 generalize (vecD L B (gcT L B (rcH L B) 4)).1=n4 at *
 generalize (fun j=>B ((lenD L B (gcT L B (rcH L B) 4)).2.at_+j))=b4 at *
 generalize gcT L B (rcH L B) 4=p6 at *
 generalize (vecD L B (gcT L B (rcH L B) 3)).1=n3 at *
 generalize (fun j=>B ((lenD L B (gcT L B (rcH L B) 3)).2.at_+j))=b3 at *
 generalize gcT L B (rcH L B) 3=p5 at *
 generalize (vecD L B (gcT L B (rcH L B) 2)).1=n2 at *
 generalize (fun j=>B ((lenD L B (gcT L B (rcH L B) 2)).2.at_+j))=b2 at *
 generalize gcT L B (rcH L B) 2=p4 at *
 generalize (numD L B 8 (gcT L B (rcH L B) 1)).1=e8 at *
 generalize gcT L B (rcH L B) 1=p3 at *
 generalize (vecD L B (rcH L B)).1=n1 at *
 generalize (fun j=>B ((lenD L B (rcH L B)).2.at_+j))=b1 at *
 generalize rcH L B=p2 at *
 generalize (numD L B 4 ⟨0,0⟩).1=k1 at *
 have HOk:=Hid.mk' hOk
 obtain ⟨xv,cv,rfl,-⟩:=hv.src
 clear hOk hOK hCO hD hv lB hL
 replace hcx:∀ (W:World) (a b c:Value),BytesIn W a n1 b1→BytesIn W b n2 b2→BytesIn W c n3 b3→CxIn W [a,.int .i64 (e8:Int),b,c] D:=hcx
 have B1:Below w.heap.size w (w.alloc (.cells z4C.toArray 24)):=(Below.refl _ _).alloc (Nat.le_refl _) _
 have k1_:=RW.fresh w z4C 24
 have HB:=Hid.mk' B1
 have H1:=Hid.mk' k1_
 have hz0:(w.alloc (.cells z4C.toArray 24)).heap.size=w.heap.size+1:=by rw [World.size_alloc]
 have HZ:=Hid.mk' hz0
 replace cN:=cN _ B1
 clear B1 k1_ hz0
 go_enter Tryz.func11,Tryz.ntmps11
 go_upto_region 3 with (first
  | rw [zCxR]
  | (go_at_call 43;refine cN.mono ?_;clear cN;rintro e w1 ⟨g,rfl,R1,hb1⟩;have kr1:=H1.out.still hb1;have b1':=below_next HB.out hb1;clear hb1 H1 HB)
  | (go_at_call 44;refine (c2 _ _ g w1 R1).mono ?_;clear c2;rintro e w2 ⟨rfl,R2,o2⟩;have hge:=R1.ge;have hlo:=Nat.le_of_eq HZ.out.symm;have kr2:=kr1.out o2 (Nat.ne_of_lt (Nat.lt_of_lt_of_le (Nat.lt_of_lt_of_le (Nat.lt_succ_self _) hlo) hge));have b2':=b1'.trans (o2.below (Nat.le_trans (Nat.le_of_lt (Nat.lt_of_lt_of_le (Nat.lt_succ_self _) hlo)) hge) b1'.size);clear R1 kr1 b1' o2))
 go_upto_region 4 with (first
  | (go_at_call 45;refine (c3 _ _ g w2 R2).mono ?_;clear c3;rintro e w4 ⟨v4,rfl,ow4,R4,o4⟩;(obtain ⟨x1,d1,hs4⟩:=ow4.slice);subst hs4;have kr4:=kr2.out o4 (Nat.ne_of_lt (Nat.lt_of_lt_of_le (Nat.lt_of_lt_of_le (Nat.lt_succ_self _) hlo) hge));have b4':=b2'.trans (o4.below (Nat.le_trans (Nat.le_of_lt (Nat.lt_of_lt_of_le (Nat.lt_succ_self _) hlo)) hge) b2'.size);have X4:=ow4.bytesIn;clear R2 kr2 b2' o4 ow4)
  | rw [zCxR])
 have hba:Below w4.heap.size w4 (w4.alloc (.cells #[.slice x1 n1 d1,.int .i64 0,.slice none 0 0,.slice none 0 0] 24)):=(Below.refl _ _).alloc (Nat.le_refl _) _
 have S5:GrS w (w4.alloc (.cells #[.slice x1 n1 d1,.int .i64 0,.slice none 0 0,.slice none 0 0] 24)) _ _ g w4.heap.size L B p3 [.slice x1 n1 d1,.int .i64 0,.slice none 0 0,.slice none 0 0] :=
  ⟨R4.same (SameIn.of_below hba R4.size),RW.fresh w4 [.slice x1 n1 d1,.int .i64 0,.slice none 0 0,.slice none 0 0] 24,kr4.still hba,below_next b4' hba,hlo,R4.size⟩
 have X5:=X4.keep hba
 clear hba R4 kr4 b4' X4 hlo hge HZ
 generalize w4.alloc (.cells #[.slice x1 n1 d1,.int .i64 0,.slice none 0 0,.slice none 0 0] 24)=w5 at *
 obtain ⟨c,hc⟩:∃ c,c=w4.heap.size:=⟨_,rfl⟩
 rw [←hc] at S5 ⊢
 clear hc
 go_upto_region 8 with (first
  | (go_at_call 44;refine (c4 _ _ g _ S5.rd).mono ?_;clear c4;rintro e w6 ⟨rfl,R6,o6⟩;have S6:=S5.turn o6 R6;have X6:=X5.outW o6 S5.rd.two;(obtain ⟨hc1,hf1⟩:=S6.cell 1 _ rfl);have S7:=S6.put 1 (show 1<4 by decide) (.int .i64 e8);have X7:=X6.setV hc1 (fun z e=>by cases e) (.int .i64 e8);clear S5 o6 R6 X5 X6 S6)
  | (go_at_call 45;refine (c5 _ _ g _ S7.rd).mono ?_;clear c5;rintro e w8 ⟨v8,rfl,ow8,R8,o8⟩;(obtain ⟨x2,d2,hs8⟩:=ow8.slice);subst hs8;have S8:=S7.turn o8 R8;have X8:=X7.outW o8 S7.rd.two;have Y8:=ow8.bytesIn;(obtain ⟨hc2,hf2⟩:=S8.cell 2 _ rfl);have S9:=S8.put 2 (show 2<4 by decide) (.slice x2 n2 d2);have X9:=X8.setV hc2 (fun z e=>by cases e) (.slice x2 n2 d2);have Y9:=Y8.setV hc2 (fun z e=>by cases e) (.slice x2 n2 d2);clear S7 o8 R8 X7 ow8 X8 Y8 S8 hc1 hf1)
  | (go_at_call 45;refine (c6 _ _ g _ S9.rd).mono ?_;clear c6;rintro e w10 ⟨v10,rfl,ow10,R10,o10⟩;(obtain ⟨x3,d3,hs10⟩:=ow10.slice);subst hs10;have S10:=S9.turn o10 R10;have X10:=X9.outW o10 S9.rd.two;have Y10:=Y9.outW o10 S9.rd.two;have Z10:=ow10.bytesIn;(obtain ⟨hc3,hf3⟩:=S10.cell 3 _ rfl);have S11:=S10.put 3 (show 3<4 by decide) (.slice x3 n3 d3);have X11:=X10.setV hc3 (fun z e=>by cases e) (.slice x3 n3 d3);have Y11:=Y10.setV hc3 (fun z e=>by cases e) (.slice x3 n3 d3);have Z11:=Z10.setV hc3 (fun z e=>by cases e) (.slice x3 n3 d3);clear S9 o10 R10 X9 Y9 ow10 X10 Y10 Z10 S10 hc2 hf2)
  | (go_at_call 45;refine (c7 _ _ g _ S11.rd).mono ?_;clear c7;rintro e w12 ⟨v12,rfl,ow12,R12,o12⟩;(obtain ⟨x4,d4,hs12⟩:=ow12.slice);subst hs12;have S12:=S11.turn o12 R12;have X12:=X11.outW o12 S11.rd.two;have Y12:=Y11.outW o12 S11.rd.two;have Z12:=Z11.outW o12 S11.rd.two;clear S11 o12 R12 X11 Y11 Z11 ow12 hc3 hf3))
 have S:GrS w w12 _ _ g c L B p7 [.slice x1 n1 d1,.int .i64 e8,.slice x2 n2 d2,.slice x3 n3 d3]:=S12
 have hC:CxIn w12 [.slice x1 n1 d1,.int .i64 e8,.slice x2 n2 d2,.slice x3 n3 d3] D:=hcx w12 _ _ _ X12 Y12 Z12
 have HKC:=Hid.mk' S.kc
 have HKR:=Hid.mk' S.kr
 have HHB:=Hid.mk' S.hb
 have c9:=c8 _ _ g w12 S.rd
 clear c8 hcx S S12 X12 Y12 Z12
 have key:(EE=0∧k1=65537∧n4=0∧CO=true∧OK=true)∨(OK=false∧(¬EE=0∨(EE=0∧¬k1=65537)∨(EE=0∧k1=65537∧¬n4=0)∨(EE=0∧k1=65537∧n4=0∧CO=false))):=by
  rw [HOk.out]
  by_cases h1:EE=0
  · by_cases h2:k1=65537
    · by_cases h4:n4=0
      · cases CO
        · exact .inr ⟨by simp,.inr (.inr (.inr ⟨h1,h2,h4,rfl⟩))⟩
        · exact .inl ⟨h1,h2,h4,rfl,by simp [h1,h2,h4]⟩
      · exact .inr ⟨by simp [h4],.inr (.inr (.inl ⟨h1,h2,h4⟩))⟩
    · exact .inr ⟨by simp [h2],.inr (.inl ⟨h1,h2⟩)⟩
  · exact .inr ⟨by simp [h1],.inl h1⟩
 clear HOk
 have one:[(.slice x1 n1 d1:Value),.int .i64 e8,.slice x2 n2 d2,.slice x3 n3 d3].toArray.all (·.oneCell')=true:=one4 ⟨_,_,_,rfl⟩ ⟨_,_,_,rfl⟩ ⟨_,_,_,rfl⟩
 have zone:z4C.toArray.all (·.oneCell')=true:=by kernel_rfl
 have cm1:=fun (W:World) (hb:Below w12.heap.size w12 W)=>cm _ W (hC.keep hb)
 clear cm
 rcases key with ⟨rfl,rfl,rfl,rfl,rfl⟩ | ⟨rfl,hk⟩
 · go_wp2_with (first
    | (go_at_call 46;refine c9.mono ?_;clear c9;rintro e w13 ⟨rfl,hb13⟩;have kc3:=HKC.out.still hb13;have kr3:=HKR.out.still hb13;have hb3:=below_next HHB.out hb13;have hC3:=hC.keep hb13;have cm3:=cm1 w13 hb13;clear cm1 hC HKC HKR HHB)
    | (refine wpList_load_on (by rfl) 24 (.tmp 6) rfl c 0 rfl [.slice x1 n1 d1,.int .i64 e8,.slice x2 n2 d2,.slice x3 n3 d3] _ kc3.range Tryz.underlying24 rfl (infoRx _ _ _ _) ?_)
    | (go_at_call 37;refine cm3.mono ?_;clear cm3;rintro e w14 ⟨rfl,hb14⟩;have kc:=kc3.still hb14;have kr:=kr3.still hb14;have hb:=below_next hb3 hb14;have hC14:=hC3.keep hb14;clear hC3 kc3 kr3 hb3)
    | (refine wpList_load_on (by rfl) 24 (.tmp 6) rfl c 0 rfl [.slice x1 n1 d1,.int .i64 e8,.slice x2 n2 d2,.slice x3 n3 d3] _ kc.range Tryz.underlying24 rfl (infoRx _ _ _ _) ?_)
    | (refine stCxR (.tmp 2) (.tmp 44) rfl (g:=w.heap.size) rfl rfl kr one ?_ rfl))
   have kz:=kr.stored [.slice x1 n1 d1,.int .i64 e8,.slice x2 n2 d2,.slice x3 n3 d3] rfl
   have ho:Out w.heap.size 0 4 w14 (w14.setCells w.heap.size 0 [.slice x1 n1 d1,.int .i64 e8,.slice x2 n2 d2,.slice x3 n3 d3]):=Out.setCells w14 _ (Nat.le_refl _) (Nat.le_refl _)
   have hno:∀ i,i<4→∃ u,w14.cell? ⟨w.heap.size,i,none⟩=some u∧∀ z,u ≠ .int .u8 z:=fun i hi=>by
    have hr:=kr.range
    match i,hi with
    | 0,_=>exact ⟨_,by simpa using hr 0 _ rfl,fun z e=>by cases e⟩
    | 1,_=>exact ⟨_,by simpa using hr 1 _ rfl,fun z e=>by cases e⟩
    | 2,_=>exact ⟨_,by simpa using hr 2 _ rfl,fun z e=>by cases e⟩
    | 3,_=>exact ⟨_,by simpa using hr 3 _ rfl,fun z e=>by cases e⟩
   obtain ⟨a0,a1,a2,ea,f0,f1,f2⟩:=hC14
   exact bodyPost_ret (res_cT Tryz.results11 _ _ w.heap.size 0 [.slice x1 n1 d1,.int .i64 e8,.slice x2 n2 d2,.slice x3 n3 d3] _ rfl kz.range Tryz.underlying24 rfl (infoRx _ _ _ _)) rfl ⟨⟨_,rfl,a0,a1,a2,ea,f0.outV ho hno,f1.outV ho hno,f2.outV ho hno⟩,below_setCells (Nat.le_refl _) _ 0 _ hb⟩
 · rcases hk with h1 | ⟨rfl,h2⟩ | ⟨rfl,rfl,h4⟩ | ⟨rfl,rfl,rfl,rfl⟩
   · clear cm1 hC HKC
     go_wp2_with (first
      | (go_at_call 46;refine c9.mono ?_;clear c9;rintro e w13 ⟨rfl,hb13⟩;have kr3:=HKR.out.still hb13;have hb3:=below_next HHB.out hb13)
      | (refine stCxR (.tmp 2) (.tmp 43) rfl (g:=w.heap.size) rfl rfl kr3 zone ?_ rfl))
     have kz:=kr3.stored z4C rfl
     exact bodyPost_ret (res_cT Tryz.results11 _ _ w.heap.size 0 z4C _ rfl kz.range Tryz.underlying24 rfl (infoRx _ _ _ _)) rfl ⟨rfl,below_setCells (Nat.le_refl _) z4C 0 _ hb3⟩
   · have h2':¬(k1:Int)=65537:=by omega
     clear cm1 hC HKC
     go_wp2_with (first
      | (go_at_call 46;refine c9.mono ?_;clear c9;rintro e w13 ⟨rfl,hb13⟩;have kr3:=HKR.out.still hb13;have hb3:=below_next HHB.out hb13)
      | (refine stCxR (.tmp 2) (.tmp 43) rfl (g:=w.heap.size) rfl rfl kr3 zone ?_ rfl))
     have kz:=kr3.stored z4C rfl
     exact bodyPost_ret (res_cT Tryz.results11 _ _ w.heap.size 0 z4C _ rfl kz.range Tryz.underlying24 rfl (infoRx _ _ _ _)) rfl ⟨rfl,below_setCells (Nat.le_refl _) z4C 0 _ hb3⟩
   · have h4':¬(n4:Int)=0:=by omega
     clear cm1 hC HKC
     go_wp2_with (first
      | (go_at_call 46;refine c9.mono ?_;clear c9;rintro e w13 ⟨rfl,hb13⟩;have kr3:=HKR.out.still hb13;have hb3:=below_next HHB.out hb13)
      | (refine stCxR (.tmp 2) (.tmp 43) rfl (g:=w.heap.size) rfl rfl kr3 zone ?_ rfl))
     have kz:=kr3.stored z4C rfl
     exact bodyPost_ret (res_cT Tryz.results11 _ _ w.heap.size 0 z4C _ rfl kz.range Tryz.underlying24 rfl (infoRx _ _ _ _)) rfl ⟨rfl,below_setCells (Nat.le_refl _) z4C 0 _ hb3⟩
   · go_wp2_with (first
      | (go_at_call 46;refine c9.mono ?_;clear c9;rintro e w13 ⟨rfl,hb13⟩;have kc3:=HKC.out.still hb13;have kr3:=HKR.out.still hb13;have hb3:=below_next HHB.out hb13;have cm3:=cm1 w13 hb13;clear cm1 hC HKC HKR HHB)
      | (refine wpList_load_on (by rfl) 24 (.tmp 6) rfl c 0 rfl [.slice x1 n1 d1,.int .i64 e8,.slice x2 n2 d2,.slice x3 n3 d3] _ kc3.range Tryz.underlying24 rfl (infoRx _ _ _ _) ?_)
      | (go_at_call 37;refine cm3.mono ?_;clear cm3;rintro e w14 ⟨rfl,hb14⟩;have kr:=kr3.still hb14;have hb:=below_next hb3 hb14;clear kc3 kr3 hb3)
      | (refine stCxR (.tmp 2) (.tmp 43) rfl (g:=w.heap.size) rfl rfl kr zone ?_ rfl))
     have kz:=kr.stored z4C rfl
     exact bodyPost_ret (res_cT Tryz.results11 _ _ w.heap.size 0 z4C _ rfl kz.range Tryz.underlying24 rfl (infoRx _ _ _ _)) rfl ⟨rfl,below_setCells (Nat.le_refl _) z4C 0 _ hb⟩
end Go.Proofs.YtibmlmmoifgliaaGreatDoor
namespace Go.Proofs.YtibmlmmoifgliaaGreatDoor
open Go.RowKit
set_option maxRecDepth 20000 in
theorem sameCx_any (cs ds:List Value) (d:CxD) (hB:cxB d) (w:World) (h:CxIn w cs d) (h':CxIn w ds d) :
 Calls Tryz.prog 13 #[.agg cs.toArray,.agg ds.toArray] w fun e w'=>e = .returned (.bool true)∧Below w.heap.size w w':=by
 have b1:Below w.heap.size w (w.alloc (.cells cs.toArray 26)):=(Below.refl _ _).alloc (Nat.le_refl _) _
 have b2:=b1.alloc b1.size (.cells ds.toArray 24)
 have HB:=Hid.mk' b2
 have hh:=h.keep b2
 have hk:=h'.keep b2
 clear h h' b1 b2
 obtain ⟨gn,gB,E,tn,tB,rn,rB⟩:=d
 obtain ⟨B0,B1,B2⟩:=hB
 obtain ⟨v0,v1,v2,rfl,h0,h1,h2⟩:=hh
 obtain ⟨u0,u1,u2,rfl,k0,k1,k2⟩:=hk
 dsimp only at B0 B1 B2 h0 h1 h2 k0 k1 k2 HB ⊢
 have s0:=(h0.cs B0).conv _ (Below.refl _ _)
 have s1:=(h1.cs B1).conv _ (Below.refl _ _)
 have s2:=(h2.cs B2).conv _ (Below.refl _ _)
 have t0:=(k0.cs B0).conv _ (Below.refl _ _)
 have t1:=(k1.cs B1).conv _ (Below.refl _ _)
 have t2:=(k2.cs B2).conv _ (Below.refl _ _)
 obtain ⟨x0,n0,c0,rfl⟩:=h0.isSl
 obtain ⟨x1,n1,c1,rfl⟩:=h1.isSl
 obtain ⟨x2,n2,c2,rfl⟩:=h2.isSl
 obtain ⟨y0,m0,d0,rfl⟩:=k0.isSl
 obtain ⟨y1,m1,d1,rfl⟩:=k1.isSl
 obtain ⟨y2,m2,d2,rfl⟩:=k2.isSl
 clear h0 h1 h2 k0 k1 k2 B0 B1 B2
 generalize strB gn gB=S0 at s0 t0
 generalize strB tn tB=S1 at s1 t1
 generalize strB rn rB=S2 at s2 t2
 have e0:(S0.toList == S0.toList)=true:=beq_self_eq_true _
 have e1:(S1.toList == S1.toList)=true:=beq_self_eq_true _
 have e2:(S2.toList == S2.toList)=true:=beq_self_eq_true _
 go_enter Tryz.func13,Tryz.ntmps13
 go_wp2_with (first | rw [s0] | rw [t0] | rw [s1] | rw [t1] | rw [s2] | rw [t2])
 go_ret
 exact ⟨rfl,HB.out⟩
end Go.Proofs.YtibmlmmoifgliaaGreatDoor
namespace Go.Proofs.YtibmlmmoifgliaaGreatDoor
open Go.RowKit
theorem vecD_back {L:Nat} {B b:Nat→Nat} {a n:Nat} (lB:∀ j,B j<256) (hn:n≤65536) (hL:a+vcL n≤L) (h:∀ j,j<vcL n→B (a+j)=vcB n b j):vecD L B ⟨a,0⟩=(n,⟨a+vcL n,0⟩)∧(lenD L B ⟨a,0⟩).2.at_=a+lnS n∧∀ j,j<n→B (a+lnS n+j)=b j:=by
 unfold vcL at hL h ⊢
 have e1:lenD L B ⟨a,0⟩=(n,⟨a+lnS n,0⟩):=lenD_back lB (by omega) (by omega) (fun j hj=>by
  rw [h j (by omega)];unfold vcB;rw [cat_left hj])
 refine ⟨?_,by rw [e1],fun j hj => ?_⟩
 · unfold vecD
   rw [e1]
   dsimp only
   rw [if_neg (show ¬((0:Int)=0∧65536<n) by omega)]
   have e2:takD L (n:Int) ⟨a+lnS n,0⟩=(n,⟨a+lnS n+n,0⟩):=by
    unfold takD
    dsimp only
    rw [if_neg (fun e=>e rfl),if_neg (by omega),if_neg (by omega),Int.toNat_natCast]
   rw [e2,if_neg (fun e=>e rfl),Nat.add_assoc]
 · rw [Nat.add_assoc,h (lnS n+j) (by omega)]
   unfold vcB
   rw [cat_right]
theorem vecD_said {L:Nat} {B:Nat→Nat} {r:Rd} (lB:∀ j,B j<256) (hr:r.e=0) (hl:r.at_≤L) (h:(vecD L B r).2.e=0):(vecD L B r).1≤65536∧(vecD L B r).2.at_=r.at_+vcL (vecD L B r).1∧(vecD L B r).2.at_≤L∧∀ j,j<vcL (vecD L B r).1→B (r.at_+j)=vcB (vecD L B r).1 (fun j=>B ((lenD L B r).2.at_+j)) j:=by
 have hs:=lenD_said (L:=L) (r:=r) lB hr hl
 obtain ⟨p,hp⟩:∃ p,p=vecD L B r:=⟨_,rfl⟩
 rw [←hp] at h ⊢
 unfold vecD at hp
 obtain ⟨⟨n,s⟩,hq⟩:∃ q,q=lenD L B r:=⟨_,rfl⟩
 rw [←hq] at hp hs ⊢
 dsimp only at hp hs ⊢
 by_cases h1:s.e=0∧65536<n
 · rw [if_pos h1] at hp
   have e1:takD L (n:Int) ⟨s.at_,21⟩=(0,⟨s.at_,21⟩):=by unfold takD;exact if_pos (fun e=>by cases e)
   rw [e1,if_pos (show (21:Int)≠0 by decide)] at hp
   subst hp;cases h
 rw [if_neg h1] at hp
 by_cases he:s.e≠0
 · have e1:takD L (n:Int) s=(0,s):=by unfold takD;exact if_pos he
   rw [e1,if_pos he] at hp
   subst hp;exact absurd h he
 replace he:s.e=0:=Decidable.not_not.mp he
 obtain ⟨g1,g2,g3,g4⟩:=hs he
 have hn:n≤65536:=by omega
 by_cases h2:(L:Int) - (s.at_:Int)<(n:Int)
 · have e1:takD L (n:Int) s=(0,⟨s.at_,20⟩):=by
    unfold takD;rw [if_neg (fun e=>e he),if_neg (by omega),if_pos h2]
   rw [e1,if_pos (show (20:Int)≠0 by decide)] at hp
   subst hp;cases h
 have e1:takD L (n:Int) s=(n,⟨s.at_+n,0⟩):=by
  unfold takD;rw [if_neg (fun e=>e he),if_neg (by omega),if_neg h2,Int.toNat_natCast]
 rw [e1,if_neg (fun e=>e rfl)] at hp
 subst hp
 dsimp only
 refine ⟨hn,by unfold vcL;omega,by omega,fun j hj => ?_⟩
 unfold vcB
 by_cases hj':j<lnS n
 · rw [cat_left hj',g4 j hj']
 · unfold cat
   rw [if_neg hj',g2]
   show B (r.at_+j)=B (r.at_+lnS n+(j - lnS n))
   rw [show r.at_+lnS n+(j - lnS n)=r.at_+j by omega]
theorem numD_back {L:Nat} {B:Nat→Nat} {a n s:Nat} (hs:s=1∨s=2∨s=4∨s=8) (hn:n<mstN s) (hL:a+s≤L) (h:∀ j,j<s→B (a+j)=beN n s j):numD L B (s:Int) ⟨a,0⟩=(n,⟨a+s,0⟩):=by
 have hm:mstN s≤2 ^ (8*s):=by rcases hs with rfl | rfl | rfl | rfl <;> decide
 have hN:=nbN_be h (Nat.lt_of_lt_of_le hn hm) s (Nat.le_refl _)
 rw [Nat.sub_self,Nat.mul_zero,Nat.pow_zero,Nat.div_one] at hN
 have hz:szB (s:Int)=true:=by rcases hs with rfl | rfl | rfl | rfl <;> rfl
 unfold numD
 dsimp only
 rw [if_neg (fun e=>e rfl),if_neg (by rw [hz];decide),if_neg (by omega),if_neg ?_,Int.toNat_natCast,hN]
 rintro ⟨e8,hB⟩
 obtain rfl:s=8:=by omega
 have h0:=h 0 (by decide)
 rw [Nat.add_zero] at h0
 rw [h0] at hB
 unfold beN at hB
 have hn':n<4611686018427387904:=hn
 have:n / 2 ^ (8*(8 - 1 - 0))%256<64:=by
  show n / 72057594037927936%256<64
  omega
 omega
end Go.Proofs.YtibmlmmoifgliaaGreatDoor
