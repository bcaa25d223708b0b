/- What the proof stands on: V6P, V6R, V6S. -/
import Derived.Test.YtibmlmmoifgliaaGreatDoorHRefSumM
import Derived.Test.YtibmlmmoifgliaaGreatDoorL5DM
import Derived.Test.YtibmlmmoifgliaaGreatDoorV6CM
import Derived.Test.YtibmlmmoifgliaaGreatDoorV6FM
namespace Go.Proofs.YtibmlmmoifgliaaGreatDoor
open Go.RowKit
theorem copied16_any (v:Value) (n:Nat) (b:Nat→Nat) (hn:n<140737488355000) (w:World) (hv:BytesIn w v n b):Calls Tryz.prog 32 #[v] w fun e w'=>∃ x c,e = .returned (.slice x n c)∧BytesIn w' (.slice x n c) n b∧Below w.heap.size w w':=by
 obtain ⟨x1,c1,rfl,hxn,-,hsrc⟩:=hv.src
 have hsu:=hsrc _ ((Below.refl w.heap.size w).alloc (Nat.le_refl _) (.cells #[] 5))
 clear hv hsrc
 go_enter Tryz.func32,Tryz.ntmps32
 go_wp2_with (at_builtin;refine wpList_append_empty rfl (.tmp 3) (.tmp 4) rfl w.heap.size b w.heap.size rfl rfl x1 n c1 rfl hsu hxn (by omega) (Nat.le_refl _) ?_;intro v3 w3 own3 hb3;(obtain ⟨y3,d3,e3⟩:=own3.slice);subst e3)
 go_ret
 exact ⟨_,_,rfl,own3.bytesIn,hb3⟩
theorem lawCx_any (cs:List Value) (d:CxD) (hl:d.gn<140737488355000∧d.tn<140737488355000∧d.rn<140737488355000) (w:World) (h:CxIn w cs d) :
 Calls Tryz.prog 7 #[.agg cs.toArray] w fun e w'=>∃ ds:List Value,e = .returned (.agg ds.toArray)∧CxIn w' ds d∧Below w.heap.size w w':=by
 obtain ⟨v0,v1,v2,rfl,h0,h1,h2⟩:=h
 obtain ⟨gn,gB,E,tn,tB,rn,rB⟩:=d
 obtain ⟨l0,l1,l2⟩:=hl
 dsimp only at l0 l1 l2 h0 h1 h2 ⊢
 obtain ⟨x0,c0,rfl,-⟩:=h0.src
 obtain ⟨x1,c1,rfl,-⟩:=h1.src
 obtain ⟨x2,c2,rfl,-⟩:=h2.src
 have b1:Below w.heap.size w (w.alloc (.cells #[.slice x0 gn c0,.int .i64 E,.slice x1 tn c1,.slice x2 rn c2] 24)):=(Below.refl _ _).alloc (Nat.le_refl _) _
 have k1:=RW.fresh w [.slice x0 gn c0,.int .i64 E,.slice x1 tn c1,.slice x2 rn c2] 24
 have b2:Below (w.alloc (.cells #[.slice x0 gn c0,.int .i64 E,.slice x1 tn c1,.slice x2 rn c2] 24)).heap.size _ ((w.alloc (.cells #[.slice x0 gn c0,.int .i64 E,.slice x1 tn c1,.slice x2 rn c2] 24)).alloc (.cells z4C.toArray 26)):=(Below.refl _ _).alloc (Nat.le_refl _) _
 have kz:=RW.fresh (w.alloc (.cells #[.slice x0 gn c0,.int .i64 E,.slice x1 tn c1,.slice x2 rn c2] 24)) z4C 26
 rw [World.size_alloc] at kz
 have k:=k1.still b2
 have hw:=below_next b1 b2
 replace h0:=h0.keep hw
 replace h1:=h1.keep hw
 replace h2:=h2.keep hw
 clear b1 b2 k1
 go_enter Tryz.func7,Tryz.ntmps7
 go_upto_region 1 with (rw [zCx])
 generalize (w.alloc (.cells #[.slice x0 gn c0,.int .i64 E,.slice x1 tn c1,.slice x2 rn c2] 24)).alloc (.cells z4C.toArray 26)=W0 at *
 have hdr:Below W0.heap.size W0 W0.drew:=(Below.refl _ _).drew
 replace k:=k.still hdr
 replace kz:=kz.still hdr
 replace h0:=h0.keep hdr
 replace h1:=h1.keep hdr
 replace h2:=h2.keep hdr
 replace hw:=below_next hw hdr
 clear hdr
 refine wp_last 12 (S:=fun u=>Below W0.drew.heap.size W0.drew u) (by kernel_rfl) (by kernel_rfl) (by kernel_rfl) (by kernel_rfl) (Below.refl _ _) (fun hS => ?_)
 generalize W0.drew=V at *
 refine tg 0 hS ?_
 (try simp only [pS])
 refine tc 1 hS (fun u hu=>by simpa using (k.still hu).range 0 _ rfl) ?_
 (try simp only [pS])
 refine tg 3 hS ?_
 (try simp only [pS])
 refine tc 4 hS (fun u hu=>by simpa using (k.still hu).range 1 _ rfl) ?_
 (try simp only [pS])
 refine tg 5 hS ?_
 (try simp only [pS])
 refine tc 6 hS (fun u hu=>by simpa using (k.still hu).range 2 _ rfl) ?_
 (try simp only [pS])
 refine tg 8 hS ?_
 (try simp only [pS])
 refine tc 9 hS (fun u hu=>by simpa using (k.still hu).range 3 _ rfl) ?_
 (try simp only [pS])
 refine cn 2 (copied16_any (.slice x0 gn c0) gn gB l0 V h0) ?_
 rintro e u1 ⟨y0,m0,rfl,Y0,hb⟩
 refine ⟨_,rfl,hb,?_⟩
 replace k:=k.still hb
 replace kz:=kz.still hb
 replace h0:=h0.keep hb
 replace h1:=h1.keep hb
 replace h2:=h2.keep hb
 replace hw:=below_next hw hb
 clear hS hb
 have hS:=Below.refl u1.heap.size u1
 (try simp only [pS])
 refine cn 7 (copied16_any (.slice x1 tn c1) tn tB l1 u1 h1) ?_
 rintro e u2 ⟨y1,m1,rfl,Y1,hb⟩
 refine ⟨_,rfl,hb,?_⟩
 replace k:=k.still hb
 replace kz:=kz.still hb
 replace h0:=h0.keep hb
 replace h1:=h1.keep hb
 replace h2:=h2.keep hb
 replace Y0:=Y0.keep hb
 replace hw:=below_next hw hb
 clear hS hb
 have hS:=Below.refl u2.heap.size u2
 (try simp only [pS])
 refine cn 10 (copied16_any (.slice x2 rn c2) rn rB l2 u2 h2) ?_
 rintro e u3 ⟨y2,m2,rfl,Y2,hb⟩
 refine ⟨_,rfl,hb,?_⟩
 replace k:=k.still hb
 replace kz:=kz.still hb
 replace h0:=h0.keep hb
 replace h1:=h1.keep hb
 replace h2:=h2.keep hb
 replace Y0:=Y0.keep hb
 replace Y1:=Y1.keep hb
 replace hw:=below_next hw hb
 clear hS hb
 have hS:=Below.refl u3.heap.size u3
 (try simp only [pS])
 refine tg 11 hS ?_
 (try simp only [pS])
 refine wpAnyH_done (by kernel_rfl) ?_ _
 refine lastRow 12 26 2 14 [.slice y0 gn m0,.int .i64 E,.slice y1 tn m1,.slice y2 rn m2] kz rfl (infoCx _ _ _ _) (one4 ⟨_,_,_,rfl⟩ ⟨_,_,_,rfl⟩ ⟨_,_,_,rfl⟩) (fun rz => ?_)
 refine NoPanic.normal ?_
 go_wp2
 have ho:Out (w.heap.size+1) 0 4 u3 (u3.setCells (w.heap.size+1) 0 [.slice y0 gn m0,.int .i64 E,.slice y1 tn m1,.slice y2 rn m2]):=Out.setCells u3 _ (Nat.le_refl _) (Nat.le_refl _)
 have hno:∀ i,i<4→∃ u,u3.cell? ⟨w.heap.size+1,i,none⟩=some u∧∀ z,u ≠ .int .u8 z:=fun i hi=>by
  have hr:=kz.range
  match i,hi with
  | 0,_=>exact ⟨_,by simpa using hr 0 _ rfl,fun z e=>by cases e⟩
  | 1,_=>exact ⟨_,by simpa using hr 1 _ rfl,fun z e=>by cases e⟩
  | 2,_=>exact ⟨_,by simpa using hr 2 _ rfl,fun z e=>by cases e⟩
  | 3,_=>exact ⟨_,by simpa using hr 3 _ rfl,fun z e=>by cases e⟩
 exact bodyPost_ret (results_cell_mid Tryz.results7 _ _ (w.heap.size+1) 0 [.slice y0 gn m0,.int .i64 E,.slice y1 tn m1,.slice y2 rn m2] _ rfl rz.range Tryz.underlying26 rfl (infoCx _ _ _ _)) rfl ⟨_,rfl,⟨_,_,_,rfl,Y0.outV ho hno,Y1.outV ho hno,Y2.outV ho hno⟩,below_setCells (Nat.le_succ _) _ 0 _ hw⟩
end Go.Proofs.YtibmlmmoifgliaaGreatDoor
namespace Go.Proofs.YtibmlmmoifgliaaGreatDoor
open Go.RowKit
theorem rRight_any (cs:List Value) (d:CxD) (w:World) (h:CxIn w cs d) :
 Calls Tryz.prog 37 #[.agg cs.toArray] w fun e w'=>e = .returned (.bool (cxOk d))∧Below w.heap.size w w':=by
 obtain ⟨v0,v1,v2,rfl,h0,h1,h2⟩:=h
 obtain ⟨x0,c0,rfl,-,-,-⟩:=h0.src
 obtain ⟨x1,c1,rfl,-,-,-⟩:=h1.src
 obtain ⟨x2,c2,rfl,-,-,-⟩:=h2.src
 clear h0 h1 h2
 obtain ⟨gn,g,e,tn,t,rn,r⟩:=d
 dsimp only
 have b1:Below w.heap.size w (w.alloc (.cells #[.slice x0 gn c0,.int .i64 e,.slice x1 tn c1,.slice x2 rn c2] 24)):=(Below.refl _ _).alloc (Nat.le_refl _) _
 have HB:=Hid.mk' b1
 clear b1
 obtain ⟨R,hR⟩:∃ R,R=cxOk ⟨gn,g,e,tn,t,rn,r⟩:=⟨_,rfl⟩
 rw [←hR]
 have HR:Hid (R=((decide (gn≤255) && decide (tn≤255) && decide (rn≤255)) && (decide (0≤e) && decide (e<4294967296)))):=hR
 clear hR
 have key:(R=true∧(gn:Int)≤255∧0≤e∧e<4294967296∧(tn:Int)≤255∧(rn:Int)≤255)∨(R=false∧(¬(gn:Int)≤255∨((gn:Int)≤255∧¬0≤e)∨((gn:Int)≤255∧0≤e∧¬e<4294967296)∨((gn:Int)≤255∧0≤e∧e<4294967296∧¬(tn:Int)≤255)∨((gn:Int)≤255∧0≤e∧e<4294967296∧(tn:Int)≤255∧¬(rn:Int)≤255))):=by
  rw [HR.out]
  simp only [Bool.and_eq_true,Bool.and_eq_false_iff,decide_eq_true_eq,decide_eq_false_iff_not]
  omega
 clear HR
 rcases key with ⟨rfl,a1,a2,a3,a4,a5⟩ | ⟨rfl,a1 | ⟨a1,a2⟩ | ⟨a1,a2,a3⟩ | ⟨a1,a2,a3,a4⟩ | ⟨a1,a2,a3,a4,a5⟩⟩
 all_goals
  go_enter Tryz.func37,Tryz.ntmps37
  go_wp2
  go_ret
  exact ⟨rfl,HB.out⟩
theorem infoRx (v0 v1 v2 v3:Value):(Tryz.prog.info? 24).map (·.size)=some [v0,v1,v2,v3].length:=by kernel_rfl
theorem catA (a b:Nat) (A B C:Nat→Nat):cat (a+b) (cat a A B) C=cat a A (cat b B C):=by
 funext j
 unfold cat
 by_cases h1:j<a
 · rw [if_pos (by omega),if_pos h1,if_pos h1]
 · by_cases h2:j<a+b
   · rw [if_pos h2,if_neg h1,if_neg h1,if_pos (by omega)]
   · rw [if_neg h2,if_neg h1,if_neg (by omega),show j - (a+b)=j - a - b by omega]
theorem rJ1_any (g:Nat) (v:Value) (n:Nat) (b:Nat→Nat) (hn:n≤65536) (lb:∀ j,b j<256) (w:World) (r:RW w g 0 [v]) (hv:BytesIn w v n b):Calls Tryz.prog 64 #[.slice (some ⟨g,0,none⟩) 1 1] w fun e w'=>∃ s,e = .returned s∧Own w.heap.size w' s (vcL n) (vcB n b)∧Below w.heap.size w w' :=
 (rJoin_any (some ⟨g,0,none⟩) 1 1 _ (fun _=>n) (fun _=>b) (fun _ _=>hn) (by decide) (by show 0+n≤_;omega) w (pieces_rw [v] _ _ r rfl (fun i u hu=>by
   match i,hu with
   | 0,hu=>cases hu;exact hv
   | i+1,hu=>simp at hu) (fun _=>lb))).mono fun e w' ⟨s,h1,h2,h3⟩=>⟨s,h1,by
    rw [vs1L,vs1B] at h2
    exact h2,h3⟩
theorem rJ3_any (g:Nat) (u v x:Value) (a b c:Nat) (A B C:Nat→Nat) (ha:a≤65536) (hb:b≤65536) (hc:c≤65536) (lA:∀ j,A j<256) (lB:∀ j,B j<256) (lC:∀ j,C j<256) (w:World) (r:RW w g 0 [u,v,x]) (h1:BytesIn w u a A) (h2:BytesIn w v b B) (h3:BytesIn w x c C):Calls Tryz.prog 64 #[.slice (some ⟨g,0,none⟩) 3 3] w fun e w'=>∃ s,e = .returned s∧Own w.heap.size w' s (t3L a b c) (t3B a A b B c C)∧Below w.heap.size w w' :=
 rJoin_any (some ⟨g,0,none⟩) 3 3 _ (thr a b c) (thr A B C) (fun i hi=>by
  match i,hi with
  | 0,_=>exact ha
  | 1,_=>exact hb
  | 2,_=>exact hc
  | i+3,hi=>omega) (by decide) (by show 0+a+b+c≤_;omega) w (pieces_rw [u,v,x] _ _ r rfl (fun i y hy=>by
  match i,hy with
  | 0,hy=>cases hy;exact h1
  | 1,hy=>cases hy;exact h2
  | 2,hy=>cases hy;exact h3
  | i+3,hy=>simp at hy) (thr_lt lA lB lC))
theorem own_lit4 (base:Nat) (w:World) (h:base≤w.heap.size):Own base (w.alloc (.cells #[.int .u8 0,.int .u8 1,.int .u8 0,.int .u8 1] 5)) (.slice (some ⟨w.heap.size,0,none⟩) 4 4) 4 (litB [0,1,0,1]) :=
 World.ownsRow_lit w #[.int .u8 0,.int .u8 1,.int .u8 0,.int .u8 1] 4 h (by decide) rfl
theorem cxT_left (d:CxD) (j:Nat) (hj:j<cxL d):cat (4+vcL d.gn+8) (cat (4+vcL d.gn) (cat 4 (litB [0,1,0,1]) (vcB d.gn d.g)) (beN d.e.toNat 8)) (t3B d.tn d.t d.rn d.r 0 lZ) j=cxT d j:=by
 rw [catA,catA]
 have e:cxL d=4+(vcL d.gn+(8+(t3L d.tn d.rn 0+0))):=rfl
 show _=cat 4 (litB [0,1,0,1]) (cat (vcL d.gn) (vcB d.gn d.g) (cat 8 (beN d.e.toNat 8) (cat (t3L d.tn d.rn 0) (t3B d.tn d.t d.rn d.r 0 lZ) (fun _=>0)))) j
 unfold cat
 split
 · rfl
 · split
   · rfl
   · split
     · rfl
     · rw [if_pos (by omega)]
theorem cxL_left (d:CxD):4+vcL d.gn+8+t3L d.tn d.rn 0=cxL d:=by
 have e:cxL d=4+(vcL d.gn+(8+(t3L d.tn d.rn 0+0))):=rfl
 omega
set_option maxRecDepth 20000 in
set_option maxHeartbeats 4000000 in
theorem rBytes16_any (cs:List Value) (d:CxD) (hB:cxB d) (ok:cxOk d=true) (w:World) (h:CxIn w cs d) :
 Calls Tryz.prog 38 #[.agg cs.toArray] w fun e w'=>∃ s,e = .returned s∧Own w.heap.size w' s (cxL d) (cxT d)∧Below w.heap.size w w':=by
 obtain ⟨l1,l2,l3,e0,e1⟩:=cxOk_le ok
 have hle:=cxL_le ok
 have hT:=cxT_left d
 have hL:=cxL_left d
 obtain ⟨CT,hCT⟩:∃ X,X=cxT d:=⟨_,rfl⟩
 obtain ⟨CL,hCL⟩:∃ X,X=cxL d:=⟨_,rfl⟩
 rw [←hCT,←hCL] at hT
 rw [←hCL] at hL hle
 rw [←hCT,←hCL]
 clear hCT hCL ok
 obtain ⟨v0,v1,v2,rfl,h0,h1,h2⟩:=h
 obtain ⟨gn,gB,e,tn,tB,rn,rB⟩:=d
 dsimp only at hT hL l1 l2 l3 e0 e1 h0 h1 h2 ⊢
 obtain ⟨E,rfl⟩:∃ E:Nat,e=(E:Int):=⟨e.toNat,by omega⟩
 rw [Int.toNat_natCast] at hT
 clear e0 e1
 obtain ⟨hBg,hBt,hBr⟩:=hB
 dsimp only at hBg hBt hBr
 obtain ⟨x0,c0,rfl,-,-,-⟩:=h0.src
 obtain ⟨x1,c1,rfl,-,-,-⟩:=h1.src
 obtain ⟨x2,c2,rfl,-,-,-⟩:=h2.src
 have b1:Below w.heap.size w (w.alloc (.cells #[.slice x0 gn c0,.int .i64 E,.slice x1 tn c1,.slice x2 rn c2] 24)):=(Below.refl _ _).alloc (Nat.le_refl _) _
 have k1:=RW.fresh w [.slice x0 gn c0,.int .i64 E,.slice x1 tn c1,.slice x2 rn c2] 24
 have n8:=fun (W:World)=>rbytes11_any E 8 (by decide) W
 have cv1:=fun (W:World) (g:Nat) (hb:Below w.heap.size w W) (r:RW W g 0 [.slice x0 gn c0])=>rJ1_any g (.slice x0 gn c0) gn gB (by omega) hBg W r (h0.keep hb)
 have cv3:=fun (W:World) (g:Nat) (hb:Below w.heap.size w W) (r:RW W g 0 [.slice x1 tn c1,.slice x2 rn c2,.slice none 0 0])=>rJ3_any g (.slice x1 tn c1) (.slice x2 rn c2) (.slice none 0 0) tn rn 0 tB rB lZ (by omega) (by omega) (by decide) hBt hBr (fun _=>by show 0<256;decide) W r (h1.keep hb) (h2.keep hb) (.inl ⟨none,rfl,rfl⟩)
 obtain ⟨T1,hT1⟩:∃ T,T=vcL gn:=⟨_,rfl⟩
 obtain ⟨F1,hF1⟩:∃ F,F=vcB gn gB:=⟨_,rfl⟩
 obtain ⟨T3,hT3⟩:∃ T,T=t3L tn rn 0:=⟨_,rfl⟩
 obtain ⟨F3,hF3⟩:∃ F,F=t3B tn tB rn rB 0 lZ:=⟨_,rfl⟩
 obtain ⟨F8,hF8⟩:∃ F,F=beN E 8:=⟨_,rfl⟩
 rw [←hT1,←hF1] at cv1
 rw [←hT3,←hF3] at cv3
 rw [←hF8] at n8
 rw [←hT1,←hF1,←hF8,←hF3] at hT
 rw [←hT1,←hT3] at hL
 have s1:4+T1≤140737488355328:=by omega
 have s2:4+T1+8≤140737488355328:=by omega
 have s3:4+T1+8+T3≤140737488355328:=by omega
 have HT:=Hid.mk' hT
 have HL:=Hid.mk' hL
 clear hT1 hF1 hT3 hF3 hF8 l1 l2 l3 hle hT hL hBg hBt hBr
 go_enter Tryz.func38,Tryz.ntmps38
 go_upto_region 1 with (fail)
 generalize w.alloc (.cells #[.slice x0 gn c0,.int .i64 E,.slice x1 tn c1,.slice x2 rn c2] 24)=W0 at *
 have o1:=own_lit4 W0.heap.size W0 (Nat.le_refl _)
 have b2:Below W0.heap.size W0 (W0.alloc (.cells #[.int .u8 0,.int .u8 1,.int .u8 0,.int .u8 1] 5)):=(Below.refl _ _).alloc (Nat.le_refl _) _
 have r3:=RW.fresh (W0.alloc (.cells #[.int .u8 0,.int .u8 1,.int .u8 0,.int .u8 1] 5)) [.slice x0 gn c0] 22
 have b3:=b2.alloc b2.size (.cells #[.slice x0 gn c0] 22)
 have o3:=o1.below ((Below.refl _ _).alloc (Nat.le_refl _) (.cells #[.slice x0 gn c0] 22))
 rw [World.size_alloc] at r3
 have C1:=cv1 _ _ (below_next b1 b3) r3
 have HO:=Hid.mk' o3
 have HK:=Hid.mk' k1
 have HB:=Hid.mk' b3
 have H1:=Hid.mk' b1
 have hc0:W0.cell? ⟨w.heap.size,0,none⟩=some (.slice x0 gn c0):=by simpa using k1.range 0 _ rfl
 have hlt0:w.heap.size<W0.heap.size:=k1.lt
 clear o1 b2 r3 b3 o3 cv1 k1 b1
 go_wp2_with (first
  | (go_at_call 64;refine C1.mono ?_;clear C1;rintro e w4 ⟨v4,rfl,ow4,hb4⟩;(obtain ⟨x4,d4,e4⟩:=ow4.slice);subst e4;have o4:=HO.out.below hb4;have b4:=below_next HB.out hb4;(obtain ⟨y4,z4,ey4,hxn4,-,src4⟩:=ow4.bytesIn.src);(obtain ⟨rfl,rfl⟩:x4=y4∧d4=z4:=(by injection ey4 with h1 h2 h3;exact ⟨h1,h3⟩));have r4:=src4 w4 (Below.refl _ _);have z4':=b4.size;clear src4 ey4 ow4 HO HB hc0)
  | (at_builtin;refine wpList_append_bytes rfl (.tmp 4) (.tmp 8) rfl W0.heap.size _ 4 _ rfl o4 x4 T1 d4 F1 rfl r4 hxn4 s1 z4' ?_;intro v5 w5 o5 g5;have b5:=Own.grown b4 g5 o4 (Nat.le_refl _) z4';have k5:=HK.out.still b5;have hc1:w5.cell? ⟨w.heap.size,1,none⟩=some (.int .i64 E):=(by simpa using k5.range 1 _ rfl);(obtain ⟨y5,d5,e5⟩:=o5.slice);subst e5;clear o4 b4 r4 z4' k5)
  | (go_at_call 68;refine (n8 w5).mono ?_;clear n8;rintro e w6 ⟨v6,rfl,ow6,hb6⟩;(obtain ⟨x6,d6,e6⟩:=ow6.slice);subst e6;have o6:=o5.below hb6;have b6:=below_next b5 hb6;(obtain ⟨y6,z6,ey6,hxn6,-,src6⟩:=ow6.bytesIn.src);(obtain ⟨rfl,rfl⟩:x6=y6∧d6=z6:=(by injection ey6 with h1 h2 h3;exact ⟨h1,h3⟩));have r6:=src6 w6 (Below.refl _ _);have z6':=b6.size;clear src6 ey6 ow6 hc1 o5 b5)
  | (at_builtin;refine wpList_append_bytes rfl (.tmp 10) (.tmp 13) rfl W0.heap.size _ _ _ rfl o6 x6 8 d6 F8 rfl r6 hxn6 s2 z6' ?_;intro v7 w7 o7 g7;have b7:=Own.grown b6 g7 o6 (Nat.le_refl _) z6';have k7:=HK.out.still b7;have hc2:w7.cell? ⟨w.heap.size,2,none⟩=some (.slice x1 tn c1):=(by simpa using k7.range 2 _ rfl);have hc3:w7.cell? ⟨w.heap.size,3,none⟩=some (.slice x2 rn c2):=(by simpa using k7.range 3 _ rfl);(obtain ⟨y7,d7,e7⟩:=o7.slice);subst e7;have r8:=RW.fresh w7 [.slice x1 tn c1,.slice x2 rn c2,.slice none 0 0] 22;have b8:=b7.alloc b7.size (.cells #[.slice x1 tn c1,.slice x2 rn c2,.slice none 0 0] 22);have C3:=cv3 _ _ (below_next H1.out b8) r8;have O8:=Hid.mk' (o7.alloc (.cells #[.slice x1 tn c1,.slice x2 rn c2,.slice none 0 0] 22));have B8:=Hid.mk' b8;clear o6 b6 r6 z6' k7 r8 b8 o7 b7 cv3)
  | (go_at_call 64;refine C3.mono ?_;clear C3;rintro e w9 ⟨v9,rfl,ow9,hb9⟩;(obtain ⟨x9,d9,e9⟩:=ow9.slice);subst e9;have o9:=O8.out.below hb9;have b9:=below_next B8.out hb9;(obtain ⟨y9,z9,ey9,hxn9,-,src9⟩:=ow9.bytesIn.src);(obtain ⟨rfl,rfl⟩:x9=y9∧d9=z9:=(by injection ey9 with h1 h2 h3;exact ⟨h1,h3⟩));have r9:=src9 w9 (Below.refl _ _);have z9':=b9.size;clear src9 ey9 ow9 O8 B8 hc2 hc3)
  | (at_builtin;refine wpList_append_bytes rfl (.tmp 15) (.tmp 21) rfl W0.heap.size _ _ _ rfl o9 x9 T3 d9 F3 rfl r9 hxn9 s3 z9' ?_;intro v10 w10 o10 g10;have b10:=Own.grown b9 g10 o9 (Nat.le_refl _) z9';(obtain ⟨y10,d10,e10⟩:=o10.slice);subst e10))
 go_ret
 refine ⟨_,rfl,?_,below_next H1.out b10⟩
 have o:=o10.lower H1.out.size
 rw [HL.out] at o
 rw [HL.out]
 exact o.congr HT.out
end Go.Proofs.YtibmlmmoifgliaaGreatDoor
namespace Go.Proofs.YtibmlmmoifgliaaGreatDoor
open Go.RowKit
theorem rXt_any (v tv:Value) (n m:Nat) (bs t:Nat→Nat) (hbs:∀ j,bs j<256) (ht:∀ j,t j<256) (hnb:n<140737488354000) (hm:m<140737488354000) (w:World) (hv:BytesIn w v n bs) (htv:BytesIn w tv m t) :
 Calls Tryz.prog 51 #[v,tv] w fun e w'=>∃ x c,e = .returned (.slice x 32 c)∧BytesIn w' (.slice x 32 c) 32 (xtN n bs m t)∧Below w.heap.size w w' :=
 (rExtract_any v tv n m bs t hbs ht (by omega) (by omega) w hv htv).mono fun _ _ ⟨u,h1,h2,h3⟩=>by
  obtain ⟨x,c,rfl⟩:=h2.slice
  exact ⟨x,c,h1,h2.bytesIn,h3⟩
theorem rHm_any (v tv:Value) (n m:Nat) (bs t:Nat→Nat) (hbs:∀ j,bs j<256) (ht:∀ j,t j<256) (hnb:n<140737488354000) (hm:m<140737488354000) (w:World) (hv:BytesIn w v n bs) (htv:BytesIn w tv m t) :
 Calls Tryz.prog 63 #[v,tv] w fun e w'=>∃ x c,e = .returned (.slice x 32 c)∧BytesIn w' (.slice x 32 c) 32 (xtN n bs m t)∧Below w.heap.size w w' :=
 (rHmac_any v tv n m bs t hbs ht (by omega) (by omega) w hv htv).mono fun _ _ ⟨u,h1,h2,h3⟩=>by
  obtain ⟨x,c,rfl⟩:=h2.slice
  exact ⟨x,c,h1,h2.bytesIn,h3⟩
theorem rSm_any (v:Value) (n:Nat) (b:Nat→Nat) (lb:∀ j,b j<256) (hn:n<140737488355000) (w:World) (hv:BytesIn w v n b) :
 Calls Tryz.prog 61 #[v] w fun e w'=>∃ x c,e = .returned (.slice x 32 c)∧BytesIn w' (.slice x 32 c) 32 (smN n b)∧Below w.heap.size w w' :=
 (rSum256_any v n b lb w hv hn).mono fun _ _ ⟨u,h1,h2,h3⟩=>by
  obtain ⟨x,c,rfl⟩:=h2.slice
  exact ⟨x,c,h1,h2.bytesIn,h3⟩
theorem rJoiner_good (u v:Value) (n m:Nat) (a b:Nat→Nat) (la:∀ j,a j<256) (lb:∀ j,b j<256) (hn:n<140737488354000) (hm:m<140737488354000) (cs:List Value) (d:CxD) (hB:cxB d) (ok:cxOk d=true) (w:World) (hu:BytesIn w u n a) (hv:BytesIn w v m b) (hc:CxIn w cs d) :
 Calls Tryz.prog 17 #[u,v,.agg cs.toArray] w fun e w'=>∃ x c,e = .returned (.tuple #[.slice x 32 c,.int .i64 0])∧BytesIn w' (.slice x 32 c) 32 (exN 32 (xtN n a m b) lJoi (cxL d) (cxT d) 32)∧Below w.heap.size w w':=by
 have hr:=fun (W:World) (hb:Below w.heap.size w W)=>rRight_any cs d W (hc.keep hb)
 have h1:=fun (W:World) (hb:Below w.heap.size w W)=>rXt_any u v n m a b la lb hn hm W (hu.keep hb) (hv.keep hb)
 have hy:=fun (W:World) (hb:Below w.heap.size w W)=>rBytes16_any cs d hB ok W (hc.keep hb)
 have hx:=fun (W:World) (x y:Value) (hx:BytesIn W x 32 (xtN n a m b)) (hy:BytesIn W y (cxL d) (cxT d))=>rExpand_good5 lJoi (by decide) (by decide) x y 32 (cxL d) (xtN n a m b) (cxT d) (xtN_lt _ _ _ _) (cxT_lt hB) (by decide) (cxD_long d ok) 32 (by decide) W hx hy
 replace hx:∀ (W:World) (x y:Value),BytesIn W x 32 (xtN n a m b)→BytesIn W y (cxL d) (cxT d)→Calls Tryz.prog 50 #[x,.string { data:=#[106,111,105,110,101,114] },y,.int .i64 32] W _:=hx
 rw [ok] at hr
 obtain ⟨CL,hCL⟩:∃ X,X=cxL d:=⟨_,rfl⟩
 obtain ⟨CT,hCT⟩:∃ X,X=cxT d:=⟨_,rfl⟩
 obtain ⟨X,hX⟩:∃ X,X=xtN n a m b:=⟨_,rfl⟩
 obtain ⟨E,hE⟩:∃ E,E=exN 32 X lJoi CL CT 32:=⟨_,rfl⟩
 rw [←hCL,←hCT] at hy hx ⊢
 rw [←hX] at h1 hx ⊢
 rw [←hE] at hx ⊢
 obtain ⟨v0,v1,v2,rfl,g0,g1,g2⟩:=hc
 obtain ⟨N,hN⟩:∃ N,N=d.e:=⟨_,rfl⟩
 rw [←hN] at hr hy ⊢
 obtain ⟨x0,c0,rfl,-⟩:=hu.src
 obtain ⟨x1,c1,rfl,-⟩:=hv.src
 clear hN g0 g1 g2 ok hX hE hCL hCT hB la lb hn hm hu hv
 have b1:Below w.heap.size w (w.alloc (.cells #[v0,.int .i64 N,v1,v2] 24)):=(Below.refl _ _).alloc (Nat.le_refl _) _
 have k1:=RW.fresh w [v0,.int .i64 N,v1,v2] 24
 replace hr:=hr _ b1
 have HK:=Hid.mk' k1
 have HB:=Hid.mk' b1
 clear k1 b1
 go_enter Tryz.func17,Tryz.ntmps17
 go_upto_region 3 with (go_at_call 37;refine hr.mono ?_;clear hr;rintro e w1 ⟨rfl,hb1⟩;have b2:=below_next HB.out hb1;have k3:=HK.out.still hb1;clear HK HB hb1)
 have hd:Below w1.heap.size w1 w1.drew:=(Below.refl _ _).drew
 replace b2:=below_next b2 hd
 replace k3:=k3.still hd
 clear hd
 refine wp_region_noPanic ?_
 refine wp_region_held_drew (S:=fun u=>Below w1.drew.heap.size w1.drew u) (by kernel_rfl) (Below.refl _ _) (fun hS => ?_)
 generalize w1.drew=V at *
 refine tg 0 hS ?_
 (try simp only [pS])
 refine tg 1 hS ?_
 (try simp only [pS])
 refine tl 3 k3 hS 24 Tryz.underlying24 (infoRx _ _ _ _) ?_
 (try simp only [pS])
 refine cn 2 (h1 V b2) ?_
 rintro e w3 ⟨x3,c3,rfl,X3,hb3⟩
 refine ⟨_,rfl,hb3,?_⟩
 replace b2:=below_next b2 hb3
 clear k3 h1 hS hb3
 (try simp only [pS])
 refine cn 4 (hy w3 b2) ?_
 rintro e w4 ⟨s4,rfl,o4,hb4⟩
 obtain ⟨x4,c4,e4⟩:=o4.slice
 subst e4
 refine ⟨_,rfl,hb4,?_⟩
 replace b2:=below_next b2 hb4
 replace X3:=X3.keep hb4
 have B4:=o4.bytesIn
 clear hy hb4 o4
 (try simp only [pS])
 refine cn 5 (hx w4 _ _ X3 B4) ?_
 rintro e w5 ⟨s5,rfl,E5,hb5⟩
 obtain ⟨x5,c5,e5,-⟩:=E5.src
 subst e5
 refine ⟨_,rfl,hb5,?_⟩
 replace b2:=below_next b2 hb5
 clear hx hb5
 (try simp only [pS])
 refine tg 6 (Below.refl _ _) ?_
 (try simp only [pS])
 refine tg 7 (Below.refl _ _) ?_
 (try simp only [pS])
 refine tg 8 (Below.refl _ _) ?_
 (try simp only [pS])
 refine tg 9 (Below.refl _ _) ?_
 (try simp only [pS])
 refine wpAnyH_done (by kernel_rfl) ?_ _
 refine NoPanic.normal ?_
 go_wp2
 go_ret2
 exact ⟨_,_,rfl,E5,b2⟩
theorem rJoiner_bad (u v:Value) (n m:Nat) (a b:Nat→Nat) (cs:List Value) (d:CxD) (ok:cxOk d=false) (w:World) (hu:BytesIn w u n a) (hv:BytesIn w v m b) (hc:CxIn w cs d) :
 Calls Tryz.prog 17 #[u,v,.agg cs.toArray] w fun e w'=>e = .returned (.tuple #[.slice none 0 0,.int .i64 1])∧Below w.heap.size w w':=by
 have hr:=fun (W:World) (hb:Below w.heap.size w W)=>rRight_any cs d W (hc.keep hb)
 rw [ok] at hr
 obtain ⟨v0,v1,v2,rfl,g0,g1,g2⟩:=hc
 obtain ⟨N,hN⟩:∃ N,N=d.e:=⟨_,rfl⟩
 rw [←hN] at hr ⊢
 obtain ⟨x0,c0,rfl,-⟩:=hu.src
 obtain ⟨x1,c1,rfl,-⟩:=hv.src
 clear hN g0 g1 g2 ok hu hv
 have b1:Below w.heap.size w (w.alloc (.cells #[v0,.int .i64 N,v1,v2] 24)):=(Below.refl _ _).alloc (Nat.le_refl _) _
 have k1:=RW.fresh w [v0,.int .i64 N,v1,v2] 24
 replace hr:=hr _ b1
 have HK:=Hid.mk' k1
 have HB:=Hid.mk' b1
 clear k1 b1
 go_enter Tryz.func17,Tryz.ntmps17
 go_wp2_with (go_at_call 37;refine hr.mono ?_;clear hr;rintro e w1 ⟨rfl,hb1⟩)
 go_ret2
 exact ⟨rfl,below_next HB.out hb1⟩
theorem rConfirmed_any (u v:Value) (n m:Nat) (a b:Nat→Nat) (la:∀ j,a j<256) (lb:∀ j,b j<256) (hs:n+m≤100000000) (w:World) (hu:BytesIn w u n a) (hv:BytesIn w v m b) :
 Calls Tryz.prog 29 #[u,v] w fun e w'=>∃ x c,e = .returned (.slice x 32 c)∧BytesIn w' (.slice x 32 c) 32 (smN (n+m) (cat n a b))∧Below w.heap.size w w':=by
 have hsm:=fun (W:World) (x:Value) (hx:BytesIn W x (n+m) (cat n a b))=>rSm_any x (n+m) (cat n a b) (cat_lt la lb) (by omega) W hx
 obtain ⟨E,hE⟩:∃ E,E=smN (n+m) (cat n a b):=⟨_,rfl⟩
 rw [←hE] at hsm ⊢
 obtain ⟨x0,c0,rfl,hx0,-,src0⟩:=hu.src
 obtain ⟨x1,c1,rfl,hx1,-,src1⟩:=hv.src
 have hsu:=src0 _ ((Below.refl w.heap.size w).alloc (Nat.le_refl _) (.cells #[] 5))
 have q1:n≤140737488355328:=by omega
 have q2:n+m≤140737488355328:=by omega
 clear hE hu hv hs src0
 go_enter Tryz.func29,Tryz.ntmps29
 go_wp2_with (first
  | (at_builtin;refine wpList_append_empty rfl (.tmp 5) (.tmp 6) rfl w.heap.size a w.heap.size rfl rfl x0 n c0 rfl hsu hx0 q1 (Nat.le_refl _) ?_;intro v3 w3 o3 hb3;(obtain ⟨y3,d3,e3⟩:=o3.slice);subst e3;have r3:=src1 w3 hb3;have z3:=hb3.size;clear hsu)
  | (at_builtin;refine wpList_append_bytes rfl (.tmp 7) (.tmp 8) rfl w.heap.size _ n a rfl o3 x1 m c1 b rfl r3 hx1 q2 z3 ?_;intro v4 w4 o4 g4;have b4:=Own.grown hb3 g4 o3 (Nat.le_refl _) z3;have hs4:=hsm w4 v4 o4.bytesIn;(obtain ⟨y4,d4,e4⟩:=o4.slice);subst e4;clear hsm r3 z3)
  | (go_at_call 61;refine hs4.mono ?_;clear hs4;rintro e w5 ⟨x5,c5,rfl,B5,hb5⟩))
 go_ret
 exact ⟨_,_,rfl,B5,below_next b4 hb5⟩
theorem rInterim_long (u v:Value) (m:Nat) (b:Nat→Nat) (hm:255<m) (w:World) (hv:BytesIn w v m b) :
 Calls Tryz.prog 31 #[u,v] w fun e w'=>e = .returned (.slice none 0 0)∧w'=w:=by
 obtain ⟨x1,c1,rfl,-⟩:=hv.src
 have h1:(255:Int)<(m:Int):=by omega
 clear hv hm
 go_enter Tryz.func31,Tryz.ntmps31
 go_wp2
 go_ret
 exact ⟨rfl,rfl⟩
theorem rInterim_good (u v:Value) (n m:Nat) (a b:Nat→Nat) (la:∀ j,a j<256) (lb:∀ j,b j<256) (hn:n≤99000000) (hm:m≤255) (w:World) (hu:BytesIn w u n a) (hv:BytesIn w v m b) :
 Calls Tryz.prog 31 #[u,v] w fun e w'=>∃ x c,e = .returned (.slice x 32 c)∧BytesIn w' (.slice x 32 c) 32 (smN (n+vcL m) (cat n a (vcB m b)))∧Below w.heap.size w w':=by
 have hl:=lnS_le4 m
 have hle:n+vcL m≤100000000:=by unfold vcL;omega
 have hsm:=fun (W:World) (x:Value) (hx:BytesIn W x (n+vcL m) (cat n a (vcB m b)))=>rSm_any x (n+vcL m) (cat n a (vcB m b)) (cat_lt la (vcB_ltV lb)) (by omega) W hx
 have cv:=fun (W:World) (g:Nat) (x:Value) (r:RW W g 0 [x]) (h:BytesIn W x m b)=>rJ1_any g x m b (by omega) lb W r h
 obtain ⟨V,hV⟩:∃ V,V=vcB m b:=⟨_,rfl⟩
 obtain ⟨K,hK⟩:∃ K,K=vcL m:=⟨_,rfl⟩
 obtain ⟨E,hE⟩:∃ E,E=smN (n+K) (cat n a V):=⟨_,rfl⟩
 rw [←hV,←hK] at hsm cv ⊢
 rw [←hK] at hle
 rw [←hE] at hsm ⊢
 have h1:¬(255:Int)<(m:Int):=by omega
 obtain ⟨x0,c0,rfl,hx0,-,src0⟩:=hu.src
 obtain ⟨x1,c1,rfl,-⟩:=hv.src
 have hsu:=src0 _ ((Below.refl w.heap.size w).alloc (Nat.le_refl _) (.cells #[] 5))
 have q1:n≤140737488355328:=by omega
 have q2:n+K≤140737488355328:=by omega
 have HV:=Hid.mk' hv
 clear hE hu hv src0 hV hK hl hle hm hn
 go_enter Tryz.func31,Tryz.ntmps31
 go_wp2_with (first
  | (at_builtin;refine wpList_append_empty rfl (.tmp 8) (.tmp 9) rfl w.heap.size a w.heap.size rfl rfl x0 n c0 rfl hsu hx0 q1 (Nat.le_refl _) ?_;intro v3 w3 o3 hb3;(obtain ⟨y3,d3,e3⟩:=o3.slice);subst e3;have r4:=RW.fresh w3 [.slice x1 m c1] 22;have b4:=hb3.alloc hb3.size (.cells #[.slice x1 m c1] 22);have cv4:=cv _ _ _ r4 (HV.out.keep b4);have O4:=Hid.mk' (o3.alloc (.cells #[.slice x1 m c1] 22));have B4:=Hid.mk' b4;clear hsu r4 b4 cv o3 hb3)
  | (go_at_call 64;refine cv4.mono ?_;clear cv4;rintro e w5 ⟨v5,rfl,ow5,hb5⟩;(obtain ⟨x5,d5,e5⟩:=ow5.slice);subst e5;have o5:=O4.out.below hb5;have b5:=below_next B4.out hb5;(obtain ⟨y5,z5,ey5,hxn5,-,src5⟩:=ow5.bytesIn.src);(obtain ⟨rfl,rfl⟩:x5=y5∧d5=z5:=(by injection ey5 with h1 h2 h3;exact ⟨h1,h3⟩));have r5:=src5 w5 (Below.refl _ _);have z5':=b5.size;clear src5 ey5 ow5 O4 B4)
  | (at_builtin;refine wpList_append_bytes rfl (.tmp 10) (.tmp 13) rfl w.heap.size _ n a rfl o5 x5 K d5 V rfl r5 hxn5 q2 z5' ?_;intro v6 w6 o6 g6;have b6:=Own.grown b5 g6 o5 (Nat.le_refl _) z5';have hs6:=hsm w6 v6 o6.bytesIn;(obtain ⟨y6,d6,e6⟩:=o6.slice);subst e6;clear hsm r5 z5')
  | (go_at_call 61;refine hs6.mono ?_;clear hs6;rintro e w7 ⟨x7,c7,rfl,B7,hb7⟩))
 go_ret
 exact ⟨_,_,rfl,B7,below_next b6 hb7⟩
theorem rTagS_any (cs:List Value) (N:Nat→Nat) (B:Nat→Nat→Nat) (lB:∀ i j,B i j<256) (v:Value) (m:Nat) (b:Nat→Nat) (lb:∀ j,b j<256) (hN:N 4<140737488354000) (hm:m<140737488354000) (w:World) (hs:TxRow w cs 11 N B) (hv:BytesIn w v m b) :
 Calls Tryz.prog 27 #[.agg cs.toArray,v] w fun e w'=>∃ x c,e = .returned (.slice x 32 c)∧BytesIn w' (.slice x 32 c) 32 (xtN (N 4) (B 4) m b)∧Below w.heap.size w w':=by
 obtain ⟨hl,hcs⟩:=hs
 obtain ⟨v0,v1,v2,v3,v4,v5,v6,v7,v8,v9,v10,rfl⟩:∃ v0 v1 v2 v3 v4 v5 v6 v7 v8 v9 v10,cs=[v0,v1,v2,v3,v4,v5,v6,v7,v8,v9,v10]:=by
  match cs,hl with
  | [v0,v1,v2,v3,v4,v5,v6,v7,v8,v9,v10],_=>exact ⟨_,_,_,_,_,_,_,_,_,_,_,rfl⟩
 have h4:=hcs 4 v4 rfl
 have b1:Below w.heap.size w (w.alloc (.cells #[v0,v1,v2,v3,v4,v5,v6,v7,v8,v9,v10] 48)):=(Below.refl _ _).alloc (Nat.le_refl _) _
 have hh:=rHm_any v4 v (N 4) m (B 4) b (lB 4) lb hN hm _ (h4.keep b1) (hv.keep b1)
 obtain ⟨E,hE⟩:∃ E,E=xtN (N 4) (B 4) m b:=⟨_,rfl⟩
 rw [←hE] at hh ⊢
 have B1:=Hid.mk' b1
 have h1:=hv.isSl
 clear hE b1 hcs hl h4 hv
 obtain ⟨xv,nv,cv,rfl⟩:=h1
 go_enter Tryz.func27,Tryz.ntmps27
 go_wp2_with (go_at_call 63;refine hh.mono ?_;clear hh;rintro e w3 ⟨x3,c3,rfl,B3,hb3⟩)
 go_ret
 exact ⟨_,_,rfl,B3,below_next B1.out hb3⟩
theorem rWelcome_any (u v:Value) (n m:Nat) (a b:Nat→Nat) (la:∀ j,a j<256) (lb:∀ j,b j<256) (hn:n<140737488354000) (hm:m<140737488354000) (w:World) (hu:BytesIn w u n a) (hv:BytesIn w v m b) :
 Calls Tryz.prog 21 #[u,v] w fun e w'=>∃ x c y d,e = .returned (.tuple #[.slice x 16 c,.slice y 12 d])∧BytesIn w' (.slice x 16 c) 16 (exN 32 (exN 32 (xtN n a m b) lWel 0 lZ 32) lKyV 0 lZ 16)∧BytesIn w' (.slice y 12 d) 12 (exN 32 (exN 32 (xtN n a m b) lWel 0 lZ 32) lNoV 0 lZ 12)∧Below w.heap.size w w':=by
 have h1:=rXt_any u v n m a b la lb hn hm w hu hv
 have h2:=fun (W:World) (x:Value) (hx:BytesIn W x 32 (xtN n a m b))=>rDerive_good5 lWel (by decide) (by decide) x 32 (xtN n a m b) (xtN_lt _ _ _ _) (by decide) W hx
 replace h2:∀ (W:World) (x:Value),BytesIn W x 32 (xtN n a m b)→Calls Tryz.prog 56 #[x,.string { data:=#[119,101,108,99,111,109,101] }] W _:=h2
 obtain ⟨X,hX⟩:∃ X,X=xtN n a m b:=⟨_,rfl⟩
 rw [←hX] at h1 h2 ⊢
 obtain ⟨Z,hZ⟩:∃ Z,Z=exN 32 X lWel 0 lZ 32:=⟨_,rfl⟩
 have lZZ:∀ j,Z j<256:=by rw [hZ];exact exN_lt _ _ _ _ _ _
 rw [←hZ] at h2 ⊢
 have h3:=fun (W:World) (x:Value) (hx:BytesIn W x 32 Z)=>rExpand_good5 lKyV (by decide) (by decide) x (.slice none 0 0) 32 0 Z lZ lZZ (fun _=>by show 0<256;decide) (by decide) (by decide) 16 (by decide) W hx (nil_bytes W lZ)
 have h4:=fun (W:World) (x:Value) (hx:BytesIn W x 32 Z)=>rExpand_good5 lNoV (by decide) (by decide) x (.slice none 0 0) 32 0 Z lZ lZZ (fun _=>by show 0<256;decide) (by decide) (by decide) 12 (by decide) W hx (nil_bytes W lZ)
 replace h3:∀ (W:World) (x:Value),BytesIn W x 32 Z→Calls Tryz.prog 50 #[x,.string { data:=#[107,101,121] },.slice none 0 0,.int .i64 16] W _:=h3
 replace h4:∀ (W:World) (x:Value),BytesIn W x 32 Z→Calls Tryz.prog 50 #[x,.string { data:=#[110,111,110,99,101] },.slice none 0 0,.int .i64 12] W _:=h4
 obtain ⟨K,hK⟩:∃ K,K=exN 32 Z lKyV 0 lZ 16:=⟨_,rfl⟩
 obtain ⟨M,hM⟩:∃ M,M=exN 32 Z lNoV 0 lZ 12:=⟨_,rfl⟩
 rw [←hK] at h3 ⊢
 rw [←hM] at h4 ⊢
 obtain ⟨x0,c0,rfl,-⟩:=hu.src
 obtain ⟨x1,c1,rfl,-⟩:=hv.src
 clear hX hZ hK hM hu hv lZZ
 go_enter Tryz.func21,Tryz.ntmps21
 go_wp2_with (first
  | (go_at_call 51;refine h1.mono ?_;clear h1;rintro e w2 ⟨x2,c2,rfl,X2,b2⟩)
  | (go_at_call 56;refine (h2 w2 _ X2).mono ?_;clear h2;rintro e w3 ⟨s3,rfl,Z3,hb3⟩;(obtain ⟨x3,c3,e3,-⟩:=Z3.src);subst e3;have b3:=below_next b2 hb3)
  | (go_at_call 50;refine (h3 w3 _ Z3).mono ?_;clear h3;rintro e w4 ⟨s4,rfl,K4,hb4⟩;(obtain ⟨x4,c4,hs4,-⟩:=K4.src);subst hs4;have b4:=below_next b3 hb4;(replace Z3:=Z3.keep hb4))
  | (go_at_call 50;refine (h4 w4 _ Z3).mono ?_;clear h4;rintro e w5 ⟨s5,rfl,M5,hb5⟩;(obtain ⟨x5,c5,hs5,-⟩:=M5.src);subst hs5;(replace K4:=K4.keep hb5)))
 go_ret2
 exact ⟨_,_,_,_,rfl,K4,M5,below_next b4 hb5⟩
end Go.Proofs.YtibmlmmoifgliaaGreatDoor
