/- What Decode of the reference's points does in the model. -/
import Derived.Test.YtibdhadbflfdpaaGreatDoorRRatioA
import Derived.Test.YtibdhadbflfdpaaGreatDoorRRatioM
namespace Go.Proofs.YtibdhadbflfdpaaGreatDoor
open Nat renaming le_refl → JW
open Nat renaming le_trans → JY
open Go renaming wpAnyH_ready → J1
open Go renaming wpList_store_mid → J2
open Go renaming wpList_load_mid → J3
open Go renaming wpAnyH_done → J4
open Go renaming block_lt_of_cell → J5
open Go.AllReadyH renaming nil → J6
open Go.AllReadyH renaming cons → J7
open Go.NoPanic renaming normal → J8
open Go.RowKit
def fR (bs:Nat→Nat) (j:Nat):Nat:=if j=31 then bs 31%128 else bs j
theorem jK {bs:Nat→Nat} (h:∀ j,bs j<256) (j:Nat):fR bs j<256:=by
 unfold fR;split
 · have:=h 31;omega
 · exact h j
theorem AC:∀ b:Nat,b<256→bits .and .u8 (b:Int) 127=((b%128:Nat):Int):=by decide +kernel
def dV (y:Nat):Nat:=cj (av y y) 1
def d8 (y:Nat):Nat:=fj (av dN (av y y)) 1
def bv (bs:Nat→Nat):Option N4 :=
 if aK (fR bs) 32<pF then
  match eE kP (dV (aK (fR bs) 32)) (d8 (aK (fR bs) 32)) with
  | none=>none
  | some x=>if bs 31 / 128=1∧x=0 then none else some (eO (if bs 31 / 128=1 then cj 0 x else x) (aK (fR bs) 32))
 else none
theorem ED {X:Nat→Nat} (hX:∀ j,X j<256) (z:Bool) (hz:decide (aK X 32<pF)=z):((bF 32 (bf (aK X 32%pF))).toList == (bF 32 X).toList)=z:=by
 rw [←hz]
 by_cases h:aK X 32<pF
 · rw [decide_eq_true h,Nat.mod_eq_of_lt h]
   have e:bF 32 (bf (aK X 32))=bF 32 X:=(fY (bS _) hX).2 ⟨rfl,fun j hj=>fD X hX 32 j hj⟩;rw [e];exact beq_self_eq_true _
 · rw [decide_eq_false h,ByteArray.toList_eq,ByteArray.toList_eq]
   refine beq_false_of_ne (fun e=>h ?_);have h1:=((fY (bS _) hX).1 (WideShapes.bytes_inj e)).2;have h2:aK (bf (aK X 32%pF)) 32=aK X 32:=dP 32 h1;have hl:aK X 32%pF<pF:=Nat.mod_lt _ db;rw [ed,Nat.mod_eq_of_lt (Nat.lt_trans hl (by decide))] at h2;omega
theorem EJ (c:Prop) [Decidable c] (x P:Nat) (h:x<P) (h0:0<P):(if c then some x else none:Option Nat).getD 0<P:=by
 split
 · exact h
 · exact h0
theorem EW {x:Nat} (h:x<pF):me x<pF:=by
 unfold me
 split
 · exact Nat.mod_lt _ db
 · exact h
theorem mw (k u v:Nat):(eE k u v).getD 0<pF:=EJ _ _ pF (EW (tN k u v)) db
def Ip (bs:Nat→Nat) (t:P4) (er:Int):Prop:=(er=30∧t.Rep gJ∧bv bs=none)∨(er=0∧∃ p,bv bs=some p∧t.Rep p)
abbrev fo:Oper:=oN 9 (Op.alloc 92) 0 "ref.go:89" #[]
abbrev Fz:Oper:=oN 44 (dA 122 #[oT 42,oT 43] #[92,92]) 92 "ref.go:89" #[jD 0,jD 1]
abbrev FH:Oper:=oN 45 (dA 61 #[] #[]) 92 "ref.go:89" #[jC 2]
abbrev FO:Oper:=oN 47 (dA 120 #[oT 45,oT 46] #[92,92]) 92 "ref.go:89" #[jD 3,jD 4,jC 3]
abbrev F7:Oper:=oN 49 (dA 123 #[oT 47,oT 48] #[92,92]) 92 "ref.go:89" #[jD 5,jD 6,jC 5]
abbrev Gd:Oper:=oN 50 (dA 121 #[oT 44,oT 49] #[92,92]) 139 "ref.go:89" #[jD 2,jD 7,jC 7]
abbrev fl:Oper:=oS (Op.store 92 (oT 9) (oT 51)) "ref.go:89" #[jD 12,jD 10,jC 8,jP 0,jP 1,jP 2,jP 3,jP 4,jP 5,jP 6,jP 7,jP 8,jP 9,jP 10,jT 11,jP 12]
set_option maxRecDepth 20000 in
set_option maxHeartbeats 8000000 in
theorem qg (v:Value) (bs:Nat→Nat) (hbs:∀ j,bs j<256) (w:World) (hv:ae w v 32 bs) :
 Calls Tryz.prog 57 #[v] w fun e w'=>∃ (t:P4) (er:Int),e = .returned (.tuple #[t.V,.int .i64 er])∧Ip bs t er∧Below w.heap.size w w':=by
 have hz:=dC;have hzq:=jd
 obtain ⟨q1,hq1⟩:∃ q,q=bs 31%128:=⟨_,rfl⟩
 have eq1:bits .and .u8 (bs 31:Int) 127=(q1:Int):=by rw [hq1];exact AC _ (hbs 31)
 have hq3:∀ j,j<32→bK bs 31 q1 j=fR bs j:=fun j _=>by unfold fR bK;rw [hq1]
 have z0:∀ (w w1:World) (g:Nat),ah .u8 w1 g 0 32 bs→Below w.heap.size w w1→w.heap.size≤g→∃ V,V=w1.setCell ⟨g,31,none⟩ (.int .u8 (q1:Int))∧ah .u8 V g 0 32 (fR bs)∧Below w.heap.size w V:=fun w w1 g hr hb hg=>by
  have r:=hr.set (i:=31) (by decide) (v:=(q1:Int)) rfl;rw [Nat.zero_add] at r;exact ⟨_,rfl,r.congr hq3,ac hg [_] 31 _ hb⟩
 have cF:∀ s W,ae W s 32 (fR bs)→Calls Tryz.prog 117 #[s] W fun e w'=>e = .returned (.agg (aD (dw (fR bs))).toArray)∧Below W.heap.size W w':=fun s W h=>IY s _ (jK hbs) W h
 have cz:∀ W,Calls Tryz.prog 116 #[] W fun e w'=>∃ t:P4,e = .returned (.agg (aW t.X t.Y t.Z t.T).toArray)∧t.Rep gJ∧Below W.heap.size W w':=fun W=>rv W
 have cD:∀ W,Calls Tryz.prog 61 #[] W fun e w'=>∃ R,e = .returned (rV R)∧Rw R dN∧Below W.heap.size W w':=fun W=>xG W
 have cone:∀ W,Calls Tryz.prog 119 #[.int .i64 1] W fun e w'=>∃ R,e = .returned (.agg (aD R).toArray)∧Rw R 1∧Below W.heap.size W w':=ia 1 (by decide)
 have cnul:∀ W,Calls Tryz.prog 119 #[.int .i64 0] W fun e w'=>∃ R,e = .returned (rV R)∧Rw R 0∧Below W.heap.size W w':=ia 0 (by decide)
 obtain ⟨YL,hYL⟩:∃ L,L=dw (fR bs):=⟨_,rfl⟩
 obtain ⟨yn,hyn⟩:∃ n,n=aK (fR bs) 32:=⟨_,rfl⟩
 have hYr:Rw YL yn:=by rw [hYL,hyn];exact (Co _ (jK hbs)).wide
 have cB:∀ W,Calls Tryz.prog 118 #[rV YL] W fun e w'=>∃ v,e = .returned v∧bx W.heap.size w' v 32 (bf (yn%pF))∧Below W.heap.size W w':=fun W=>og YL (hYr.dig.mono (by decide)) yn hYr.val W
 obtain ⟨z,hzz⟩:∃ z,decide (yn<pF)=z:=⟨_,rfl⟩
 have hstr:((bF 32 (bf (yn%pF))).toList == (bF 32 (fR bs)).toList)=z:=by rw [hyn] at hzz ⊢;exact ED (jK hbs) z hzz
 have dec0:bv bs=if yn<pF then (match eE kP (dV yn) (d8 yn) with | none=>none | some x=>if bs 31 / 128=1∧x=0 then none else some (eO (if bs 31 / 128=1 then cj 0 x else x) yn)) else none:=by rw [hyn];rfl
 have Hd:=Hid.mk' dec0;have Hz:=Hid.mk' hzz;rw [←hYL] at cF;clear hYL hyn dec0 hzz;obtain ⟨bb,ob,cap,hsl,hlb,hcap,hc⟩:∃ bb ob cap,v = .slice (some ⟨bb,ob,none⟩) 32 cap∧bb<w.heap.size∧32≤cap∧∀ j,j<32→w.cell? ⟨bb,ob+j,none⟩=some (.int .u8 (bs j)):=hv.resolve_left (fun ⟨_,_,h⟩=>by omega);obtain ⟨W,g2,eW,hg2,b,h2⟩:=mv w;have HW:Hid (w.alloc (.cells zQ 94)=W):=Hid.mk' eW;have Hg:Hid (w.heap.size=g2):=Hid.mk' hg2;have w2:w.heap.size≤g2:=Nat.le_of_eq hg2
 have src0:=(ae.src hv)
 subst hsl;obtain ⟨xo,kv,hxo,hun,-,hsrc⟩:=src0;have c31:=hc 31 (by decide);have src1:=hsrc (W.alloc (.cells #[] 5)) (b.alloc b.size _)
 obtain ⟨rfl,rfl⟩:some (⟨bb,ob,none⟩:Addr)=xo∧cap=kv:=by injection hxo with a b c;exact ⟨a,c⟩
 clear eW hg2 hsrc hxo hq1 hq3 hv hc;go_enter Tryz.func57,Tryz.ntmps57
 go_upto_region 4 with (fail)
 rw [HW.out,Hg.out];(try simp only [pS]);clear HW Hg c31
 go_upto_region 7 with (first
  | (at_builtin;refine bn rfl (.tmp 19) (.tmp 20) rfl W.heap.size bs _ rfl rfl (some ⟨bb,ob,none⟩) 32 cap rfl src1 hun (by omega) (JW _) ?_;intro v4 w4 own4 hb4;clear src1;(obtain ⟨g4,cap4,hv4,hg4,hgl4,hcap4,row4⟩:∃ g cap,v4 = .slice (some ⟨g,0,none⟩) 32 cap∧W.heap.size≤g∧g<w4.heap.size∧32≤cap∧ah .u8 w4 g 0 32 bs:=own4.form.resolve_left (fun h=>by omega));subst hv4;clear own4;(have c31:=(row4 31 (by decide)).1);(have f31:=(row4 31 (by decide)).2);rw [Nat.zero_add] at c31 f31;(obtain ⟨V4,hV4,rz,hbV4⟩:=z0 _ _ _ row4 hb4 hg4);(have HV4:=Hid.mk' hV4);(have n24:g4≠g2:=by (have:=h2.lt;omega));clear hV4 z0 row4 hb4;(replace h2:=h2.still hbV4);(replace b:=aa b hbV4);clear hbV4)
  | (go_at_call 117;rw [←HV4.out];refine (cF _ _ (.inr ⟨g4,0,cap4,rfl,J5 (rz 0 (by decide)).1,hcap4,fun j hj=>(rz j hj).1⟩)).mono ?_;clear cF HV4 c31 f31;rintro e w5 ⟨rfl,hb5⟩;(have l4:=J5 (rz 0 (by decide)).1);(replace rz:=rz.below hb5 l4);(replace h2:=h2.still hb5);(replace b:=aa b hb5);clear hb5 l4;(have z5:=dx w5);(have t5:=dH w5 (YL));(obtain ⟨V6,hV6⟩:∃ V,V=(w5.alloc (.cells zI 92)).setCells w5.heap.size 0 (aD (YL)):=⟨_,rfl⟩);(have hy:RW V6 w5.heap.size 0 (aD (YL)):=by rw [hV6];exact z5.stored _ (by rw [ao,ao]));(have b6:Below w5.heap.size w5 V6:=by rw [hV6];exact ac (JW _) _ _ _ ((Below.refl _ _).alloc (JW _) _));(have HV6:=Hid.mk' hV6);(have n26:w5.heap.size≠g2:=by (have:=h2.lt;omega));clear hV6 z5;(replace rz:=rz.below b6 (J5 (rz 0 (by decide)).1));(replace h2:=h2.still b6);(replace b:=aa b b6);clear b6)
  | (with_reducible (refine id (?_:wpList _ _ _ _ _ _));refine J2 rfl 92 _ _ rfl w5.heap.size 0 (aD (YL)).toArray rfl rfl t5 (bQ _) (fC _) ?_;rw [List.toList_toArray,←HV6.out];clear t5 HV6))
 (try dsimp only [Act.put]);generalize w5.heap.size=g6 at *;have tl:iL V6 (.slice (some ⟨g4,0,none⟩) 32 cap4) (bF 32 (fR bs)):=iL.of (.inr ⟨g4,0,cap4,rfl,J5 (rz 0 (by decide)).1,hcap4,fun j hj=>(rz j hj).1⟩) (jK hbs)
 go_cut [35] from 11 (fun s35 wc=>s35 = .bool (!z)∧Below V6.heap.size V6 wc)
 case first =>
  have hw:=Below.refl V6.heap.size V6;clear cz cD cone cnul;have hdrew:Below V6.heap.size V6 V6.drew:=(Below.refl _ _).drew;replace hy:=hy.still hdrew;replace tl:=tl.still hdrew;replace hw:=aa hw hdrew;clear hdrew;refine wp_region_noPanic ?_;refine wp_region_held_drew (S:=fun w'=>Below V6.drew.heap.size V6.drew w') (by kernel_rfl) (Below.refl _ _) (fun hHeld => ?_);clear hHeld;refine tk 0 (rV YL) bR (hy:=(d9 hy 92 6 Tryz.underlying92 (aG _))) (h := ?_);(try simp only [pS]);refine tg 3 bR ?_;(try simp only [pS]);refine tk 4 _ bR (hy := .inl ⟨by rfl,fun w hSw=>by have q:=tl.conv w hSw;go_simp;try with_reducible rfl⟩) (h := ?_);(try simp only [pS]);refine cn 1 (cB _) ?_;(clear cB;rintro e w7 ⟨v7,rfl,own7,hb7⟩;(have t7:=iL.of (ae.of_own own7) (bS _));(obtain ⟨x7,n7,k7,rfl⟩:=t7.form);clear own7);refine ⟨_,rfl,hb7,?_⟩;replace hy:=hy.still hb7;replace tl:=tl.still hb7;replace hw:=aa hw hb7;clear hb7;(try simp only [pS]);refine tk 2 _ bR (hy := .inl ⟨by rfl,fun w hSw=>by have q:=t7.conv w hSw;go_simp;try with_reducible rfl⟩) (h := ?_);(try simp only [pS]);refine tg 5 bR ?_;(try simp only [pS]);refine J4 (by kernel_rfl) ?_ _;refine J8 ?_;go_wp2;go_meet
  case rel=>exact ⟨by rfl,hw⟩
 case rest =>
 obtain ⟨rfl,hb7⟩:=hcut;replace hy:=hy.still hb7;replace h2:=h2.still hb7;replace b:=aa b hb7;have l6:=hy.lt;clear hb7 tl rz cB hstr
 cases z with
 | false =>
  go_wp2_with (first
   | (go_at_call 116;refine (cz _).mono ?_;clear cz;rintro e w40 ⟨t,rfl,ht,hb40⟩;(replace h2:=h2.still hb40);(replace b:=aa b hb40);clear hb40;(have t40:w40.there g2 0 (aW t.X t.Y t.Z t.T).toArray.size:=bj h2))
   | (with_reducible (refine id (?_:wpList _ _ _ _ _ _));refine J2 rfl 94 _ _ rfl g2 0 (aW t.X t.Y t.Z t.T).toArray rfl rfl t40 (bt _ _ _ _) (eq _ _ _ _) ?_))
  (try simp only [Exit.inBlock,Exit.then]);exact bodyPost_ret (am Tryz.results57 _ _ g2 0 (aW t.X t.Y t.Z t.T) _ rfl (h2.stored (aW t.X t.Y t.Z t.T) (bk _ _ _ _ _ _ _ _)).range Tryz.underlying94 rfl (dQ _ _ _ _)) rfl ⟨t,30,rfl,.inl ⟨rfl,ht,by rw [Hd.out,if_neg (of_decide_eq_false Hz.out)]⟩,ac w2 _ _ _ b⟩
 | true =>
  have hyl:yn<pF:=of_decide_eq_true Hz.out;have Hd2:Hid (bv bs=match eE kP (dV yn) (d8 yn) with | none=>none | some x=>if bs 31 / 128=1∧x=0 then none else some (eO (if bs 31 / 128=1 then cj 0 x else x) yn)):=Hid.mk' (by rw [Hd.out,if_pos hyl]);clear Hd Hz
  have cyy:∀ W,Calls Tryz.prog 120 #[.agg (aD YL).toArray,.agg (aD YL).toArray] W fun e w'=>e = .returned (.agg (aD (bB YL YL)).toArray)∧Below W.heap.size W w':=fun W=>bL hYr hYr W
  have hYY:Rw (bB YL YL) (av yn yn):=iD hYr hYr;generalize bB YL YL=YY at *
  go_upto_region 11 with (first
   | (go_at_call 119;refine (cone _).mono ?_;clear cone;rintro e w8 ⟨O,rfl,hO,hb8⟩;(replace hy:=hy.still hb8);(replace h2:=h2.still hb8);(replace b:=aa b hb8);clear hb8;(have z8:=dx w8);(have t8:=dH w8 O);(obtain ⟨V8,hV8⟩:∃ V,V=(w8.alloc (.cells zI 92)).setCells w8.heap.size 0 (aD O):=⟨_,rfl⟩);(have h7:RW V8 w8.heap.size 0 (aD O):=by rw [hV8];exact z8.stored _ (by rw [ao,ao]));(have b8:Below w8.heap.size w8 V8:=by rw [hV8];exact ac (JW _) _ _ _ ((Below.refl _ _).alloc (JW _) _));(have H8:=Hid.mk' hV8);clear hV8 z8;(replace hy:=hy.still b8);(replace h2:=h2.still b8);(replace b:=aa b b8);clear b8)
   | (with_reducible (refine id (?_:wpList _ _ _ _ _ _));refine J2 rfl 92 _ _ rfl w8.heap.size 0 (aD O).toArray rfl rfl t8 (bQ _) (fC _) ?_;rw [List.toList_toArray,←H8.out];clear t8 H8)
   | (refine J3 rfl 92 _ rfl g6 0 rfl (aD YL) _ hy.range Tryz.underlying92 rfl (aG _) ?_)
   | (go_at_call 120;refine (cyy _).mono ?_;clear cyy;rintro e w9 ⟨rfl,hb9⟩;(replace hy:=hy.still hb9);(replace h2:=h2.still hb9);(replace h7:=h7.still hb9);(replace b:=aa b hb9);clear hb9;(have z9:=dx w9);(have t9:=dH w9 YY);(obtain ⟨V9,hV9⟩:∃ V,V=(w9.alloc (.cells zI 92)).setCells w9.heap.size 0 (aD YY):=⟨_,rfl⟩);(have h8:RW V9 w9.heap.size 0 (aD YY):=by rw [hV9];exact z9.stored _ (by rw [ao,ao]));(have b9:Below w9.heap.size w9 V9:=by rw [hV9];exact ac (JW _) _ _ _ ((Below.refl _ _).alloc (JW _) _));(have H9:=Hid.mk' hV9);clear hV9 z9;(replace hy:=hy.still b9);(replace h2:=h2.still b9);(replace h7:=h7.still b9);(replace b:=aa b b9);clear b9)
   | (with_reducible (refine id (?_:wpList _ _ _ _ _ _));refine J2 rfl 92 _ _ rfl w9.heap.size 0 (aD YY).toArray rfl rfl t9 (bQ _) (fC _) ?_;rw [List.toList_toArray,←H9.out];clear t9 H9))
  (try dsimp only [Act.put]);generalize w8.heap.size=g7 at *;generalize w9.heap.size=g8 at *
  have cU:=fun W=>fP hYY hO W
  have hU:Rw (bC YY O) (dV yn):=eG hYY hO (by decide)
  have cT:=fun (D:Nat→Int) (hD:Rw D dN) W=>bL hD hYY W
  have cP:=fun (D:Nat→Int) (hD:Rw D dN) W=>lu (iD hD hYY) hO W
  have cR:=fun (D:Nat→Int) (hD:Rw D dN) W=>uD (bC YY O) (yH (bB D YY) O) (dV yn) (d8 yn) hU (i7 (iD hD hYY) hO) (dn _ _) (eb _ _) W
  obtain ⟨rt,hrt⟩:∃ rt,rt=eE kP (dV yn) (d8 yn):=⟨_,rfl⟩
  rw [←hrt] at cR Hd2
  have hrl:rt.getD 0<pF:=by rw [hrt];exact mw _ _ _
  clear hrt hU hyl
  go_cut [9,10] from 11 (fun s9 s10 wc=>∃ g9 XL,s9 = .pointer (some ⟨g9,0,none⟩)∧s10 = .bool rt.isSome∧Rw XL (rt.getD 0)∧Below V9.heap.size V9 wc∧V9.heap.size≤g9∧RW wc g9 0 (aD XL))
  case first =>
   clear cz cnul;have hdrew:Below V9.heap.size V9 V9.drew:=(Below.refl _ _).drew;replace h7:=h7.still hdrew;replace h8:=h8.still hdrew;refine wp_region_noPanic ?_;refine wp_region_held_drew (S:=fun w'=>Below V9.drew.heap.size V9.drew w') (by kernel_rfl) (Below.refl _ _) (fun hS => ?_);generalize V9.drew=Vgb_ at *;refine tk 0 (rV YY) hS (hy:=(d9 h8 92 8 Tryz.underlying92 (aG _))) (h := ?_);(try simp only [pS]);refine tk 1 (rV O) hS (hy:=(d9 h7 92 7 Tryz.underlying92 (aG _))) (h := ?_);(try simp only [pS]);refine tk 4 (rV YY) hS (hy:=(d9 h8 92 8 Tryz.underlying92 (aG _))) (h := ?_);(try simp only [pS]);refine tk 6 (rV O) hS (hy:=(d9 h7 92 7 Tryz.underlying92 (aG _))) (h := ?_);(try simp only [pS]);refine J1 (rs:=[2,12]) (by kernel_rfl) (by simp) ?_;refine J7 (o:=Fz) rfl (fun K hK => ?_) (J7 (o:=fo) rfl (fun K hK => ?_) (J6))
   · unfold Fz
     go_simp;(go_at_call 122;refine (cU _).mono ?_;rintro e wgb_1 ⟨rfl,hbgb_1⟩);(try go_simp);have hSgb_1:=aa hS hbgb_1;refine hK.out _ _ hSgb_1 (fun h => ?_);clear h hK K hbgb_1;(try simp only [pS]);refine J1 (rs:=[3,12]) (by kernel_rfl) (by simp) ?_;refine J7 (o:=FH) rfl (fun K hK => ?_) (J7 (o:=fo) rfl (fun K hK => ?_) (J6))
     · unfold FH
       go_simp;(go_at_call 61;refine (cD _).mono ?_;rintro e wgb_2 ⟨DL,rfl,hDL,hbgb_2⟩);(try go_simp);have hSgb_2:=aa hSgb_1 hbgb_2;refine hK.out _ _ hSgb_2 (fun h => ?_);clear h hK K hbgb_2;(try simp only [pS]);refine J1 (rs:=[5,12]) (by kernel_rfl) (by simp) ?_;refine J7 (o:=FO) rfl (fun K hK => ?_) (J7 (o:=fo) rfl (fun K hK => ?_) (J6))
       · unfold FO
         go_simp;(go_at_call 120;refine (cT DL hDL _).mono ?_;rintro e wgb_3 ⟨rfl,hbgb_3⟩);(try go_simp);have hSgb_3:=aa hSgb_2 hbgb_3;refine hK.out _ _ hSgb_3 (fun h => ?_);clear h hK K hbgb_3;(try simp only [pS]);refine J1 (rs:=[7,12]) (by kernel_rfl) (by simp) ?_;refine J7 (o:=F7) rfl (fun K hK => ?_) (J7 (o:=fo) rfl (fun K hK => ?_) (J6))
         · unfold F7
           go_simp;(go_at_call 123;refine (cP DL hDL _).mono ?_;rintro e wgb_4 ⟨rfl,hbgb_4⟩);(try go_simp);have hSgb_4:=aa hSgb_3 hbgb_4;refine hK.out _ _ hSgb_4 (fun h => ?_);clear h hK K hbgb_4;(try simp only [pS]);refine J1 (rs:=[8,12]) (by kernel_rfl) (by simp) ?_;refine J7 (o:=Gd) rfl (fun K hK => ?_) (J7 (o:=fo) rfl (fun K hK => ?_) (J6))
           · unfold Gd
             go_simp;(go_at_call 121;refine (cR DL hDL _).mono ?_;rintro e wgb_5 ⟨XL,rfl,hXL,hbgb_5⟩);(try go_simp);have hSgb_5:=aa hSgb_4 hbgb_5;refine hK.out _ _ hSgb_5 (fun h => ?_);clear h hK K hbgb_5;(try simp only [pS]);refine tg 9 hSgb_5 ?_;(try simp only [pS]);refine tg 10 hSgb_5 ?_;(try simp only [pS]);refine tg 11 hSgb_5 ?_;(try simp only [pS]);refine J1 (rs:=[12]) (by kernel_rfl) (by simp) ?_;refine J7 (o:=fo) rfl (fun K hK => ?_) (J6);unfold fo;go_simp;obtain ⟨wgb_9,ggb_9,hwgb_9,hggb_9,hbgb_9,rgb_9⟩:=dj wgb_5;rw [hwgb_9,hggb_9];have hSgb_9:=aa hSgb_5 hbgb_9
             have Ggb_9:Vgb_.heap.size≤ggb_9:=by have:=hSgb_5.size;omega
             refine hK.out _ _ hSgb_9 (fun h => ?_);clear h hK K hbgb_9 hwgb_9 hggb_9;(try simp only [pS]);refine J1 (rs:=[13]) (by kernel_rfl) (by simp) ?_;refine J7 (o:=fl) rfl (fun K hK => ?_) (J6);unfold fl;rw [if_pos (by rfl)];refine bp _ _ rfl ggb_9 (fun _=>0) XL rfl rfl rgb_9 hSgb_9 Ggb_9 (fun wgb_10 r0 hSgb_10 => ?_);refine hK.out _ _ hSgb_10 (fun h => ?_);clear h hK K rgb_9;have rgb_9:=r0;clear r0;(try dsimp only [Act.put]);refine tg 14 hSgb_10 ?_;(try simp only [pS]);refine J4 (by kernel_rfl) ?_ _;refine J8 ?_;go_wp2;go_meet
             case rel=>exact ⟨ggb_9,XL,rfl,rfl,hXL,aa hdrew hSgb_10,JY hdrew.size Ggb_9,rgb_9⟩
           · unfold fo
             go_simp;obtain ⟨wgb_12,ggb_12,hwgb_12,hggb_12,hbgb_12,rgb_12⟩:=dj wgb_4;rw [hwgb_12,hggb_12];have hSgb_12:=aa hSgb_4 hbgb_12
             have Ggb_12:Vgb_.heap.size≤ggb_12:=by have:=hSgb_4.size;omega
             refine hK.out _ _ hSgb_12 (fun h => ?_);clear h hK K hbgb_12 hwgb_12 hggb_12;(try simp only [pS]);refine cl 8 (cR DL hDL _) ?_
             (rintro e wgb_13 ⟨XL,rfl,hXL,hbgb_13⟩)
             have hSgb_13:=aa hSgb_12 hbgb_13;replace rgb_12:=rgb_12.still hbgb_13;refine ⟨_,rfl,hSgb_13,?_⟩;clear hbgb_13;(try simp only [pS]);refine tg 9 hSgb_13 ?_;(try simp only [pS]);refine tg 10 hSgb_13 ?_;(try simp only [pS]);refine tg 11 hSgb_13 ?_;(try simp only [pS]);refine J1 (rs:=[13]) (by kernel_rfl) (by simp) ?_;refine J7 (o:=fl) rfl (fun K hK => ?_) (J6);unfold fl;rw [if_pos (by rfl)];refine bp _ _ rfl ggb_12 (fun _=>0) XL rfl rfl rgb_12 hSgb_13 Ggb_12 (fun wgb_17 r0 hSgb_17 => ?_);refine hK.out _ _ hSgb_17 (fun h => ?_);clear h hK K rgb_12;have rgb_12:=r0;clear r0;(try dsimp only [Act.put]);refine tg 14 hSgb_17 ?_;(try simp only [pS]);refine J4 (by kernel_rfl) ?_ _;refine J8 ?_;go_wp2;go_meet
             case rel=>exact ⟨ggb_12,XL,rfl,rfl,hXL,aa hdrew hSgb_17,JY hdrew.size Ggb_12,rgb_12⟩
         · unfold fo
           go_simp;obtain ⟨wgb_19,ggb_19,hwgb_19,hggb_19,hbgb_19,rgb_19⟩:=dj wgb_3;rw [hwgb_19,hggb_19];have hSgb_19:=aa hSgb_3 hbgb_19
           have Ggb_19:Vgb_.heap.size≤ggb_19:=by have:=hSgb_3.size;omega
           refine hK.out _ _ hSgb_19 (fun h => ?_);clear h hK K hbgb_19 hwgb_19 hggb_19;(try simp only [pS]);refine cl 7 (cP DL hDL _) ?_
           (rintro e wgb_20 ⟨rfl,hbgb_20⟩)
           have hSgb_20:=aa hSgb_19 hbgb_20;replace rgb_19:=rgb_19.still hbgb_20;refine ⟨_,rfl,hSgb_20,?_⟩;clear hbgb_20;(try simp only [pS]);refine cl 8 (cR DL hDL _) ?_
           (rintro e wgb_21 ⟨XL,rfl,hXL,hbgb_21⟩)
           have hSgb_21:=aa hSgb_20 hbgb_21;replace rgb_19:=rgb_19.still hbgb_21;refine ⟨_,rfl,hSgb_21,?_⟩;clear hbgb_21;(try simp only [pS]);refine tg 9 hSgb_21 ?_;(try simp only [pS]);refine tg 10 hSgb_21 ?_;(try simp only [pS]);refine tg 11 hSgb_21 ?_;(try simp only [pS]);refine J1 (rs:=[13]) (by kernel_rfl) (by simp) ?_;refine J7 (o:=fl) rfl (fun K hK => ?_) (J6);unfold fl;rw [if_pos (by rfl)];refine bp _ _ rfl ggb_19 (fun _=>0) XL rfl rfl rgb_19 hSgb_21 Ggb_19 (fun wgb_25 r0 hSgb_25 => ?_);refine hK.out _ _ hSgb_25 (fun h => ?_);clear h hK K rgb_19;have rgb_19:=r0;clear r0;(try dsimp only [Act.put]);refine tg 14 hSgb_25 ?_;(try simp only [pS]);refine J4 (by kernel_rfl) ?_ _;refine J8 ?_;go_wp2;go_meet
           case rel=>exact ⟨ggb_19,XL,rfl,rfl,hXL,aa hdrew hSgb_25,JY hdrew.size Ggb_19,rgb_19⟩
       · unfold fo
         go_simp;obtain ⟨wgb_27,ggb_27,hwgb_27,hggb_27,hbgb_27,rgb_27⟩:=dj wgb_2;rw [hwgb_27,hggb_27];have hSgb_27:=aa hSgb_2 hbgb_27
         have Ggb_27:Vgb_.heap.size≤ggb_27:=by have:=hSgb_2.size;omega
         refine hK.out _ _ hSgb_27 (fun h => ?_);clear h hK K hbgb_27 hwgb_27 hggb_27;(try simp only [pS]);refine cl 5 (cT DL hDL _) ?_
         (rintro e wgb_28 ⟨rfl,hbgb_28⟩)
         have hSgb_28:=aa hSgb_27 hbgb_28;replace rgb_27:=rgb_27.still hbgb_28;refine ⟨_,rfl,hSgb_28,?_⟩;clear hbgb_28;(try simp only [pS]);refine cl 7 (cP DL hDL _) ?_
         (rintro e wgb_29 ⟨rfl,hbgb_29⟩)
         have hSgb_29:=aa hSgb_28 hbgb_29;replace rgb_27:=rgb_27.still hbgb_29;refine ⟨_,rfl,hSgb_29,?_⟩;clear hbgb_29;(try simp only [pS]);refine cl 8 (cR DL hDL _) ?_
         (rintro e wgb_30 ⟨XL,rfl,hXL,hbgb_30⟩)
         have hSgb_30:=aa hSgb_29 hbgb_30;replace rgb_27:=rgb_27.still hbgb_30;refine ⟨_,rfl,hSgb_30,?_⟩;clear hbgb_30;(try simp only [pS]);refine tg 9 hSgb_30 ?_;(try simp only [pS]);refine tg 10 hSgb_30 ?_;(try simp only [pS]);refine tg 11 hSgb_30 ?_;(try simp only [pS]);refine J1 (rs:=[13]) (by kernel_rfl) (by simp) ?_;refine J7 (o:=fl) rfl (fun K hK => ?_) (J6);unfold fl;rw [if_pos (by rfl)];refine bp _ _ rfl ggb_27 (fun _=>0) XL rfl rfl rgb_27 hSgb_30 Ggb_27 (fun wgb_34 r0 hSgb_34 => ?_);refine hK.out _ _ hSgb_34 (fun h => ?_);clear h hK K rgb_27;have rgb_27:=r0;clear r0;(try dsimp only [Act.put]);refine tg 14 hSgb_34 ?_;(try simp only [pS]);refine J4 (by kernel_rfl) ?_ _;refine J8 ?_;go_wp2;go_meet
         case rel=>exact ⟨ggb_27,XL,rfl,rfl,hXL,aa hdrew hSgb_34,JY hdrew.size Ggb_27,rgb_27⟩
     · unfold fo
       go_simp;obtain ⟨wgb_36,ggb_36,hwgb_36,hggb_36,hbgb_36,rgb_36⟩:=dj wgb_1;rw [hwgb_36,hggb_36];have hSgb_36:=aa hSgb_1 hbgb_36
       have Ggb_36:Vgb_.heap.size≤ggb_36:=by have:=hSgb_1.size;omega
       refine hK.out _ _ hSgb_36 (fun h => ?_);clear h hK K hbgb_36 hwgb_36 hggb_36;(try simp only [pS]);refine cl 3 (cD _) ?_
       (rintro e wgb_37 ⟨DL,rfl,hDL,hbgb_37⟩)
       have hSgb_37:=aa hSgb_36 hbgb_37;replace rgb_36:=rgb_36.still hbgb_37;refine ⟨_,rfl,hSgb_37,?_⟩;clear hbgb_37;(try simp only [pS]);refine cl 5 (cT DL hDL _) ?_
       (rintro e wgb_38 ⟨rfl,hbgb_38⟩)
       have hSgb_38:=aa hSgb_37 hbgb_38;replace rgb_36:=rgb_36.still hbgb_38;refine ⟨_,rfl,hSgb_38,?_⟩;clear hbgb_38;(try simp only [pS]);refine cl 7 (cP DL hDL _) ?_
       (rintro e wgb_39 ⟨rfl,hbgb_39⟩)
       have hSgb_39:=aa hSgb_38 hbgb_39;replace rgb_36:=rgb_36.still hbgb_39;refine ⟨_,rfl,hSgb_39,?_⟩;clear hbgb_39;(try simp only [pS]);refine cl 8 (cR DL hDL _) ?_
       (rintro e wgb_40 ⟨XL,rfl,hXL,hbgb_40⟩)
       have hSgb_40:=aa hSgb_39 hbgb_40;replace rgb_36:=rgb_36.still hbgb_40;refine ⟨_,rfl,hSgb_40,?_⟩;clear hbgb_40;(try simp only [pS]);refine tg 9 hSgb_40 ?_;(try simp only [pS]);refine tg 10 hSgb_40 ?_;(try simp only [pS]);refine tg 11 hSgb_40 ?_;(try simp only [pS]);refine J1 (rs:=[13]) (by kernel_rfl) (by simp) ?_;refine J7 (o:=fl) rfl (fun K hK => ?_) (J6);unfold fl;rw [if_pos (by rfl)];refine bp _ _ rfl ggb_36 (fun _=>0) XL rfl rfl rgb_36 hSgb_40 Ggb_36 (fun wgb_44 r0 hSgb_44 => ?_);refine hK.out _ _ hSgb_44 (fun h => ?_);clear h hK K rgb_36;have rgb_36:=r0;clear r0;(try dsimp only [Act.put]);refine tg 14 hSgb_44 ?_;(try simp only [pS]);refine J4 (by kernel_rfl) ?_ _;refine J8 ?_;go_wp2;go_meet
       case rel=>exact ⟨ggb_36,XL,rfl,rfl,hXL,aa hdrew hSgb_44,JY hdrew.size Ggb_36,rgb_36⟩
   · unfold fo
     go_simp;obtain ⟨wgb_46,ggb_46,hwgb_46,hggb_46,hbgb_46,rgb_46⟩:=dj Vgb_;rw [hwgb_46,hggb_46];have hSgb_46:=aa hS hbgb_46
     have Ggb_46:Vgb_.heap.size≤ggb_46:=by have:=hS.size;omega
     refine hK.out _ _ hSgb_46 (fun h => ?_);clear h hK K hbgb_46 hwgb_46 hggb_46;(try simp only [pS]);refine cl 2 (cU _) ?_
     (rintro e wgb_47 ⟨rfl,hbgb_47⟩)
     have hSgb_47:=aa hSgb_46 hbgb_47;replace rgb_46:=rgb_46.still hbgb_47;refine ⟨_,rfl,hSgb_47,?_⟩;clear hbgb_47;(try simp only [pS]);refine cl 3 (cD _) ?_
     (rintro e wgb_48 ⟨DL,rfl,hDL,hbgb_48⟩)
     have hSgb_48:=aa hSgb_47 hbgb_48;replace rgb_46:=rgb_46.still hbgb_48;refine ⟨_,rfl,hSgb_48,?_⟩;clear hbgb_48;(try simp only [pS]);refine cl 5 (cT DL hDL _) ?_
     (rintro e wgb_49 ⟨rfl,hbgb_49⟩)
     have hSgb_49:=aa hSgb_48 hbgb_49;replace rgb_46:=rgb_46.still hbgb_49;refine ⟨_,rfl,hSgb_49,?_⟩;clear hbgb_49;(try simp only [pS]);refine cl 7 (cP DL hDL _) ?_
     (rintro e wgb_50 ⟨rfl,hbgb_50⟩)
     have hSgb_50:=aa hSgb_49 hbgb_50;replace rgb_46:=rgb_46.still hbgb_50;refine ⟨_,rfl,hSgb_50,?_⟩;clear hbgb_50;(try simp only [pS]);refine cl 8 (cR DL hDL _) ?_
     (rintro e wgb_51 ⟨XL,rfl,hXL,hbgb_51⟩)
     have hSgb_51:=aa hSgb_50 hbgb_51;replace rgb_46:=rgb_46.still hbgb_51;refine ⟨_,rfl,hSgb_51,?_⟩;clear hbgb_51;(try simp only [pS]);refine tg 9 hSgb_51 ?_;(try simp only [pS]);refine tg 10 hSgb_51 ?_;(try simp only [pS]);refine tg 11 hSgb_51 ?_;(try simp only [pS]);refine J1 (rs:=[13]) (by kernel_rfl) (by simp) ?_;refine J7 (o:=fl) rfl (fun K hK => ?_) (J6);unfold fl;rw [if_pos (by rfl)];refine bp _ _ rfl ggb_46 (fun _=>0) XL rfl rfl rgb_46 hSgb_51 Ggb_46 (fun wgb_55 r0 hSgb_55 => ?_);refine hK.out _ _ hSgb_55 (fun h => ?_);clear h hK K rgb_46;have rgb_46:=r0;clear r0;(try dsimp only [Act.put]);refine tg 14 hSgb_55 ?_;(try simp only [pS]);refine J4 (by kernel_rfl) ?_ _;refine J8 ?_;go_wp2;go_meet
     case rel=>exact ⟨ggb_46,XL,rfl,rfl,hXL,aa hdrew hSgb_55,JY hdrew.size Ggb_46,rgb_46⟩
  case rest =>
  obtain ⟨g9,XL,rfl,rfl,hXL,hb11,G9,h9⟩:=hcut;have l2:=h2.lt;have l6':=hy.lt
  have n29:g2≠g9:=by omega
  have n69:g6≠g9:=by omega
  have w9l:w.heap.size≤g9:=JY b.size G9;replace hy:=hy.still hb11;replace h2:=h2.still hb11;replace b:=aa b hb11
  obtain ⟨U1,hU1⟩:∃ W,W=wc:=⟨_,rfl⟩
  rw [←hU1];rw [←hU1] at hy h2 b h9;clear hU1 hb11 G9 l2 l6' h7 h8 cU cT cP cR cD hYY hO
  cases rt with
  | none =>
   have hn:bv bs=none:=Hd2.out;have Hn:=Hid.mk' hn;clear Hd2 hn;simp only [Option.isSome_none]
   go_upto_region 12 with (fail)
   go_cut [63] from 11 (fun s63 wc=>s63 = .bool true∧Below U1.heap.size U1 wc)
   case first =>
    clear cz cnul;have hdrew:Below U1.heap.size U1 U1.drew:=(Below.refl _ _).drew;replace h9:=h9.still hdrew;refine wp_region_noPanic ?_;refine wp_region_held_drew (S:=fun w'=>Below U1.drew.heap.size U1.drew w') (by kernel_rfl) (Below.refl _ _) (fun hS => ?_);generalize U1.drew=Vgc_ at *;refine tg 0 hS ?_;(try simp only [pS]);refine tg 1 hS ?_;(try simp only [pS]);refine tg 2 hS ?_;(try simp only [pS]);refine tk 3 undef hS (hy:=(Or.inr ⟨by rfl,rfl⟩)) (h := ?_);(try simp only [pS]);refine tk 4 undef hS (hy:=(Or.inr ⟨by rfl,rfl⟩)) (h := ?_);(try simp only [pS]);refine tk 5 undef hS (hy:=(Or.inr ⟨by rfl,rfl⟩)) (h := ?_);(try simp only [pS]);refine tk 6 undef hS (hy:=(Or.inr ⟨by rfl,rfl⟩)) (h := ?_);(try simp only [pS]);refine tk 7 undef hS (hy:=(Or.inr ⟨by rfl,rfl⟩)) (h := ?_);(try simp only [pS]);refine tk 8 undef hS (hy:=(Or.inr ⟨by rfl,rfl⟩)) (h := ?_);(try simp only [pS]);refine tk 9 undef hS (hy:=(Or.inr ⟨by rfl,rfl⟩)) (h := ?_);(try simp only [pS]);refine tg 10 hS ?_;(try simp only [pS]);refine J4 (by kernel_rfl) ?_ _;refine J8 ?_;go_wp2;go_meet
    case rel=>exact ⟨by rfl,aa hdrew hS⟩
   case rest =>
   obtain ⟨rfl,hb12⟩:=hcut;replace hy:=hy.still hb12;replace h2:=h2.still hb12;replace h9:=h9.still hb12;replace b:=aa b hb12;clear hb12
   go_wp2_with (first
    | (go_at_call 116;refine (cz _).mono ?_;clear cz;rintro e w40 ⟨t,rfl,ht,hb40⟩;(replace h2:=h2.still hb40);(replace b:=aa b hb40);clear hb40;(have t40:w40.there g2 0 (aW t.X t.Y t.Z t.T).toArray.size:=bj h2))
    | (with_reducible (refine id (?_:wpList _ _ _ _ _ _));refine J2 rfl 94 _ _ rfl g2 0 (aW t.X t.Y t.Z t.T).toArray rfl rfl t40 (bt _ _ _ _) (eq _ _ _ _) ?_))
   (try simp only [Exit.inBlock,Exit.then]);exact bodyPost_ret (am Tryz.results57 _ _ g2 0 (aW t.X t.Y t.Z t.T) _ rfl (h2.stored (aW t.X t.Y t.Z t.T) (bk _ _ _ _ _ _ _ _)).range Tryz.underlying94 rfl (dQ _ _ _ _)) rfl ⟨t,30,rfl,.inl ⟨rfl,ht,Hn.out⟩,ac w2 _ _ _ b⟩
  | some xr =>
   simp only [Option.isSome_some,Option.getD_some] at hXL hrl ⊢
   by_cases hodd:bs 31 / 128=1
   · have hod:((bs 31:Nat):Int) / 128=1:=by omega
     rw [hod]
     obtain ⟨x0,hx0⟩:∃ x0,decide (xr=0)=x0:=⟨_,rfl⟩
     have cS:∀ O,Rw O 0→∀ W,Calls Tryz.prog 124 #[rV XL,rV O] W fun e w'=>e = .returned (.bool x0)∧Below W.heap.size W w':=fun O hO W=>jR hXL hO x0 (by rw [Nat.mod_eq_of_lt hrl];exact hx0) W
     have Hd3:Hid (bv bs=if xr=0 then none else some (eO (cj 0 xr) yn)):=Hid.mk' (by
      rw [Hd2.out];show (if bs 31 / 128=1∧xr=0 then none else some (eO (if bs 31 / 128=1 then cj 0 xr else xr) yn))=_;rw [if_pos hodd]
      by_cases h0:xr=0
      · rw [if_pos ⟨hodd,h0⟩,if_pos h0]
      · rw [if_neg (fun h=>h0 h.2),if_neg h0])
     have Hx:=Hid.mk' hx0;have cnul2:=cnul;clear Hd2 hx0
     go_upto_region 12 with (fail)
     go_cut [63] from 11 (fun s63 wc=>s63 = .bool x0∧Below U1.heap.size U1 wc)
     case first =>
      clear cz cnul2;have hdrew:Below U1.heap.size U1 U1.drew:=(Below.refl _ _).drew;replace h9:=h9.still hdrew;refine wp_region_noPanic ?_;refine wp_region_held_drew (S:=fun w'=>Below U1.drew.heap.size U1.drew w') (by kernel_rfl) (Below.refl _ _) (fun hS => ?_);generalize U1.drew=Vgd_ at *;refine tg 0 hS ?_;(try simp only [pS]);refine tg 1 hS ?_;(try simp only [pS]);refine tg 2 hS ?_;(try simp only [pS]);refine tg 3 hS ?_;(try simp only [pS]);refine tg 4 hS ?_;(try simp only [pS]);refine tg 5 hS ?_;(try simp only [pS]);refine tk 6 (rV XL) hS (hy:=(d9 h9 92 9 Tryz.underlying92 (aG _))) (h := ?_);(try simp only [pS]);refine cl 7 (cnul _) ?_;(clear cnul;rintro e wgd_7 ⟨O2,rfl,hO2,hbgd_7⟩);have hSgd_7:=aa hS hbgd_7;refine ⟨_,rfl,hSgd_7,?_⟩;clear hbgd_7;(try simp only [pS]);refine cl 8 (cS O2 hO2 _) ?_;(clear cS;rintro e wgd_8 ⟨rfl,hbgd_8⟩);have hSgd_8:=aa hSgd_7 hbgd_8;refine ⟨_,rfl,hSgd_8,?_⟩;clear hbgd_8;(try simp only [pS]);refine tg 9 hSgd_8 ?_;(try simp only [pS]);refine tg 10 hSgd_8 ?_;(try simp only [pS]);refine J4 (by kernel_rfl) ?_ _;refine J8 ?_;go_wp2;go_meet
      case rel=>exact ⟨by rfl,aa hdrew hSgd_8⟩
     case rest =>
     obtain ⟨rfl,hb12⟩:=hcut;replace hy:=hy.still hb12;replace h2:=h2.still hb12;replace h9:=h9.still hb12;replace b:=aa b hb12;clear hb12;clear cS
     cases x0 with
     | true =>
      have Hn:Hid (bv bs=none):=Hid.mk' (by rw [Hd3.out,if_pos (of_decide_eq_true Hx.out)]);clear Hd3 Hx
      go_wp2_with (first
       | (go_at_call 116;refine (cz _).mono ?_;clear cz;rintro e w40 ⟨t,rfl,ht,hb40⟩;(replace h2:=h2.still hb40);(replace b:=aa b hb40);clear hb40;(have t40:w40.there g2 0 (aW t.X t.Y t.Z t.T).toArray.size:=bj h2))
       | (with_reducible (refine id (?_:wpList _ _ _ _ _ _));refine J2 rfl 94 _ _ rfl g2 0 (aW t.X t.Y t.Z t.T).toArray rfl rfl t40 (bt _ _ _ _) (eq _ _ _ _) ?_))
      (try simp only [Exit.inBlock,Exit.then]);exact bodyPost_ret (am Tryz.results57 _ _ g2 0 (aW t.X t.Y t.Z t.T) _ rfl (h2.stored (aW t.X t.Y t.Z t.T) (bk _ _ _ _ _ _ _ _)).range Tryz.underlying94 rfl (dQ _ _ _ _)) rfl ⟨t,30,rfl,.inl ⟨rfl,ht,Hn.out⟩,ac w2 _ _ _ b⟩
     | false =>
      have Hs:Hid (bv bs=some (eO (cj 0 xr) yn)):=Hid.mk' (by rw [Hd3.out,if_neg (of_decide_eq_false Hx.out)]);clear Hd3 Hx
      obtain ⟨U2,hU2⟩:∃ W,W=wc:=⟨_,rfl⟩
      rw [←hU2];rw [←hU2] at hy h2 b h9;clear hU2
      go_upto_region 15 with (fail)
      (try simp only [pS]);have hdrew:Below U2.heap.size U2 U2.drew:=(Below.refl _ _).drew;replace b:=aa b hdrew;replace h2:=h2.still hdrew;replace h9:=h9.still hdrew;replace hy:=hy.still hdrew;refine wp_region_noPanic ?_;refine wp_region_held_drew (S:=fun _=>True) (by kernel_rfl) trivial (fun _ => ?_);generalize U2.drew=Vge_ at *;refine J1 (rs:=[0,1]) (by kernel_rfl) (by simp) ?_;refine J7 (o:=oN 67 (dA 119 #[Operand.const (Value.int IntKind.i64 0)] #[3]) 92 "ref.go:94" #[]) rfl (fun K hK => ?_) (J7 (o:=oN 68 (Op.load 92 (oT 9)) 92 "ref.go:94" #[]) rfl (fun K hK => ?_) (J6))
      · go_simp
        (go_at_call 119;refine (cnul2 _).mono ?_;clear cnul2;rintro e wge_1 ⟨O3,rfl,hO3,hbS⟩;(replace h2:=h2.still hbS);(replace h9:=h9.still hbS);(replace hy:=hy.still hbS);(replace b:=aa b hbS);clear hbS);(try go_simp);refine hK.out _ _ trivial (fun h => ?_);clear h hK K;(try simp only [pS]);refine J1 (rs:=[1]) (by kernel_rfl) (by simp) ?_;refine J7 (o:=oN 68 (Op.load 92 (oT 9)) 92 "ref.go:94" #[]) rfl (fun K hK => ?_) (J6);rw [if_pos (by rfl)];refine wp_load_mid 92 _ rfl g9 0 rfl (aD XL) _ h9.range Tryz.underlying92 rfl (aG _) ?_;refine hK.out _ _ trivial (fun h => ?_);clear h hK K;rw [show Value.agg (aD XL).toArray=rV XL from rfl];(try simp only [pS]);refine J1 (rs:=[2]) (by kernel_rfl) (by simp) ?_;refine J7 (o:=oN 69 (dA 122 #[oT 67,oT 68] #[92,92]) 92 "ref.go:94" #[jD 0,jD 1,jC 0]) rfl (fun K hK => ?_) (J6);go_simp;(go_at_call 122;refine (fP hO3 hXL _).mono ?_;rintro e wge_3 ⟨rfl,hbS⟩;(replace h2:=h2.still hbS);(replace h9:=h9.still hbS);(replace hy:=hy.still hbS);(replace b:=aa b hbS);clear hbS);(try go_simp);refine hK.out _ _ trivial (fun h => ?_);clear h hK K;(try simp only [pS]);refine J1 (rs:=[3]) (by kernel_rfl) (by simp) ?_;refine J7 (o:=oS (Op.store 92 (oT 9) (oT 69)) "ref.go:94" #[jD 2,jC 2,jP 0,jP 1,jP 2]) rfl (fun K hK => ?_) (J6);rw [if_pos (by rfl)];refine wp_store_mid 92 _ _ rfl g9 0 (aD (bC O3 XL)).toArray rfl rfl (tn h9) (bQ _) (fC _) ?_;have Oge_4:=aT.setCells (b:=g9) (o:=0) (n:=(aD (bC O3 XL)).length) wge_3 (aD (bC O3 XL)) (JW _) (JW _);replace b:=ac w9l (aD (bC O3 XL)) 0 _ b;replace h9:=h9.stored (aD (bC O3 XL)) (by rw [ao,ao]);replace h2:=h2.far g9 0 (aD (bC O3 XL)) (.inl n29);replace hy:=hy.far g9 0 (aD (bC O3 XL)) (.inl n69)
        obtain ⟨wge_4,hwge_4⟩:∃ W,wge_3.setCells g9 0 (aD (bC O3 XL))=W:=⟨_,rfl⟩
        rw [hwge_4] at h2;rw [hwge_4] at b;rw [hwge_4] at hy;rw [hwge_4] at h9;rw [hwge_4] at Oge_4;rw [show wge_3.setCells g9 0 (aD (bC O3 XL)).toArray.toList=wge_4 from hwge_4];refine hK.out _ _ trivial (fun h => ?_);clear h hK K hwge_4;(try dsimp only [Act.put]);refine J4 (by kernel_rfl) ?_ _;refine J8 ?_
        have cof:∀ W,Calls Tryz.prog 125 #[.agg (aD (bC O3 XL)).toArray,.agg (aD YL).toArray] W fun e w'=>∃ t:P4,e = .returned (.agg (aW t.X t.Y t.Z t.T).toArray)∧t.Rep (eO (cj 0 xr) yn)∧Below W.heap.size W w':=fun W=>nA (eG hO3 hXL hrl) hYr W
        go_wp2_with (first
         | (refine J3 rfl 92 _ rfl g9 0 rfl (aD (bC O3 XL)) _ h9.range Tryz.underlying92 rfl (aG _) ?_)
         | (refine J3 rfl 92 _ rfl g6 0 rfl (aD YL) _ hy.range Tryz.underlying92 rfl (aG _) ?_)
         | (go_at_call 125;refine (cof _).mono ?_;clear cof;rintro e w50 ⟨t,rfl,ht,hb50⟩;(replace h2:=h2.still hb50);(replace b:=aa b hb50);clear hb50;(have t50:w50.there g2 0 (aW t.X t.Y t.Z t.T).toArray.size:=bj h2))
         | (with_reducible (refine id (?_:wpList _ _ _ _ _ _));refine J2 rfl 94 _ _ rfl g2 0 (aW t.X t.Y t.Z t.T).toArray rfl rfl t50 (bt _ _ _ _) (eq _ _ _ _) ?_))
        (try simp only [Exit.inBlock,Exit.then]);exact bodyPost_ret (am Tryz.results57 _ _ g2 0 (aW t.X t.Y t.Z t.T) _ rfl (h2.stored (aW t.X t.Y t.Z t.T) (bk _ _ _ _ _ _ _ _)).range Tryz.underlying94 rfl (dQ _ _ _ _)) rfl ⟨t,0,rfl,.inr ⟨rfl,_,Hs.out,ht⟩,ac w2 _ _ _ b⟩
      · rw [if_pos (by rfl)]
        refine wp_load_mid 92 _ rfl g9 0 rfl (aD XL) _ h9.range Tryz.underlying92 rfl (aG _) ?_;refine hK.out _ _ trivial (fun h => ?_);clear h hK K;rw [show Value.agg (aD XL).toArray=rV XL from rfl];(try simp only [pS]);refine J1 (rs:=[0]) (by kernel_rfl) (by simp) ?_;refine J7 (o:=oN 67 (dA 119 #[Operand.const (Value.int IntKind.i64 0)] #[3]) 92 "ref.go:94" #[]) rfl (fun K hK => ?_) (J6);go_simp;(go_at_call 119;refine (cnul2 _).mono ?_;clear cnul2;rintro e wge_6 ⟨O3,rfl,hO3,hbS⟩;(replace h2:=h2.still hbS);(replace h9:=h9.still hbS);(replace hy:=hy.still hbS);(replace b:=aa b hbS);clear hbS);(try go_simp);refine hK.out _ _ trivial (fun h => ?_);clear h hK K;(try simp only [pS]);refine J1 (rs:=[2]) (by kernel_rfl) (by simp) ?_;refine J7 (o:=oN 69 (dA 122 #[oT 67,oT 68] #[92,92]) 92 "ref.go:94" #[jD 0,jD 1,jC 0]) rfl (fun K hK => ?_) (J6);go_simp;(go_at_call 122;refine (fP hO3 hXL _).mono ?_;rintro e wge_7 ⟨rfl,hbS⟩;(replace h2:=h2.still hbS);(replace h9:=h9.still hbS);(replace hy:=hy.still hbS);(replace b:=aa b hbS);clear hbS);(try go_simp);refine hK.out _ _ trivial (fun h => ?_);clear h hK K;(try simp only [pS]);refine J1 (rs:=[3]) (by kernel_rfl) (by simp) ?_;refine J7 (o:=oS (Op.store 92 (oT 9) (oT 69)) "ref.go:94" #[jD 2,jC 2,jP 0,jP 1,jP 2]) rfl (fun K hK => ?_) (J6);rw [if_pos (by rfl)];refine wp_store_mid 92 _ _ rfl g9 0 (aD (bC O3 XL)).toArray rfl rfl (tn h9) (bQ _) (fC _) ?_;have Oge_8:=aT.setCells (b:=g9) (o:=0) (n:=(aD (bC O3 XL)).length) wge_7 (aD (bC O3 XL)) (JW _) (JW _);replace b:=ac w9l (aD (bC O3 XL)) 0 _ b;replace h9:=h9.stored (aD (bC O3 XL)) (by rw [ao,ao]);replace h2:=h2.far g9 0 (aD (bC O3 XL)) (.inl n29);replace hy:=hy.far g9 0 (aD (bC O3 XL)) (.inl n69)
        obtain ⟨wge_8,hwge_8⟩:∃ W,wge_7.setCells g9 0 (aD (bC O3 XL))=W:=⟨_,rfl⟩
        rw [hwge_8] at h2;rw [hwge_8] at b;rw [hwge_8] at hy;rw [hwge_8] at h9;rw [hwge_8] at Oge_8;rw [show wge_7.setCells g9 0 (aD (bC O3 XL)).toArray.toList=wge_8 from hwge_8];refine hK.out _ _ trivial (fun h => ?_);clear h hK K hwge_8;(try dsimp only [Act.put]);refine J4 (by kernel_rfl) ?_ _;refine J8 ?_
        have cof:∀ W,Calls Tryz.prog 125 #[.agg (aD (bC O3 XL)).toArray,.agg (aD YL).toArray] W fun e w'=>∃ t:P4,e = .returned (.agg (aW t.X t.Y t.Z t.T).toArray)∧t.Rep (eO (cj 0 xr) yn)∧Below W.heap.size W w':=fun W=>nA (eG hO3 hXL hrl) hYr W
        go_wp2_with (first
         | (refine J3 rfl 92 _ rfl g9 0 rfl (aD (bC O3 XL)) _ h9.range Tryz.underlying92 rfl (aG _) ?_)
         | (refine J3 rfl 92 _ rfl g6 0 rfl (aD YL) _ hy.range Tryz.underlying92 rfl (aG _) ?_)
         | (go_at_call 125;refine (cof _).mono ?_;clear cof;rintro e w50 ⟨t,rfl,ht,hb50⟩;(replace h2:=h2.still hb50);(replace b:=aa b hb50);clear hb50;(have t50:w50.there g2 0 (aW t.X t.Y t.Z t.T).toArray.size:=bj h2))
         | (with_reducible (refine id (?_:wpList _ _ _ _ _ _));refine J2 rfl 94 _ _ rfl g2 0 (aW t.X t.Y t.Z t.T).toArray rfl rfl t50 (bt _ _ _ _) (eq _ _ _ _) ?_))
        (try simp only [Exit.inBlock,Exit.then]);exact bodyPost_ret (am Tryz.results57 _ _ g2 0 (aW t.X t.Y t.Z t.T) _ rfl (h2.stored (aW t.X t.Y t.Z t.T) (bk _ _ _ _ _ _ _ _)).range Tryz.underlying94 rfl (dQ _ _ _ _)) rfl ⟨t,0,rfl,.inr ⟨rfl,_,Hs.out,ht⟩,ac w2 _ _ _ b⟩
   · have hod:((bs 31:Nat):Int) / 128=0:=by have:=hbs 31;omega
     rw [hod]
     have Hs:Hid (bv bs=some (eO xr yn)):=Hid.mk' (by
      rw [Hd2.out];show (if bs 31 / 128=1∧xr=0 then none else some (eO (if bs 31 / 128=1 then cj 0 xr else xr) yn))=_
      rw [if_neg hodd,if_neg (fun h=>hodd h.1)])
     clear Hd2
     go_upto_region 12 with (fail)
     go_cut [63] from 11 (fun s63 wc=>s63 = .bool false∧Below U1.heap.size U1 wc)
     case first =>
      clear cz cnul;have hdrew:Below U1.heap.size U1 U1.drew:=(Below.refl _ _).drew;replace h9:=h9.still hdrew;refine wp_region_noPanic ?_;refine wp_region_held_drew (S:=fun w'=>Below U1.drew.heap.size U1.drew w') (by kernel_rfl) (Below.refl _ _) (fun hS => ?_);generalize U1.drew=Vgf_ at *;refine tg 0 hS ?_;(try simp only [pS]);refine tg 1 hS ?_;(try simp only [pS]);refine tg 2 hS ?_;(try simp only [pS]);refine tg 3 hS ?_;(try simp only [pS]);refine tg 4 hS ?_;(try simp only [pS]);refine tg 5 hS ?_;(try simp only [pS]);refine tk 6 undef hS (hy:=(Or.inr ⟨by rfl,rfl⟩)) (h := ?_);(try simp only [pS]);refine tk 7 undef hS (hy:=(Or.inr ⟨by rfl,rfl⟩)) (h := ?_);(try simp only [pS]);refine tk 8 undef hS (hy:=(Or.inr ⟨by rfl,rfl⟩)) (h := ?_);(try simp only [pS]);refine tg 9 hS ?_;(try simp only [pS]);refine tg 10 hS ?_;(try simp only [pS]);refine J4 (by kernel_rfl) ?_ _;refine J8 ?_;go_wp2;go_meet
      case rel=>exact ⟨by rfl,aa hdrew hS⟩
     case rest =>
     obtain ⟨rfl,hb12⟩:=hcut;replace hy:=hy.still hb12;replace h2:=h2.still hb12;replace h9:=h9.still hb12;replace b:=aa b hb12;clear hb12
     have cof:∀ W,Calls Tryz.prog 125 #[.agg (aD XL).toArray,.agg (aD YL).toArray] W fun e w'=>∃ t:P4,e = .returned (.agg (aW t.X t.Y t.Z t.T).toArray)∧t.Rep (eO xr yn)∧Below W.heap.size W w':=fun W=>nA hXL hYr W
     go_wp2_with (first
      | (refine J3 rfl 92 _ rfl g9 0 rfl (aD XL) _ h9.range Tryz.underlying92 rfl (aG _) ?_)
      | (refine J3 rfl 92 _ rfl g6 0 rfl (aD YL) _ hy.range Tryz.underlying92 rfl (aG _) ?_)
      | (go_at_call 125;refine (cof _).mono ?_;clear cof;rintro e w50 ⟨t,rfl,ht,hb50⟩;(replace h2:=h2.still hb50);(replace b:=aa b hb50);clear hb50;(have t50:w50.there g2 0 (aW t.X t.Y t.Z t.T).toArray.size:=bj h2))
      | (with_reducible (refine id (?_:wpList _ _ _ _ _ _));refine J2 rfl 94 _ _ rfl g2 0 (aW t.X t.Y t.Z t.T).toArray rfl rfl t50 (bt _ _ _ _) (eq _ _ _ _) ?_))
     (try simp only [Exit.inBlock,Exit.then]);exact bodyPost_ret (am Tryz.results57 _ _ g2 0 (aW t.X t.Y t.Z t.T) _ rfl (h2.stored (aW t.X t.Y t.Z t.T) (bk _ _ _ _ _ _ _ _)).range Tryz.underlying94 rfl (dQ _ _ _ _)) rfl ⟨t,0,rfl,.inr ⟨rfl,_,Hs.out,ht⟩,ac w2 _ _ _ b⟩
end Go.Proofs.YtibdhadbflfdpaaGreatDoor
