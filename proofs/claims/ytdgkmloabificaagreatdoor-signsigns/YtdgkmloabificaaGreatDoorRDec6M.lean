/- What the proof stands on: RDec6, PtD7, RBase6, SqMath, PtE, Kit, HMath, HSmall. -/
import Derived.Test.YtdgkmloabificaaGreatDoorBaseM
import Derived.Test.YtdgkmloabificaaGreatDoorPNumM
import Derived.Test.YtdgkmloabificaaGreatDoorRRatioM
import Derived.Test.YtdgkmloabificaaGreatDoorRootRefM
import Derived.Test.YtdgkmloabificaaGreatDoorRows
import Derived.BigQuiet
import Derived.ChangeOld
import Derived.ChangeSlices
import Derived.Deep.DeepHandedRow
import Derived.Deep.QuietTactic
import Derived.Laws.Bits64
import Derived.Laws.Bits64b
import Derived.Laws.BitsAllLaws
import Derived.Lib.LaidTab
import Derived.OpenShut
import Derived.ProofKit
import Derived.SizedLaws
import Derived.WalkKit
import Derived.WalkLawsBesides
import Derived.WalkSpells
namespace Go.Proofs.YtdgkmloabificaaGreatDoor
open Go.RowKit
def lo6 (bs:Nat→Nat) (j:Nat):Nat:=if j=31 then bs 31%128 else bs j
theorem lo6_lt {bs:Nat→Nat} (h:∀ j,bs j<256) (j:Nat):lo6 bs j<256:=by
 unfold lo6;split
 · have:=h 31;omega
 · exact h j
theorem and127_u8:∀ b:Nat,b<256→bits .and .u8 (b:Int) 127=((b%128:Nat):Int):=by decide +kernel
def decU (y:Nat):Nat:=fsub (fmul y y) 1
def decV (y:Nat):Nat:=fadd (fmul dN (fmul y y)) 1
def decN (bs:Nat→Nat):Option N4 :=
 if ofB (lo6 bs) 32<pF then
  match rootR kP (decU (ofB (lo6 bs) 32)) (decV (ofB (lo6 bs) 32)) with
  | none=>none
  | some x=>if bs 31 / 128=1∧x=0 then none else some (ofXY (if bs 31 / 128=1 then fsub 0 x else x) (ofB (lo6 bs) 32))
 else none
theorem low_str {X:Nat→Nat} (hX:∀ j,X j<256) (z:Bool) (hz:decide (ofB X 32<pF)=z):((strB 32 (byt (ofB X 32%pF))).toList == (strB 32 X).toList)=z:=by
 rw [←hz]
 by_cases h:ofB X 32<pF
 · rw [decide_eq_true h,Nat.mod_eq_of_lt h]
   have e:strB 32 (byt (ofB X 32))=strB 32 X:=(strB_eq (byt_all _) hX).2 ⟨rfl,fun j hj=>byt_ofB X hX 32 j hj⟩
   rw [e]
   exact beq_self_eq_true _
 · rw [decide_eq_false h,ByteArray.toList_eq,ByteArray.toList_eq]
   refine beq_false_of_ne (fun e=>h ?_)
   have h1:=((strB_eq (byt_all _) hX).1 (WideShapes.bytes_inj e)).2
   have h2:ofB (byt (ofB X 32%pF)) 32=ofB X 32:=ofB_congr 32 h1
   have hl:ofB X 32%pF<pF:=Nat.mod_lt _ pF_pos
   rw [ofB_byt,Nat.mod_eq_of_lt (Nat.lt_trans hl (by decide))] at h2
   omega
theorem opt_lt6 (c:Prop) [Decidable c] (x P:Nat) (h:x<P) (h0:0<P):(if c then some x else none:Option Nat).getD 0<P:=by
 split
 · exact h
 · exact h0
theorem evn_lt6 {x:Nat} (h:x<pF):evn x<pF:=by
 unfold evn
 split
 · exact Nat.mod_lt _ pF_pos
 · exact h
theorem rootR_lt6 (k u v:Nat):(rootR k u v).getD 0<pF:=opt_lt6 _ _ pF (evn_lt6 (rootZ_lt k u v)) pF_pos
def DecEnd (bs:Nat→Nat) (t:P4) (er:Int):Prop:=(er=30∧t.Rep zeroN∧decN bs=none)∨(er=0∧∃ p,decN bs=some p∧t.Rep p)
abbrev qgbx12:Oper:=oN 9 (Op.alloc 66) 0 "ref.go:89" #[]
abbrev qgbx2:Oper:=oN 44 (cF1 73 #[oT 42,oT 43] #[66,66]) 66 "ref.go:89" #[jD 0,jD 1]
abbrev qgbx3:Oper:=oN 45 (cF1 35 #[] #[]) 66 "ref.go:89" #[jC 2]
abbrev qgbx5:Oper:=oN 47 (cF1 71 #[oT 45,oT 46] #[66,66]) 66 "ref.go:89" #[jD 3,jD 4,jC 3]
abbrev qgbx7:Oper:=oN 49 (cF1 74 #[oT 47,oT 48] #[66,66]) 66 "ref.go:89" #[jD 5,jD 6,jC 5]
abbrev qgbx8:Oper:=oN 50 (cF1 72 #[oT 44,oT 49] #[66,66]) 101 "ref.go:89" #[jD 2,jD 7,jC 7]
abbrev qgbx13:Oper:=oS (Op.store 66 (oT 9) (oT 51)) "ref.go:89" #[jD 12,jD 10,jC 8,jP 0,jP 1,jP 2,jP 3,jP 4,jP 5,jP 6,jP 7,jP 8,jP 9,jP 10,jT 11,jP 12]
set_option maxRecDepth 20000 in
set_option maxHeartbeats 8000000 in
theorem rdec_good (v:Value) (bs:Nat→Nat) (hbs:∀ j,bs j<256) (w:World) (hv:BytesIn w v 32 bs) :
 Calls Tryz.prog 31 #[v] w fun e w'=>∃ (t:P4) (er:Int),e = .returned (.tuple #[t.V,.int .i64 er])∧DecEnd bs t er∧Below w.heap.size w w':=by
 have hz:=zeroR
 have hzq:=zeroQ
 obtain ⟨q1,hq1⟩:∃ q,q=bs 31%128:=⟨_,rfl⟩
 have eq1:bits .and .u8 (bs 31:Int) 127=(q1:Int):=by rw [hq1];exact and127_u8 _ (hbs 31)
 have hq3:∀ j,j<32→upd bs 31 q1 j=lo6 bs j:=fun j _=>by unfold lo6 upd;rw [hq1]
 have z0:∀ (w w1:World) (g:Nat),RowAt .u8 w1 g 0 32 bs→Below w.heap.size w w1→w.heap.size≤g→∃ V,V=w1.setCell ⟨g,31,none⟩ (.int .u8 (q1:Int))∧RowAt .u8 V g 0 32 (lo6 bs)∧Below w.heap.size w V:=fun w w1 g hr hb hg=>by
  have r:=hr.set (i:=31) (by decide) (v:=(q1:Int)) rfl
  rw [Nat.zero_add] at r
  exact ⟨_,rfl,r.congr hq3,below_setCells hg [_] 31 _ hb⟩
 have cF:∀ s W,BytesIn W s 32 (lo6 bs)→Calls Tryz.prog 68 #[s] W fun e w'=>e = .returned (.agg (i16 (fromL (lo6 bs))).toArray)∧Below W.heap.size W w':=fun s W h=>rfrom s _ (lo6_lt hbs) W h
 have cz:∀ W,Calls Tryz.prog 67 #[] W fun e w'=>∃ t:P4,e = .returned (.agg (q64 t.X t.Y t.Z t.T).toArray)∧t.Rep zeroN∧Below W.heap.size W w':=fun W=>rzero_any W
 have cD:∀ W,Calls Tryz.prog 35 #[] W fun e w'=>∃ R,e = .returned (rV R)∧Rw R dN∧Below W.heap.size W w':=fun W=>rD_any W
 have cone:∀ W,Calls Tryz.prog 70 #[.int .i64 1] W fun e w'=>∃ R,e = .returned (.agg (i16 R).toArray)∧Rw R 1∧Below W.heap.size W w':=small_w 1 (by decide)
 have cnul:∀ W,Calls Tryz.prog 70 #[.int .i64 0] W fun e w'=>∃ R,e = .returned (rV R)∧Rw R 0∧Below W.heap.size W w':=small_w 0 (by decide)
 obtain ⟨YL,hYL⟩:∃ L,L=fromL (lo6 bs):=⟨_,rfl⟩
 obtain ⟨yn,hyn⟩:∃ n,n=ofB (lo6 bs) 32:=⟨_,rfl⟩
 have hYr:Rw YL yn:=by rw [hYL,hyn];exact (rep_from _ (lo6_lt hbs)).wide
 have cB:∀ W,Calls Tryz.prog 69 #[rV YL] W fun e w'=>∃ v,e = .returned v∧Own W.heap.size w' v 32 (byt (yn%pF))∧Below W.heap.size W w':=fun W=>rbytes YL (hYr.dig.mono (by decide)) yn hYr.val W
 obtain ⟨z,hzz⟩:∃ z,decide (yn<pF)=z:=⟨_,rfl⟩
 have hstr:((strB 32 (byt (yn%pF))).toList == (strB 32 (lo6 bs)).toList)=z:=by rw [hyn] at hzz ⊢;exact low_str (lo6_lt hbs) z hzz
 have dec0:decN bs=if yn<pF then (match rootR kP (decU yn) (decV yn) with | none=>none | some x=>if bs 31 / 128=1∧x=0 then none else some (ofXY (if bs 31 / 128=1 then fsub 0 x else x) yn)) else none:=by rw [hyn];rfl
 have Hd:=Hid.mk' dec0
 have Hz:=Hid.mk' hzz
 rw [←hYL] at cF
 clear hYL hyn dec0 hzz
 obtain ⟨bb,ob,cap,hsl,hlb,hcap,hc⟩:∃ bb ob cap,v = .slice (some ⟨bb,ob,none⟩) 32 cap∧bb<w.heap.size∧32≤cap∧∀ j,j<32→w.cell? ⟨bb,ob+j,none⟩=some (.int .u8 (bs j)):=hv.resolve_left (fun ⟨_,_,h⟩=>by omega)
 obtain ⟨W,g2,eW,hg2,b,h2⟩:=freshQ w
 have HW:Hid (w.alloc (.cells zQ 68)=W):=Hid.mk' eW
 have Hg:Hid (w.heap.size=g2):=Hid.mk' hg2
 have w2:w.heap.size≤g2:=Nat.le_of_eq hg2
 have src0:=(BytesIn.src hv)
 subst hsl
 obtain ⟨xo,kv,hxo,hun,-,hsrc⟩:=src0
 have c31:=hc 31 (by decide)
 have src1:=hsrc (W.alloc (.cells #[] 5)) (b.alloc b.size _)
 obtain ⟨rfl,rfl⟩:some (⟨bb,ob,none⟩:Addr)=xo∧cap=kv:=by injection hxo with a b c;exact ⟨a,c⟩
 clear eW hg2 hsrc hxo hq1 hq3 hv hc
 go_enter Tryz.func31,Tryz.ntmps31
 go_upto_region 4 with (fail)
 rw [HW.out,Hg.out]
 (try simp only [pS])
 clear HW Hg c31
 go_upto_region 7 with (first
  | (at_builtin;refine wpList_append_empty rfl (.tmp 19) (.tmp 20) rfl W.heap.size bs _ rfl rfl (some ⟨bb,ob,none⟩) 32 cap rfl src1 hun (by omega) (Nat.le_refl _) ?_;intro v4 w4 own4 hb4;clear src1;(obtain ⟨g4,cap4,hv4,hg4,hgl4,hcap4,row4⟩:∃ g cap,v4 = .slice (some ⟨g,0,none⟩) 32 cap∧W.heap.size≤g∧g<w4.heap.size∧32≤cap∧RowAt .u8 w4 g 0 32 bs:=own4.form.resolve_left (fun h=>by omega));subst hv4;clear own4;(have c31:=(row4 31 (by decide)).1);(have f31:=(row4 31 (by decide)).2);rw [Nat.zero_add] at c31 f31;(obtain ⟨V4,hV4,rz,hbV4⟩:=z0 _ _ _ row4 hb4 hg4);(have HV4:=Hid.mk' hV4);(have n24:g4≠g2:=by (have:=h2.lt;omega));clear hV4 z0 row4 hb4;(replace h2:=h2.still hbV4);(replace b:=below_next b hbV4);clear hbV4)
  | (go_at_call 68;rw [←HV4.out];refine (cF _ _ (.inr ⟨g4,0,cap4,rfl,block_lt_of_cell (rz 0 (by decide)).1,hcap4,fun j hj=>(rz j hj).1⟩)).mono ?_;clear cF HV4 c31 f31;rintro e w5 ⟨rfl,hb5⟩;(have l4:=block_lt_of_cell (rz 0 (by decide)).1);(replace rz:=rz.below hb5 l4);(replace h2:=h2.still hb5);(replace b:=below_next b hb5);clear hb5 l4;(have z5:=freshR' w5);(have t5:=freshRt w5 (YL));(obtain ⟨V6,hV6⟩:∃ V,V=(w5.alloc (.cells zI 66)).setCells w5.heap.size 0 (i16 (YL)):=⟨_,rfl⟩);(have hy:RW V6 w5.heap.size 0 (i16 (YL)):=by rw [hV6];exact z5.stored _ (by rw [i16_len,i16_len]));(have b6:Below w5.heap.size w5 V6:=by rw [hV6];exact below_setCells (Nat.le_refl _) _ _ _ ((Below.refl _ _).alloc (Nat.le_refl _) _));(have HV6:=Hid.mk' hV6);(have n26:w5.heap.size≠g2:=by (have:=h2.lt;omega));clear hV6 z5;(replace rz:=rz.below b6 (block_lt_of_cell (rz 0 (by decide)).1));(replace h2:=h2.still b6);(replace b:=below_next b b6);clear b6)
  | (with_reducible (refine id (?_:wpList _ _ _ _ _ _));refine wpList_store_mid rfl 66 _ _ rfl w5.heap.size 0 (i16 (YL)).toArray rfl rfl t5 (infoIA _) (oneI _) ?_;rw [List.toList_toArray,←HV6.out];clear t5 HV6))
 (try dsimp only [Act.put])
 generalize w5.heap.size=g6 at *
 have tl:Str V6 (.slice (some ⟨g4,0,none⟩) 32 cap4) (strB 32 (lo6 bs)):=Str.of (.inr ⟨g4,0,cap4,rfl,block_lt_of_cell (rz 0 (by decide)).1,hcap4,fun j hj=>(rz j hj).1⟩) (lo6_lt hbs)
 go_cut [35] from 11 (fun s35 wc=>s35 = .bool (!z)∧Below V6.heap.size V6 wc)
 case first =>
  have hw:=Below.refl V6.heap.size V6
  clear cz cD cone cnul
  have hdrew:Below V6.heap.size V6 V6.drew:=(Below.refl _ _).drew
  replace hy:=hy.still hdrew
  replace tl:=tl.still hdrew
  replace hw:=below_next hw hdrew
  clear hdrew
  refine wp_region_noPanic ?_
  refine wp_region_held_drew (S:=fun w'=>Below V6.drew.heap.size V6.drew w') (by kernel_rfl) (Below.refl _ _) (fun hHeld => ?_)
  clear hHeld
  refine tkH 0 (oN 30 (Op.load 66 (oT 6)) 66 "ref.go:84" #[]) (rV YL) bR (ldH hy 66 6 Tryz.underlying66 (infoI _)) ?_
  (try simp only [pS])
  refine tkH 3 (oN 33 (Op.move (oT 5)) 22 "ref.go:84" #[]) ?vga3 bR (Or.inl ⟨by rfl,?hga3⟩) ?rga3
  case hga3 =>
   intro w hSw
   go_simp
   try with_reducible rfl
  (try simp only [pS])
  refine tkH 4 (oN 34 (Op.convert 22 9 (oT 33)) 9 "ref.go:84" #[jD 3]) ?vga4 bR (Or.inl ⟨by rfl,?hga4⟩) ?rga4
  case hga4 =>
   intro w hSw
   have q:=tl.conv w hSw
   go_simp
   try with_reducible rfl
  (try simp only [pS])
  refine callN 1 (oN 31 (cF1 69 #[oT 30] #[66]) 22 "ref.go:84" #[jD 0]) (cB _) ?_
  (clear cB;rintro e w7 ⟨v7,rfl,own7,hb7⟩;(have t7:=Str.of (BytesIn.of_own own7) (byt_all _));(obtain ⟨x7,n7,k7,rfl⟩:=t7.form);clear own7)
  refine ⟨_,rfl,hb7,?_⟩
  replace hy:=hy.still hb7
  replace tl:=tl.still hb7
  replace hw:=below_next hw hb7
  clear hb7
  (try simp only [pS])
  refine tkH 2 (oN 32 (Op.convert 22 9 (oT 31)) 9 "ref.go:84" #[jD 1]) ?vga2 bR (Or.inl ⟨by rfl,?hga2⟩) ?rga2
  case hga2 =>
   intro w hSw
   have q:=t7.conv w hSw
   go_simp
   try with_reducible rfl
  (try simp only [pS])
  refine tkH 5 (oN 35 (Op.binOp BinOp.neq 9 (oT 32) (oT 34) 9) 4 "ref.go:84" #[jD 2,jD 4]) ?vga5 bR (Or.inl ⟨by rfl,?hga5⟩) ?rga5
  case hga5 =>
   intro w hSw
   go_simp
   try with_reducible rfl
  (try simp only [pS])
  refine wpAnyH_done (by kernel_rfl) ?_ _
  refine NoPanic.normal ?_
  go_wp2
  go_meet
  case rel=>exact ⟨by rfl,hw⟩
 case rest =>
 obtain ⟨rfl,hb7⟩:=hcut
 replace hy:=hy.still hb7
 replace h2:=h2.still hb7
 replace b:=below_next b hb7
 have l6:=hy.lt
 clear hb7 tl rz cB hstr
 cases z with
 | false =>
  go_wp2_with (first
   | (go_at_call 67;refine (cz _).mono ?_;clear cz;rintro e w40 ⟨t,rfl,ht,hb40⟩;(replace h2:=h2.still hb40);(replace b:=below_next b hb40);clear hb40;(have t40:w40.there g2 0 (q64 t.X t.Y t.Z t.T).toArray.size:=there64 h2))
   | (with_reducible (refine id (?_:wpList _ _ _ _ _ _));refine wpList_store_mid rfl 68 _ _ rfl g2 0 (q64 t.X t.Y t.Z t.T).toArray rfl rfl t40 (infoQA _ _ _ _) (oneQ _ _ _ _) ?_))
  (try simp only [Exit.inBlock,Exit.then])
  exact bodyPost_ret (results_cell_tmp Tryz.results31 _ _ g2 0 (q64 t.X t.Y t.Z t.T) _ rfl (h2.stored (q64 t.X t.Y t.Z t.T) (q64_same _ _ _ _ _ _ _ _)).range Tryz.underlying68 rfl (infoQ _ _ _ _)) rfl ⟨t,30,rfl,.inl ⟨rfl,ht,by rw [Hd.out,if_neg (of_decide_eq_false Hz.out)]⟩,below_setCells w2 _ _ _ b⟩
 | true =>
  have hyl:yn<pF:=of_decide_eq_true Hz.out
  have Hd2:Hid (decN bs=match rootR kP (decU yn) (decV yn) with | none=>none | some x=>if bs 31 / 128=1∧x=0 then none else some (ofXY (if bs 31 / 128=1 then fsub 0 x else x) yn)):=Hid.mk' (by rw [Hd.out,if_pos hyl])
  clear Hd Hz
  have cyy:∀ W,Calls Tryz.prog 71 #[.agg (i16 YL).toArray,.agg (i16 YL).toArray] W fun e w'=>e = .returned (.agg (i16 (timesL YL YL)).toArray)∧Below W.heap.size W w':=fun W=>rtimes_w hYr hYr W
  have hYY:Rw (timesL YL YL) (fmul yn yn):=rw_t hYr hYr
  generalize timesL YL YL=YY at *
  go_upto_region 11 with (first
   | (go_at_call 70;refine (cone _).mono ?_;clear cone;rintro e w8 ⟨O,rfl,hO,hb8⟩;(replace hy:=hy.still hb8);(replace h2:=h2.still hb8);(replace b:=below_next b hb8);clear hb8;(have z8:=freshR' w8);(have t8:=freshRt w8 O);(obtain ⟨V8,hV8⟩:∃ V,V=(w8.alloc (.cells zI 66)).setCells w8.heap.size 0 (i16 O):=⟨_,rfl⟩);(have h7:RW V8 w8.heap.size 0 (i16 O):=by rw [hV8];exact z8.stored _ (by rw [i16_len,i16_len]));(have b8:Below w8.heap.size w8 V8:=by rw [hV8];exact below_setCells (Nat.le_refl _) _ _ _ ((Below.refl _ _).alloc (Nat.le_refl _) _));(have H8:=Hid.mk' hV8);clear hV8 z8;(replace hy:=hy.still b8);(replace h2:=h2.still b8);(replace b:=below_next b b8);clear b8)
   | (with_reducible (refine id (?_:wpList _ _ _ _ _ _));refine wpList_store_mid rfl 66 _ _ rfl w8.heap.size 0 (i16 O).toArray rfl rfl t8 (infoIA _) (oneI _) ?_;rw [List.toList_toArray,←H8.out];clear t8 H8)
   | (refine wpList_load_mid rfl 66 _ rfl g6 0 rfl (i16 YL) _ hy.range Tryz.underlying66 rfl (infoI _) ?_)
   | (go_at_call 71;refine (cyy _).mono ?_;clear cyy;rintro e w9 ⟨rfl,hb9⟩;(replace hy:=hy.still hb9);(replace h2:=h2.still hb9);(replace h7:=h7.still hb9);(replace b:=below_next b hb9);clear hb9;(have z9:=freshR' w9);(have t9:=freshRt w9 YY);(obtain ⟨V9,hV9⟩:∃ V,V=(w9.alloc (.cells zI 66)).setCells w9.heap.size 0 (i16 YY):=⟨_,rfl⟩);(have h8:RW V9 w9.heap.size 0 (i16 YY):=by rw [hV9];exact z9.stored _ (by rw [i16_len,i16_len]));(have b9:Below w9.heap.size w9 V9:=by rw [hV9];exact below_setCells (Nat.le_refl _) _ _ _ ((Below.refl _ _).alloc (Nat.le_refl _) _));(have H9:=Hid.mk' hV9);clear hV9 z9;(replace hy:=hy.still b9);(replace h2:=h2.still b9);(replace h7:=h7.still b9);(replace b:=below_next b b9);clear b9)
   | (with_reducible (refine id (?_:wpList _ _ _ _ _ _));refine wpList_store_mid rfl 66 _ _ rfl w9.heap.size 0 (i16 YY).toArray rfl rfl t9 (infoIA _) (oneI _) ?_;rw [List.toList_toArray,←H9.out];clear t9 H9))
  (try dsimp only [Act.put])
  generalize w8.heap.size=g7 at *
  generalize w9.heap.size=g8 at *
  have cU:=fun W=>rminus_w hYY hO W
  have hU:Rw (minusL YY O) (decU yn):=rww_minus hYY hO (by decide)
  have cT:=fun (D:Nat→Int) (hD:Rw D dN) W=>rtimes_w hD hYY W
  have cP:=fun (D:Nat→Int) (hD:Rw D dN) W=>rplus_w (rw_t hD hYY) hO W
  have cR:=fun (D:Nat→Int) (hD:Rw D dN) W=>rratio_wide (minusL YY O) (plusL (timesL D YY) O) (decU yn) (decV yn) hU (rww_plus (rw_t hD hYY) hO) (fsub_lt _ _) (fadd_lt _ _) W
  obtain ⟨rt,hrt⟩:∃ rt,rt=rootR kP (decU yn) (decV yn):=⟨_,rfl⟩
  rw [←hrt] at cR Hd2
  have hrl:rt.getD 0<pF:=by rw [hrt];exact rootR_lt6 _ _ _
  clear hrt hU hyl
  go_cut [9,10] from 11 (fun s9 s10 wc=>∃ g9 XL,s9 = .pointer (some ⟨g9,0,none⟩)∧s10 = .bool rt.isSome∧Rw XL (rt.getD 0)∧Below V9.heap.size V9 wc∧V9.heap.size≤g9∧RW wc g9 0 (i16 XL))
  case first =>
   clear cz cnul
   have hdrew:Below V9.heap.size V9 V9.drew:=(Below.refl _ _).drew
   replace h7:=h7.still hdrew
   replace h8:=h8.still hdrew
   refine wp_region_noPanic ?_
   refine wp_region_held_drew (S:=fun w'=>Below V9.drew.heap.size V9.drew w') (by kernel_rfl) (Below.refl _ _) (fun hS => ?_)
   generalize V9.drew=Vgb_ at *
   refine tkH 0 (oN 42 (Op.load 66 (oT 8)) 66 "ref.go:89" #[]) (rV YY) hS (ldH h8 66 8 Tryz.underlying66 (infoI _)) ?_
   (try simp only [pS])
   refine tkH 1 (oN 43 (Op.load 66 (oT 7)) 66 "ref.go:89" #[]) (rV O) hS (ldH h7 66 7 Tryz.underlying66 (infoI _)) ?_
   (try simp only [pS])
   refine tkH 4 (oN 46 (Op.load 66 (oT 8)) 66 "ref.go:89" #[]) (rV YY) hS (ldH h8 66 8 Tryz.underlying66 (infoI _)) ?_
   (try simp only [pS])
   refine tkH 6 (oN 48 (Op.load 66 (oT 7)) 66 "ref.go:89" #[]) (rV O) hS (ldH h7 66 7 Tryz.underlying66 (infoI _)) ?_
   (try simp only [pS])
   refine wpAnyH_ready (rs:=[2,12]) (by kernel_rfl) (by simp) ?_
   refine AllReadyH.cons (o:=qgbx2) rfl (fun K hK => ?_) (AllReadyH.cons (o:=qgbx12) rfl (fun K hK => ?_) (AllReadyH.nil))
   · unfold qgbx2
     go_simp
     (go_at_call 73;refine (cU _).mono ?_;rintro e wgb_1 ⟨rfl,hbgb_1⟩)
     (try go_simp)
     have hSgb_1:=below_next hS hbgb_1
     refine hK.out _ _ hSgb_1 (fun h => ?_)
     clear h hK K hbgb_1
     (try simp only [pS])
     refine wpAnyH_ready (rs:=[3,12]) (by kernel_rfl) (by simp) ?_
     refine AllReadyH.cons (o:=qgbx3) rfl (fun K hK => ?_) (AllReadyH.cons (o:=qgbx12) rfl (fun K hK => ?_) (AllReadyH.nil))
     · unfold qgbx3
       go_simp
       (go_at_call 35;refine (cD _).mono ?_;rintro e wgb_2 ⟨DL,rfl,hDL,hbgb_2⟩)
       (try go_simp)
       have hSgb_2:=below_next hSgb_1 hbgb_2
       refine hK.out _ _ hSgb_2 (fun h => ?_)
       clear h hK K hbgb_2
       (try simp only [pS])
       refine wpAnyH_ready (rs:=[5,12]) (by kernel_rfl) (by simp) ?_
       refine AllReadyH.cons (o:=qgbx5) rfl (fun K hK => ?_) (AllReadyH.cons (o:=qgbx12) rfl (fun K hK => ?_) (AllReadyH.nil))
       · unfold qgbx5
         go_simp
         (go_at_call 71;refine (cT DL hDL _).mono ?_;rintro e wgb_3 ⟨rfl,hbgb_3⟩)
         (try go_simp)
         have hSgb_3:=below_next hSgb_2 hbgb_3
         refine hK.out _ _ hSgb_3 (fun h => ?_)
         clear h hK K hbgb_3
         (try simp only [pS])
         refine wpAnyH_ready (rs:=[7,12]) (by kernel_rfl) (by simp) ?_
         refine AllReadyH.cons (o:=qgbx7) rfl (fun K hK => ?_) (AllReadyH.cons (o:=qgbx12) rfl (fun K hK => ?_) (AllReadyH.nil))
         · unfold qgbx7
           go_simp
           (go_at_call 74;refine (cP DL hDL _).mono ?_;rintro e wgb_4 ⟨rfl,hbgb_4⟩)
           (try go_simp)
           have hSgb_4:=below_next hSgb_3 hbgb_4
           refine hK.out _ _ hSgb_4 (fun h => ?_)
           clear h hK K hbgb_4
           (try simp only [pS])
           refine wpAnyH_ready (rs:=[8,12]) (by kernel_rfl) (by simp) ?_
           refine AllReadyH.cons (o:=qgbx8) rfl (fun K hK => ?_) (AllReadyH.cons (o:=qgbx12) rfl (fun K hK => ?_) (AllReadyH.nil))
           · unfold qgbx8
             go_simp
             (go_at_call 72;refine (cR DL hDL _).mono ?_;rintro e wgb_5 ⟨XL,rfl,hXL,hbgb_5⟩)
             (try go_simp)
             have hSgb_5:=below_next hSgb_4 hbgb_5
             refine hK.out _ _ hSgb_5 (fun h => ?_)
             clear h hK K hbgb_5
             (try simp only [pS])
             refine tkH 9 (oN 41 (Op.move (oT 50)) 101 "ref.go:89" #[jD 8]) ?vgb_6 hSgb_5 (Or.inl ⟨by rfl,?hgb_6⟩) ?rgb_6
             case hgb_6 =>
              intro w hSw
              go_simp
              try with_reducible rfl
             (try simp only [pS])
             refine tkH 10 (oN 51 (Op.extract (oT 41) 0) 66 "ref.go:89" #[jD 9]) ?vgb_7 hSgb_5 (Or.inl ⟨by rfl,?hgb_7⟩) ?rgb_7
             case hgb_7 =>
              intro w hSw
              go_simp
              try with_reducible rfl
             (try simp only [pS])
             refine tkH 11 (oN 52 (Op.extract (oT 41) 1) 4 "ref.go:89" #[jD 9,jO 13]) ?vgb_8 hSgb_5 (Or.inl ⟨by rfl,?hgb_8⟩) ?rgb_8
             case hgb_8 =>
              intro w hSw
              go_simp
              try with_reducible rfl
             (try simp only [pS])
             refine wpAnyH_ready (rs:=[12]) (by kernel_rfl) (by simp) ?_
             refine AllReadyH.cons (o:=qgbx12) rfl (fun K hK => ?_) (AllReadyH.nil)
             unfold qgbx12
             go_simp
             obtain ⟨wgb_9,ggb_9,hwgb_9,hggb_9,hbgb_9,rgb_9⟩:=freshR wgb_5
             rw [hwgb_9,hggb_9]
             have hSgb_9:=below_next hSgb_5 hbgb_9
             have Ggb_9:Vgb_.heap.size≤ggb_9:=by have:=hSgb_5.size;omega
             refine hK.out _ _ hSgb_9 (fun h => ?_)
             clear h hK K hbgb_9 hwgb_9 hggb_9
             (try simp only [pS])
             refine wpAnyH_ready (rs:=[13]) (by kernel_rfl) (by simp) ?_
             refine AllReadyH.cons (o:=qgbx13) rfl (fun K hK => ?_) (AllReadyH.nil)
             unfold qgbx13
             rw [if_pos (by rfl)]
             refine ref_store _ _ rfl ggb_9 (fun _=>0) XL rfl rfl rgb_9 hSgb_9 Ggb_9 (fun wgb_10 r0 hSgb_10 => ?_)
             refine hK.out _ _ hSgb_10 (fun h => ?_)
             clear h hK K rgb_9
             have rgb_9:=r0
             clear r0
             (try dsimp only [Act.put])
             refine tkH 14 (oN 10 (Op.assign (oT 52)) 4 "ref.go:89" #[jD 11,jC 13,jP 0,jP 1,jP 2,jP 3,jP 4,jP 5,jP 6,jP 7,jP 8,jP 9,jP 10,jP 11,jP 12,jP 13]) ?vgb_11 hSgb_10 (Or.inl ⟨by rfl,?hgb_11⟩) ?rgb_11
             case hgb_11 =>
              intro w hSw
              go_simp
              try with_reducible rfl
             (try simp only [pS])
             refine wpAnyH_done (by kernel_rfl) ?_ _
             refine NoPanic.normal ?_
             go_wp2
             go_meet
             case rel=>exact ⟨ggb_9,XL,rfl,rfl,hXL,below_next hdrew hSgb_10,Nat.le_trans hdrew.size Ggb_9,rgb_9⟩
           · unfold qgbx12
             go_simp
             obtain ⟨wgb_12,ggb_12,hwgb_12,hggb_12,hbgb_12,rgb_12⟩:=freshR wgb_4
             rw [hwgb_12,hggb_12]
             have hSgb_12:=below_next hSgb_4 hbgb_12
             have Ggb_12:Vgb_.heap.size≤ggb_12:=by have:=hSgb_4.size;omega
             refine hK.out _ _ hSgb_12 (fun h => ?_)
             clear h hK K hbgb_12 hwgb_12 hggb_12
             (try simp only [pS])
             refine callH 8 (oN 50 (cF1 72 #[oT 44,oT 49] #[66,66]) 101 "ref.go:89" #[jD 2,jD 7,jC 7]) (cR DL hDL _) ?_
             (rintro e wgb_13 ⟨XL,rfl,hXL,hbgb_13⟩)
             have hSgb_13:=below_next hSgb_12 hbgb_13
             replace rgb_12:=rgb_12.still hbgb_13
             refine ⟨_,rfl,hSgb_13,?_⟩
             clear hbgb_13
             (try simp only [pS])
             refine tkH 9 (oN 41 (Op.move (oT 50)) 101 "ref.go:89" #[jD 8]) ?vgb_14 hSgb_13 (Or.inl ⟨by rfl,?hgb_14⟩) ?rgb_14
             case hgb_14 =>
              intro w hSw
              go_simp
              try with_reducible rfl
             (try simp only [pS])
             refine tkH 10 (oN 51 (Op.extract (oT 41) 0) 66 "ref.go:89" #[jD 9]) ?vgb_15 hSgb_13 (Or.inl ⟨by rfl,?hgb_15⟩) ?rgb_15
             case hgb_15 =>
              intro w hSw
              go_simp
              try with_reducible rfl
             (try simp only [pS])
             refine tkH 11 (oN 52 (Op.extract (oT 41) 1) 4 "ref.go:89" #[jD 9,jO 13]) ?vgb_16 hSgb_13 (Or.inl ⟨by rfl,?hgb_16⟩) ?rgb_16
             case hgb_16 =>
              intro w hSw
              go_simp
              try with_reducible rfl
             (try simp only [pS])
             refine wpAnyH_ready (rs:=[13]) (by kernel_rfl) (by simp) ?_
             refine AllReadyH.cons (o:=qgbx13) rfl (fun K hK => ?_) (AllReadyH.nil)
             unfold qgbx13
             rw [if_pos (by rfl)]
             refine ref_store _ _ rfl ggb_12 (fun _=>0) XL rfl rfl rgb_12 hSgb_13 Ggb_12 (fun wgb_17 r0 hSgb_17 => ?_)
             refine hK.out _ _ hSgb_17 (fun h => ?_)
             clear h hK K rgb_12
             have rgb_12:=r0
             clear r0
             (try dsimp only [Act.put])
             refine tkH 14 (oN 10 (Op.assign (oT 52)) 4 "ref.go:89" #[jD 11,jC 13,jP 0,jP 1,jP 2,jP 3,jP 4,jP 5,jP 6,jP 7,jP 8,jP 9,jP 10,jP 11,jP 12,jP 13]) ?vgb_18 hSgb_17 (Or.inl ⟨by rfl,?hgb_18⟩) ?rgb_18
             case hgb_18 =>
              intro w hSw
              go_simp
              try with_reducible rfl
             (try simp only [pS])
             refine wpAnyH_done (by kernel_rfl) ?_ _
             refine NoPanic.normal ?_
             go_wp2
             go_meet
             case rel=>exact ⟨ggb_12,XL,rfl,rfl,hXL,below_next hdrew hSgb_17,Nat.le_trans hdrew.size Ggb_12,rgb_12⟩
         · unfold qgbx12
           go_simp
           obtain ⟨wgb_19,ggb_19,hwgb_19,hggb_19,hbgb_19,rgb_19⟩:=freshR wgb_3
           rw [hwgb_19,hggb_19]
           have hSgb_19:=below_next hSgb_3 hbgb_19
           have Ggb_19:Vgb_.heap.size≤ggb_19:=by have:=hSgb_3.size;omega
           refine hK.out _ _ hSgb_19 (fun h => ?_)
           clear h hK K hbgb_19 hwgb_19 hggb_19
           (try simp only [pS])
           refine callH 7 (oN 49 (cF1 74 #[oT 47,oT 48] #[66,66]) 66 "ref.go:89" #[jD 5,jD 6,jC 5]) (cP DL hDL _) ?_
           (rintro e wgb_20 ⟨rfl,hbgb_20⟩)
           have hSgb_20:=below_next hSgb_19 hbgb_20
           replace rgb_19:=rgb_19.still hbgb_20
           refine ⟨_,rfl,hSgb_20,?_⟩
           clear hbgb_20
           (try simp only [pS])
           refine callH 8 (oN 50 (cF1 72 #[oT 44,oT 49] #[66,66]) 101 "ref.go:89" #[jD 2,jD 7,jC 7]) (cR DL hDL _) ?_
           (rintro e wgb_21 ⟨XL,rfl,hXL,hbgb_21⟩)
           have hSgb_21:=below_next hSgb_20 hbgb_21
           replace rgb_19:=rgb_19.still hbgb_21
           refine ⟨_,rfl,hSgb_21,?_⟩
           clear hbgb_21
           (try simp only [pS])
           refine tkH 9 (oN 41 (Op.move (oT 50)) 101 "ref.go:89" #[jD 8]) ?vgb_22 hSgb_21 (Or.inl ⟨by rfl,?hgb_22⟩) ?rgb_22
           case hgb_22 =>
            intro w hSw
            go_simp
            try with_reducible rfl
           (try simp only [pS])
           refine tkH 10 (oN 51 (Op.extract (oT 41) 0) 66 "ref.go:89" #[jD 9]) ?vgb_23 hSgb_21 (Or.inl ⟨by rfl,?hgb_23⟩) ?rgb_23
           case hgb_23 =>
            intro w hSw
            go_simp
            try with_reducible rfl
           (try simp only [pS])
           refine tkH 11 (oN 52 (Op.extract (oT 41) 1) 4 "ref.go:89" #[jD 9,jO 13]) ?vgb_24 hSgb_21 (Or.inl ⟨by rfl,?hgb_24⟩) ?rgb_24
           case hgb_24 =>
            intro w hSw
            go_simp
            try with_reducible rfl
           (try simp only [pS])
           refine wpAnyH_ready (rs:=[13]) (by kernel_rfl) (by simp) ?_
           refine AllReadyH.cons (o:=qgbx13) rfl (fun K hK => ?_) (AllReadyH.nil)
           unfold qgbx13
           rw [if_pos (by rfl)]
           refine ref_store _ _ rfl ggb_19 (fun _=>0) XL rfl rfl rgb_19 hSgb_21 Ggb_19 (fun wgb_25 r0 hSgb_25 => ?_)
           refine hK.out _ _ hSgb_25 (fun h => ?_)
           clear h hK K rgb_19
           have rgb_19:=r0
           clear r0
           (try dsimp only [Act.put])
           refine tkH 14 (oN 10 (Op.assign (oT 52)) 4 "ref.go:89" #[jD 11,jC 13,jP 0,jP 1,jP 2,jP 3,jP 4,jP 5,jP 6,jP 7,jP 8,jP 9,jP 10,jP 11,jP 12,jP 13]) ?vgb_26 hSgb_25 (Or.inl ⟨by rfl,?hgb_26⟩) ?rgb_26
           case hgb_26 =>
            intro w hSw
            go_simp
            try with_reducible rfl
           (try simp only [pS])
           refine wpAnyH_done (by kernel_rfl) ?_ _
           refine NoPanic.normal ?_
           go_wp2
           go_meet
           case rel=>exact ⟨ggb_19,XL,rfl,rfl,hXL,below_next hdrew hSgb_25,Nat.le_trans hdrew.size Ggb_19,rgb_19⟩
       · unfold qgbx12
         go_simp
         obtain ⟨wgb_27,ggb_27,hwgb_27,hggb_27,hbgb_27,rgb_27⟩:=freshR wgb_2
         rw [hwgb_27,hggb_27]
         have hSgb_27:=below_next hSgb_2 hbgb_27
         have Ggb_27:Vgb_.heap.size≤ggb_27:=by have:=hSgb_2.size;omega
         refine hK.out _ _ hSgb_27 (fun h => ?_)
         clear h hK K hbgb_27 hwgb_27 hggb_27
         (try simp only [pS])
         refine callH 5 (oN 47 (cF1 71 #[oT 45,oT 46] #[66,66]) 66 "ref.go:89" #[jD 3,jD 4,jC 3]) (cT DL hDL _) ?_
         (rintro e wgb_28 ⟨rfl,hbgb_28⟩)
         have hSgb_28:=below_next hSgb_27 hbgb_28
         replace rgb_27:=rgb_27.still hbgb_28
         refine ⟨_,rfl,hSgb_28,?_⟩
         clear hbgb_28
         (try simp only [pS])
         refine callH 7 (oN 49 (cF1 74 #[oT 47,oT 48] #[66,66]) 66 "ref.go:89" #[jD 5,jD 6,jC 5]) (cP DL hDL _) ?_
         (rintro e wgb_29 ⟨rfl,hbgb_29⟩)
         have hSgb_29:=below_next hSgb_28 hbgb_29
         replace rgb_27:=rgb_27.still hbgb_29
         refine ⟨_,rfl,hSgb_29,?_⟩
         clear hbgb_29
         (try simp only [pS])
         refine callH 8 (oN 50 (cF1 72 #[oT 44,oT 49] #[66,66]) 101 "ref.go:89" #[jD 2,jD 7,jC 7]) (cR DL hDL _) ?_
         (rintro e wgb_30 ⟨XL,rfl,hXL,hbgb_30⟩)
         have hSgb_30:=below_next hSgb_29 hbgb_30
         replace rgb_27:=rgb_27.still hbgb_30
         refine ⟨_,rfl,hSgb_30,?_⟩
         clear hbgb_30
         (try simp only [pS])
         refine tkH 9 (oN 41 (Op.move (oT 50)) 101 "ref.go:89" #[jD 8]) ?vgb_31 hSgb_30 (Or.inl ⟨by rfl,?hgb_31⟩) ?rgb_31
         case hgb_31 =>
          intro w hSw
          go_simp
          try with_reducible rfl
         (try simp only [pS])
         refine tkH 10 (oN 51 (Op.extract (oT 41) 0) 66 "ref.go:89" #[jD 9]) ?vgb_32 hSgb_30 (Or.inl ⟨by rfl,?hgb_32⟩) ?rgb_32
         case hgb_32 =>
          intro w hSw
          go_simp
          try with_reducible rfl
         (try simp only [pS])
         refine tkH 11 (oN 52 (Op.extract (oT 41) 1) 4 "ref.go:89" #[jD 9,jO 13]) ?vgb_33 hSgb_30 (Or.inl ⟨by rfl,?hgb_33⟩) ?rgb_33
         case hgb_33 =>
          intro w hSw
          go_simp
          try with_reducible rfl
         (try simp only [pS])
         refine wpAnyH_ready (rs:=[13]) (by kernel_rfl) (by simp) ?_
         refine AllReadyH.cons (o:=qgbx13) rfl (fun K hK => ?_) (AllReadyH.nil)
         unfold qgbx13
         rw [if_pos (by rfl)]
         refine ref_store _ _ rfl ggb_27 (fun _=>0) XL rfl rfl rgb_27 hSgb_30 Ggb_27 (fun wgb_34 r0 hSgb_34 => ?_)
         refine hK.out _ _ hSgb_34 (fun h => ?_)
         clear h hK K rgb_27
         have rgb_27:=r0
         clear r0
         (try dsimp only [Act.put])
         refine tkH 14 (oN 10 (Op.assign (oT 52)) 4 "ref.go:89" #[jD 11,jC 13,jP 0,jP 1,jP 2,jP 3,jP 4,jP 5,jP 6,jP 7,jP 8,jP 9,jP 10,jP 11,jP 12,jP 13]) ?vgb_35 hSgb_34 (Or.inl ⟨by rfl,?hgb_35⟩) ?rgb_35
         case hgb_35 =>
          intro w hSw
          go_simp
          try with_reducible rfl
         (try simp only [pS])
         refine wpAnyH_done (by kernel_rfl) ?_ _
         refine NoPanic.normal ?_
         go_wp2
         go_meet
         case rel=>exact ⟨ggb_27,XL,rfl,rfl,hXL,below_next hdrew hSgb_34,Nat.le_trans hdrew.size Ggb_27,rgb_27⟩
     · unfold qgbx12
       go_simp
       obtain ⟨wgb_36,ggb_36,hwgb_36,hggb_36,hbgb_36,rgb_36⟩:=freshR wgb_1
       rw [hwgb_36,hggb_36]
       have hSgb_36:=below_next hSgb_1 hbgb_36
       have Ggb_36:Vgb_.heap.size≤ggb_36:=by have:=hSgb_1.size;omega
       refine hK.out _ _ hSgb_36 (fun h => ?_)
       clear h hK K hbgb_36 hwgb_36 hggb_36
       (try simp only [pS])
       refine callH 3 (oN 45 (cF1 35 #[] #[]) 66 "ref.go:89" #[jC 2]) (cD _) ?_
       (rintro e wgb_37 ⟨DL,rfl,hDL,hbgb_37⟩)
       have hSgb_37:=below_next hSgb_36 hbgb_37
       replace rgb_36:=rgb_36.still hbgb_37
       refine ⟨_,rfl,hSgb_37,?_⟩
       clear hbgb_37
       (try simp only [pS])
       refine callH 5 (oN 47 (cF1 71 #[oT 45,oT 46] #[66,66]) 66 "ref.go:89" #[jD 3,jD 4,jC 3]) (cT DL hDL _) ?_
       (rintro e wgb_38 ⟨rfl,hbgb_38⟩)
       have hSgb_38:=below_next hSgb_37 hbgb_38
       replace rgb_36:=rgb_36.still hbgb_38
       refine ⟨_,rfl,hSgb_38,?_⟩
       clear hbgb_38
       (try simp only [pS])
       refine callH 7 (oN 49 (cF1 74 #[oT 47,oT 48] #[66,66]) 66 "ref.go:89" #[jD 5,jD 6,jC 5]) (cP DL hDL _) ?_
       (rintro e wgb_39 ⟨rfl,hbgb_39⟩)
       have hSgb_39:=below_next hSgb_38 hbgb_39
       replace rgb_36:=rgb_36.still hbgb_39
       refine ⟨_,rfl,hSgb_39,?_⟩
       clear hbgb_39
       (try simp only [pS])
       refine callH 8 (oN 50 (cF1 72 #[oT 44,oT 49] #[66,66]) 101 "ref.go:89" #[jD 2,jD 7,jC 7]) (cR DL hDL _) ?_
       (rintro e wgb_40 ⟨XL,rfl,hXL,hbgb_40⟩)
       have hSgb_40:=below_next hSgb_39 hbgb_40
       replace rgb_36:=rgb_36.still hbgb_40
       refine ⟨_,rfl,hSgb_40,?_⟩
       clear hbgb_40
       (try simp only [pS])
       refine tkH 9 (oN 41 (Op.move (oT 50)) 101 "ref.go:89" #[jD 8]) ?vgb_41 hSgb_40 (Or.inl ⟨by rfl,?hgb_41⟩) ?rgb_41
       case hgb_41 =>
        intro w hSw
        go_simp
        try with_reducible rfl
       (try simp only [pS])
       refine tkH 10 (oN 51 (Op.extract (oT 41) 0) 66 "ref.go:89" #[jD 9]) ?vgb_42 hSgb_40 (Or.inl ⟨by rfl,?hgb_42⟩) ?rgb_42
       case hgb_42 =>
        intro w hSw
        go_simp
        try with_reducible rfl
       (try simp only [pS])
       refine tkH 11 (oN 52 (Op.extract (oT 41) 1) 4 "ref.go:89" #[jD 9,jO 13]) ?vgb_43 hSgb_40 (Or.inl ⟨by rfl,?hgb_43⟩) ?rgb_43
       case hgb_43 =>
        intro w hSw
        go_simp
        try with_reducible rfl
       (try simp only [pS])
       refine wpAnyH_ready (rs:=[13]) (by kernel_rfl) (by simp) ?_
       refine AllReadyH.cons (o:=qgbx13) rfl (fun K hK => ?_) (AllReadyH.nil)
       unfold qgbx13
       rw [if_pos (by rfl)]
       refine ref_store _ _ rfl ggb_36 (fun _=>0) XL rfl rfl rgb_36 hSgb_40 Ggb_36 (fun wgb_44 r0 hSgb_44 => ?_)
       refine hK.out _ _ hSgb_44 (fun h => ?_)
       clear h hK K rgb_36
       have rgb_36:=r0
       clear r0
       (try dsimp only [Act.put])
       refine tkH 14 (oN 10 (Op.assign (oT 52)) 4 "ref.go:89" #[jD 11,jC 13,jP 0,jP 1,jP 2,jP 3,jP 4,jP 5,jP 6,jP 7,jP 8,jP 9,jP 10,jP 11,jP 12,jP 13]) ?vgb_45 hSgb_44 (Or.inl ⟨by rfl,?hgb_45⟩) ?rgb_45
       case hgb_45 =>
        intro w hSw
        go_simp
        try with_reducible rfl
       (try simp only [pS])
       refine wpAnyH_done (by kernel_rfl) ?_ _
       refine NoPanic.normal ?_
       go_wp2
       go_meet
       case rel=>exact ⟨ggb_36,XL,rfl,rfl,hXL,below_next hdrew hSgb_44,Nat.le_trans hdrew.size Ggb_36,rgb_36⟩
   · unfold qgbx12
     go_simp
     obtain ⟨wgb_46,ggb_46,hwgb_46,hggb_46,hbgb_46,rgb_46⟩:=freshR Vgb_
     rw [hwgb_46,hggb_46]
     have hSgb_46:=below_next hS hbgb_46
     have Ggb_46:Vgb_.heap.size≤ggb_46:=by have:=hS.size;omega
     refine hK.out _ _ hSgb_46 (fun h => ?_)
     clear h hK K hbgb_46 hwgb_46 hggb_46
     (try simp only [pS])
     refine callH 2 (oN 44 (cF1 73 #[oT 42,oT 43] #[66,66]) 66 "ref.go:89" #[jD 0,jD 1]) (cU _) ?_
     (rintro e wgb_47 ⟨rfl,hbgb_47⟩)
     have hSgb_47:=below_next hSgb_46 hbgb_47
     replace rgb_46:=rgb_46.still hbgb_47
     refine ⟨_,rfl,hSgb_47,?_⟩
     clear hbgb_47
     (try simp only [pS])
     refine callH 3 (oN 45 (cF1 35 #[] #[]) 66 "ref.go:89" #[jC 2]) (cD _) ?_
     (rintro e wgb_48 ⟨DL,rfl,hDL,hbgb_48⟩)
     have hSgb_48:=below_next hSgb_47 hbgb_48
     replace rgb_46:=rgb_46.still hbgb_48
     refine ⟨_,rfl,hSgb_48,?_⟩
     clear hbgb_48
     (try simp only [pS])
     refine callH 5 (oN 47 (cF1 71 #[oT 45,oT 46] #[66,66]) 66 "ref.go:89" #[jD 3,jD 4,jC 3]) (cT DL hDL _) ?_
     (rintro e wgb_49 ⟨rfl,hbgb_49⟩)
     have hSgb_49:=below_next hSgb_48 hbgb_49
     replace rgb_46:=rgb_46.still hbgb_49
     refine ⟨_,rfl,hSgb_49,?_⟩
     clear hbgb_49
     (try simp only [pS])
     refine callH 7 (oN 49 (cF1 74 #[oT 47,oT 48] #[66,66]) 66 "ref.go:89" #[jD 5,jD 6,jC 5]) (cP DL hDL _) ?_
     (rintro e wgb_50 ⟨rfl,hbgb_50⟩)
     have hSgb_50:=below_next hSgb_49 hbgb_50
     replace rgb_46:=rgb_46.still hbgb_50
     refine ⟨_,rfl,hSgb_50,?_⟩
     clear hbgb_50
     (try simp only [pS])
     refine callH 8 (oN 50 (cF1 72 #[oT 44,oT 49] #[66,66]) 101 "ref.go:89" #[jD 2,jD 7,jC 7]) (cR DL hDL _) ?_
     (rintro e wgb_51 ⟨XL,rfl,hXL,hbgb_51⟩)
     have hSgb_51:=below_next hSgb_50 hbgb_51
     replace rgb_46:=rgb_46.still hbgb_51
     refine ⟨_,rfl,hSgb_51,?_⟩
     clear hbgb_51
     (try simp only [pS])
     refine tkH 9 (oN 41 (Op.move (oT 50)) 101 "ref.go:89" #[jD 8]) ?vgb_52 hSgb_51 (Or.inl ⟨by rfl,?hgb_52⟩) ?rgb_52
     case hgb_52 =>
      intro w hSw
      go_simp
      try with_reducible rfl
     (try simp only [pS])
     refine tkH 10 (oN 51 (Op.extract (oT 41) 0) 66 "ref.go:89" #[jD 9]) ?vgb_53 hSgb_51 (Or.inl ⟨by rfl,?hgb_53⟩) ?rgb_53
     case hgb_53 =>
      intro w hSw
      go_simp
      try with_reducible rfl
     (try simp only [pS])
     refine tkH 11 (oN 52 (Op.extract (oT 41) 1) 4 "ref.go:89" #[jD 9,jO 13]) ?vgb_54 hSgb_51 (Or.inl ⟨by rfl,?hgb_54⟩) ?rgb_54
     case hgb_54 =>
      intro w hSw
      go_simp
      try with_reducible rfl
     (try simp only [pS])
     refine wpAnyH_ready (rs:=[13]) (by kernel_rfl) (by simp) ?_
     refine AllReadyH.cons (o:=qgbx13) rfl (fun K hK => ?_) (AllReadyH.nil)
     unfold qgbx13
     rw [if_pos (by rfl)]
     refine ref_store _ _ rfl ggb_46 (fun _=>0) XL rfl rfl rgb_46 hSgb_51 Ggb_46 (fun wgb_55 r0 hSgb_55 => ?_)
     refine hK.out _ _ hSgb_55 (fun h => ?_)
     clear h hK K rgb_46
     have rgb_46:=r0
     clear r0
     (try dsimp only [Act.put])
     refine tkH 14 (oN 10 (Op.assign (oT 52)) 4 "ref.go:89" #[jD 11,jC 13,jP 0,jP 1,jP 2,jP 3,jP 4,jP 5,jP 6,jP 7,jP 8,jP 9,jP 10,jP 11,jP 12,jP 13]) ?vgb_56 hSgb_55 (Or.inl ⟨by rfl,?hgb_56⟩) ?rgb_56
     case hgb_56 =>
      intro w hSw
      go_simp
      try with_reducible rfl
     (try simp only [pS])
     refine wpAnyH_done (by kernel_rfl) ?_ _
     refine NoPanic.normal ?_
     go_wp2
     go_meet
     case rel=>exact ⟨ggb_46,XL,rfl,rfl,hXL,below_next hdrew hSgb_55,Nat.le_trans hdrew.size Ggb_46,rgb_46⟩
  case rest =>
  obtain ⟨g9,XL,rfl,rfl,hXL,hb11,G9,h9⟩:=hcut
  have l2:=h2.lt
  have l6':=hy.lt
  have n29:g2≠g9:=by omega
  have n69:g6≠g9:=by omega
  have w9l:w.heap.size≤g9:=Nat.le_trans b.size G9
  replace hy:=hy.still hb11
  replace h2:=h2.still hb11
  replace b:=below_next b hb11
  obtain ⟨U1,hU1⟩:∃ W,W=wc:=⟨_,rfl⟩
  rw [←hU1]
  rw [←hU1] at hy h2 b h9
  clear hU1 hb11 G9 l2 l6' h7 h8 cU cT cP cR cD hYY hO
  cases rt with
  | none =>
   have hn:decN bs=none:=Hd2.out
   have Hn:=Hid.mk' hn
   clear Hd2 hn
   simp only [Option.isSome_none]
   go_upto_region 12 with (fail)
   go_cut [63] from 11 (fun s63 wc=>s63 = .bool true∧Below U1.heap.size U1 wc)
   case first =>
    clear cz cnul
    have hdrew:Below U1.heap.size U1 U1.drew:=(Below.refl _ _).drew
    replace h9:=h9.still hdrew
    refine wp_region_noPanic ?_
    refine wp_region_held_drew (S:=fun w'=>Below U1.drew.heap.size U1.drew w') (by kernel_rfl) (Below.refl _ _) (fun hS => ?_)
    generalize U1.drew=Vgc_ at *
    refine tkH 0 (oN 53 (Op.move (oT 10)) 4 "ref.go:90" #[]) ?vgc_1 hS (Or.inl ⟨by rfl,?hgc_1⟩) ?rgc_1
    case hgc_1 =>
     intro w hSw
     go_simp
     try with_reducible rfl
    (try simp only [pS])
    refine tkH 1 (oN 54 (Op.unOp UnOp.not 4 (oT 53)) 4 "ref.go:90" #[jD 0]) ?vgc_2 hS (Or.inl ⟨by rfl,?hgc_2⟩) ?rgc_2
    case hgc_2 =>
     intro w hSw
     go_simp
     try with_reducible rfl
    (try simp only [pS])
    refine tkH 2 (oN 55 (Op.move (oT 54)) 4 "ref.go:90" #[jD 1]) ?vgc_3 hS (Or.inl ⟨by rfl,?hgc_3⟩) ?rgc_3
    case hgc_3 =>
     intro w hSw
     go_simp
     try with_reducible rfl
    (try simp only [pS])
    refine tkH 3 ({ dst:=some 56,op:=Op.move (oT 4),type:=5,pos := "ref.go:90", after:=#[jG 2],guard:=some (2,false) }) undef hS (Or.inr ⟨by rfl,rfl⟩) ?_
    (try simp only [pS])
    refine tkH 4 ({ dst:=some 57,op:=Op.binOp BinOp.eql 5 (oT 56) (Operand.const (Value.int IntKind.u8 1)) 5,type:=4,pos := "ref.go:90", after:=#[jD 3,jG 2],guard:=some (2,false) }) undef hS (Or.inr ⟨by rfl,rfl⟩) ?_
    (try simp only [pS])
    refine tkH 5 ({ dst:=some 58,op:=Op.move (oT 57),type:=4,pos := "ref.go:90", after:=#[jD 4,jC 2,jG 2],guard:=some (2,false) }) undef hS (Or.inr ⟨by rfl,rfl⟩) ?_
    (try simp only [pS])
    refine tkH 6 ({ dst:=some 59,op:=Op.load 66 (oT 9),type:=66,pos := "ref.go:90", after:=#[jG 5],guard:=some (5,true) }) undef hS (Or.inr ⟨by rfl,rfl⟩) ?_
    (try simp only [pS])
    refine tkH 7 ({ dst:=some 60,op:=cF1 70 #[Operand.const (Value.int IntKind.i64 0)] #[3],type:=66,pos := "ref.go:90", after:=#[jC 5,jG 5],guard:=some (5,true) }) undef hS (Or.inr ⟨by rfl,rfl⟩) ?_
    (try simp only [pS])
    refine tkH 8 ({ dst:=some 61,op:=cF1 75 #[oT 59,oT 60] #[66,66],type:=4,pos := "ref.go:90", after:=#[jD 6,jD 7,jC 7,jG 5],guard:=some (5,true) }) undef hS (Or.inr ⟨by rfl,rfl⟩) ?_
    (try simp only [pS])
    refine tkH 9 ({ dst:=some 62,op:=Op.pick (oT 58) (oT 61) (Operand.const (Value.bool false)),type:=4,pos := "ref.go:90", after:=#[jD 5,jD 8,jG 2],guard:=some (2,false) }) undef hS (Or.inr ⟨by rfl,rfl⟩) ?_
    (try simp only [pS])
    refine tkH 10 (oN 63 (Op.pick (oT 55) (Operand.const (Value.bool true)) (oT 62)) 4 "ref.go:90" #[jD 2,jD 9]) ?vgc_4 hS (Or.inl ⟨by rfl,?hgc_4⟩) ?rgc_4
    case hgc_4 =>
     intro w hSw
     go_simp
     try with_reducible rfl
    (try simp only [pS])
    refine wpAnyH_done (by kernel_rfl) ?_ _
    refine NoPanic.normal ?_
    go_wp2
    go_meet
    case rel=>exact ⟨by rfl,below_next hdrew hS⟩
   case rest =>
   obtain ⟨rfl,hb12⟩:=hcut
   replace hy:=hy.still hb12
   replace h2:=h2.still hb12
   replace h9:=h9.still hb12
   replace b:=below_next b hb12
   clear hb12
   go_wp2_with (first
    | (go_at_call 67;refine (cz _).mono ?_;clear cz;rintro e w40 ⟨t,rfl,ht,hb40⟩;(replace h2:=h2.still hb40);(replace b:=below_next b hb40);clear hb40;(have t40:w40.there g2 0 (q64 t.X t.Y t.Z t.T).toArray.size:=there64 h2))
    | (with_reducible (refine id (?_:wpList _ _ _ _ _ _));refine wpList_store_mid rfl 68 _ _ rfl g2 0 (q64 t.X t.Y t.Z t.T).toArray rfl rfl t40 (infoQA _ _ _ _) (oneQ _ _ _ _) ?_))
   (try simp only [Exit.inBlock,Exit.then])
   exact bodyPost_ret (results_cell_tmp Tryz.results31 _ _ g2 0 (q64 t.X t.Y t.Z t.T) _ rfl (h2.stored (q64 t.X t.Y t.Z t.T) (q64_same _ _ _ _ _ _ _ _)).range Tryz.underlying68 rfl (infoQ _ _ _ _)) rfl ⟨t,30,rfl,.inl ⟨rfl,ht,Hn.out⟩,below_setCells w2 _ _ _ b⟩
  | some xr =>
   simp only [Option.isSome_some,Option.getD_some] at hXL hrl ⊢
   by_cases hodd:bs 31 / 128=1
   · have hod:((bs 31:Nat):Int) / 128=1:=by omega
     rw [hod]
     obtain ⟨x0,hx0⟩:∃ x0,decide (xr=0)=x0:=⟨_,rfl⟩
     have cS:∀ O,Rw O 0→∀ W,Calls Tryz.prog 75 #[rV XL,rV O] W fun e w'=>e = .returned (.bool x0)∧Below W.heap.size W w':=fun O hO W=>rsame_wide hXL hO x0 (by rw [Nat.mod_eq_of_lt hrl];exact hx0) W
     have Hd3:Hid (decN bs=if xr=0 then none else some (ofXY (fsub 0 xr) yn)):=Hid.mk' (by
      rw [Hd2.out]
      show (if bs 31 / 128=1∧xr=0 then none else some (ofXY (if bs 31 / 128=1 then fsub 0 xr else xr) yn))=_
      rw [if_pos hodd]
      by_cases h0:xr=0
      · rw [if_pos ⟨hodd,h0⟩,if_pos h0]
      · rw [if_neg (fun h=>h0 h.2),if_neg h0])
     have Hx:=Hid.mk' hx0
     have cnul2:=cnul
     clear Hd2 hx0
     go_upto_region 12 with (fail)
     go_cut [63] from 11 (fun s63 wc=>s63 = .bool x0∧Below U1.heap.size U1 wc)
     case first =>
      clear cz cnul2
      have hdrew:Below U1.heap.size U1 U1.drew:=(Below.refl _ _).drew
      replace h9:=h9.still hdrew
      refine wp_region_noPanic ?_
      refine wp_region_held_drew (S:=fun w'=>Below U1.drew.heap.size U1.drew w') (by kernel_rfl) (Below.refl _ _) (fun hS => ?_)
      generalize U1.drew=Vgd_ at *
      refine tkH 0 (oN 53 (Op.move (oT 10)) 4 "ref.go:90" #[]) ?vgd_1 hS (Or.inl ⟨by rfl,?hgd_1⟩) ?rgd_1
      case hgd_1 =>
       intro w hSw
       go_simp
       try with_reducible rfl
      (try simp only [pS])
      refine tkH 1 (oN 54 (Op.unOp UnOp.not 4 (oT 53)) 4 "ref.go:90" #[jD 0]) ?vgd_2 hS (Or.inl ⟨by rfl,?hgd_2⟩) ?rgd_2
      case hgd_2 =>
       intro w hSw
       go_simp
       try with_reducible rfl
      (try simp only [pS])
      refine tkH 2 (oN 55 (Op.move (oT 54)) 4 "ref.go:90" #[jD 1]) ?vgd_3 hS (Or.inl ⟨by rfl,?hgd_3⟩) ?rgd_3
      case hgd_3 =>
       intro w hSw
       go_simp
       try with_reducible rfl
      (try simp only [pS])
      refine tkH 3 ({ dst:=some 56,op:=Op.move (oT 4),type:=5,pos := "ref.go:90", after:=#[jG 2],guard:=some (2,false) }) ?vgd_4 hS (Or.inl ⟨by rfl,?hgd_4⟩) ?rgd_4
      case hgd_4 =>
       intro w hSw
       go_simp
       try with_reducible rfl
      (try simp only [pS])
      refine tkH 4 ({ dst:=some 57,op:=Op.binOp BinOp.eql 5 (oT 56) (Operand.const (Value.int IntKind.u8 1)) 5,type:=4,pos := "ref.go:90", after:=#[jD 3,jG 2],guard:=some (2,false) }) ?vgd_5 hS (Or.inl ⟨by rfl,?hgd_5⟩) ?rgd_5
      case hgd_5 =>
       intro w hSw
       go_simp
       try with_reducible rfl
      (try simp only [pS])
      refine tkH 5 ({ dst:=some 58,op:=Op.move (oT 57),type:=4,pos := "ref.go:90", after:=#[jD 4,jC 2,jG 2],guard:=some (2,false) }) ?vgd_6 hS (Or.inl ⟨by rfl,?hgd_6⟩) ?rgd_6
      case hgd_6 =>
       intro w hSw
       go_simp
       try with_reducible rfl
      (try simp only [pS])
      refine tkH 6 ({ dst:=some 59,op:=Op.load 66 (oT 9),type:=66,pos := "ref.go:90", after:=#[jG 5],guard:=some (5,true) }) (rV XL) hS (ldH h9 66 9 Tryz.underlying66 (infoI _)) ?_
      (try simp only [pS])
      refine callH 7 ({ dst:=some 60,op:=cF1 70 #[Operand.const (Value.int IntKind.i64 0)] #[3],type:=66,pos := "ref.go:90", after:=#[jC 5,jG 5],guard:=some (5,true) }) (cnul _) ?_
      (clear cnul;rintro e wgd_7 ⟨O2,rfl,hO2,hbgd_7⟩)
      have hSgd_7:=below_next hS hbgd_7
      refine ⟨_,rfl,hSgd_7,?_⟩
      clear hbgd_7
      (try simp only [pS])
      refine callH 8 ({ dst:=some 61,op:=cF1 75 #[oT 59,oT 60] #[66,66],type:=4,pos := "ref.go:90", after:=#[jD 6,jD 7,jC 7,jG 5],guard:=some (5,true) }) (cS O2 hO2 _) ?_
      (clear cS;rintro e wgd_8 ⟨rfl,hbgd_8⟩)
      have hSgd_8:=below_next hSgd_7 hbgd_8
      refine ⟨_,rfl,hSgd_8,?_⟩
      clear hbgd_8
      (try simp only [pS])
      refine tkH 9 ({ dst:=some 62,op:=Op.pick (oT 58) (oT 61) (Operand.const (Value.bool false)),type:=4,pos := "ref.go:90", after:=#[jD 5,jD 8,jG 2],guard:=some (2,false) }) ?vgd_9 hSgd_8 (Or.inl ⟨by rfl,?hgd_9⟩) ?rgd_9
      case hgd_9 =>
       intro w hSw
       go_simp
       try with_reducible rfl
      (try simp only [pS])
      refine tkH 10 (oN 63 (Op.pick (oT 55) (Operand.const (Value.bool true)) (oT 62)) 4 "ref.go:90" #[jD 2,jD 9]) ?vgd_10 hSgd_8 (Or.inl ⟨by rfl,?hgd_10⟩) ?rgd_10
      case hgd_10 =>
       intro w hSw
       go_simp
       try with_reducible rfl
      (try simp only [pS])
      refine wpAnyH_done (by kernel_rfl) ?_ _
      refine NoPanic.normal ?_
      go_wp2
      go_meet
      case rel=>exact ⟨by rfl,below_next hdrew hSgd_8⟩
     case rest =>
     obtain ⟨rfl,hb12⟩:=hcut
     replace hy:=hy.still hb12
     replace h2:=h2.still hb12
     replace h9:=h9.still hb12
     replace b:=below_next b hb12
     clear hb12
     clear cS
     cases x0 with
     | true =>
      have Hn:Hid (decN bs=none):=Hid.mk' (by rw [Hd3.out,if_pos (of_decide_eq_true Hx.out)])
      clear Hd3 Hx
      go_wp2_with (first
       | (go_at_call 67;refine (cz _).mono ?_;clear cz;rintro e w40 ⟨t,rfl,ht,hb40⟩;(replace h2:=h2.still hb40);(replace b:=below_next b hb40);clear hb40;(have t40:w40.there g2 0 (q64 t.X t.Y t.Z t.T).toArray.size:=there64 h2))
       | (with_reducible (refine id (?_:wpList _ _ _ _ _ _));refine wpList_store_mid rfl 68 _ _ rfl g2 0 (q64 t.X t.Y t.Z t.T).toArray rfl rfl t40 (infoQA _ _ _ _) (oneQ _ _ _ _) ?_))
      (try simp only [Exit.inBlock,Exit.then])
      exact bodyPost_ret (results_cell_tmp Tryz.results31 _ _ g2 0 (q64 t.X t.Y t.Z t.T) _ rfl (h2.stored (q64 t.X t.Y t.Z t.T) (q64_same _ _ _ _ _ _ _ _)).range Tryz.underlying68 rfl (infoQ _ _ _ _)) rfl ⟨t,30,rfl,.inl ⟨rfl,ht,Hn.out⟩,below_setCells w2 _ _ _ b⟩
     | false =>
      have Hs:Hid (decN bs=some (ofXY (fsub 0 xr) yn)):=Hid.mk' (by rw [Hd3.out,if_neg (of_decide_eq_false Hx.out)])
      clear Hd3 Hx
      obtain ⟨U2,hU2⟩:∃ W,W=wc:=⟨_,rfl⟩
      rw [←hU2]
      rw [←hU2] at hy h2 b h9
      clear hU2
      go_upto_region 15 with (fail)
      (try simp only [pS])
      have hdrew:Below U2.heap.size U2 U2.drew:=(Below.refl _ _).drew
      replace b:=below_next b hdrew
      replace h2:=h2.still hdrew
      replace h9:=h9.still hdrew
      replace hy:=hy.still hdrew
      refine wp_region_noPanic ?_
      refine wp_region_held_drew (S:=fun _=>True) (by kernel_rfl) trivial (fun _ => ?_)
      generalize U2.drew=Vge_ at *
      refine wpAnyH_ready (rs:=[0,1]) (by kernel_rfl) (by simp) ?_
      refine AllReadyH.cons (o:=oN 67 (cF1 70 #[Operand.const (Value.int IntKind.i64 0)] #[3]) 66 "ref.go:94" #[]) rfl (fun K hK => ?_) (AllReadyH.cons (o:=oN 68 (Op.load 66 (oT 9)) 66 "ref.go:94" #[]) rfl (fun K hK => ?_) (AllReadyH.nil))
      · go_simp
        (go_at_call 70;refine (cnul2 _).mono ?_;clear cnul2;rintro e wge_1 ⟨O3,rfl,hO3,hbS⟩;(replace h2:=h2.still hbS);(replace h9:=h9.still hbS);(replace hy:=hy.still hbS);(replace b:=below_next b hbS);clear hbS)
        (try go_simp)
        refine hK.out _ _ trivial (fun h => ?_)
        clear h hK K
        (try simp only [pS])
        refine wpAnyH_ready (rs:=[1]) (by kernel_rfl) (by simp) ?_
        refine AllReadyH.cons (o:=oN 68 (Op.load 66 (oT 9)) 66 "ref.go:94" #[]) rfl (fun K hK => ?_) (AllReadyH.nil)
        rw [if_pos (by rfl)]
        refine wp_load_mid 66 _ rfl g9 0 rfl (i16 XL) _ h9.range Tryz.underlying66 rfl (infoI _) ?_
        refine hK.out _ _ trivial (fun h => ?_)
        clear h hK K
        rw [show Value.agg (i16 XL).toArray=rV XL from rfl]
        (try simp only [pS])
        refine wpAnyH_ready (rs:=[2]) (by kernel_rfl) (by simp) ?_
        refine AllReadyH.cons (o:=oN 69 (cF1 73 #[oT 67,oT 68] #[66,66]) 66 "ref.go:94" #[jD 0,jD 1,jC 0]) rfl (fun K hK => ?_) (AllReadyH.nil)
        go_simp
        (go_at_call 73;refine (rminus_w hO3 hXL _).mono ?_;rintro e wge_3 ⟨rfl,hbS⟩;(replace h2:=h2.still hbS);(replace h9:=h9.still hbS);(replace hy:=hy.still hbS);(replace b:=below_next b hbS);clear hbS)
        (try go_simp)
        refine hK.out _ _ trivial (fun h => ?_)
        clear h hK K
        (try simp only [pS])
        refine wpAnyH_ready (rs:=[3]) (by kernel_rfl) (by simp) ?_
        refine AllReadyH.cons (o:=oS (Op.store 66 (oT 9) (oT 69)) "ref.go:94" #[jD 2,jC 2,jP 0,jP 1,jP 2]) rfl (fun K hK => ?_) (AllReadyH.nil)
        rw [if_pos (by rfl)]
        refine wp_store_mid 66 _ _ rfl g9 0 (i16 (minusL O3 XL)).toArray rfl rfl (there16 h9) (infoIA _) (oneI _) ?_
        have Oge_4:=Out.setCells (b:=g9) (o:=0) (n:=(i16 (minusL O3 XL)).length) wge_3 (i16 (minusL O3 XL)) (Nat.le_refl _) (Nat.le_refl _)
        replace b:=below_setCells w9l (i16 (minusL O3 XL)) 0 _ b
        replace h9:=h9.stored (i16 (minusL O3 XL)) (by rw [i16_len,i16_len])
        replace h2:=h2.far g9 0 (i16 (minusL O3 XL)) (.inl n29)
        replace hy:=hy.far g9 0 (i16 (minusL O3 XL)) (.inl n69)
        obtain ⟨wge_4,hwge_4⟩:∃ W,wge_3.setCells g9 0 (i16 (minusL O3 XL))=W:=⟨_,rfl⟩
        rw [hwge_4] at h2
        rw [hwge_4] at b
        rw [hwge_4] at hy
        rw [hwge_4] at h9
        rw [hwge_4] at Oge_4
        rw [show wge_3.setCells g9 0 (i16 (minusL O3 XL)).toArray.toList=wge_4 from hwge_4]
        refine hK.out _ _ trivial (fun h => ?_)
        clear h hK K hwge_4
        (try dsimp only [Act.put])
        refine wpAnyH_done (by kernel_rfl) ?_ _
        refine NoPanic.normal ?_
        have cof:∀ W,Calls Tryz.prog 76 #[.agg (i16 (minusL O3 XL)).toArray,.agg (i16 YL).toArray] W fun e w'=>∃ t:P4,e = .returned (.agg (q64 t.X t.Y t.Z t.T).toArray)∧t.Rep (ofXY (fsub 0 xr) yn)∧Below W.heap.size W w':=fun W=>rof_any (rww_minus hO3 hXL hrl) hYr W
        go_wp2_with (first
         | (refine wpList_load_mid rfl 66 _ rfl g9 0 rfl (i16 (minusL O3 XL)) _ h9.range Tryz.underlying66 rfl (infoI _) ?_)
         | (refine wpList_load_mid rfl 66 _ rfl g6 0 rfl (i16 YL) _ hy.range Tryz.underlying66 rfl (infoI _) ?_)
         | (go_at_call 76;refine (cof _).mono ?_;clear cof;rintro e w50 ⟨t,rfl,ht,hb50⟩;(replace h2:=h2.still hb50);(replace b:=below_next b hb50);clear hb50;(have t50:w50.there g2 0 (q64 t.X t.Y t.Z t.T).toArray.size:=there64 h2))
         | (with_reducible (refine id (?_:wpList _ _ _ _ _ _));refine wpList_store_mid rfl 68 _ _ rfl g2 0 (q64 t.X t.Y t.Z t.T).toArray rfl rfl t50 (infoQA _ _ _ _) (oneQ _ _ _ _) ?_))
        (try simp only [Exit.inBlock,Exit.then])
        exact bodyPost_ret (results_cell_tmp Tryz.results31 _ _ g2 0 (q64 t.X t.Y t.Z t.T) _ rfl (h2.stored (q64 t.X t.Y t.Z t.T) (q64_same _ _ _ _ _ _ _ _)).range Tryz.underlying68 rfl (infoQ _ _ _ _)) rfl ⟨t,0,rfl,.inr ⟨rfl,_,Hs.out,ht⟩,below_setCells w2 _ _ _ b⟩
      · rw [if_pos (by rfl)]
        refine wp_load_mid 66 _ rfl g9 0 rfl (i16 XL) _ h9.range Tryz.underlying66 rfl (infoI _) ?_
        refine hK.out _ _ trivial (fun h => ?_)
        clear h hK K
        rw [show Value.agg (i16 XL).toArray=rV XL from rfl]
        (try simp only [pS])
        refine wpAnyH_ready (rs:=[0]) (by kernel_rfl) (by simp) ?_
        refine AllReadyH.cons (o:=oN 67 (cF1 70 #[Operand.const (Value.int IntKind.i64 0)] #[3]) 66 "ref.go:94" #[]) rfl (fun K hK => ?_) (AllReadyH.nil)
        go_simp
        (go_at_call 70;refine (cnul2 _).mono ?_;clear cnul2;rintro e wge_6 ⟨O3,rfl,hO3,hbS⟩;(replace h2:=h2.still hbS);(replace h9:=h9.still hbS);(replace hy:=hy.still hbS);(replace b:=below_next b hbS);clear hbS)
        (try go_simp)
        refine hK.out _ _ trivial (fun h => ?_)
        clear h hK K
        (try simp only [pS])
        refine wpAnyH_ready (rs:=[2]) (by kernel_rfl) (by simp) ?_
        refine AllReadyH.cons (o:=oN 69 (cF1 73 #[oT 67,oT 68] #[66,66]) 66 "ref.go:94" #[jD 0,jD 1,jC 0]) rfl (fun K hK => ?_) (AllReadyH.nil)
        go_simp
        (go_at_call 73;refine (rminus_w hO3 hXL _).mono ?_;rintro e wge_7 ⟨rfl,hbS⟩;(replace h2:=h2.still hbS);(replace h9:=h9.still hbS);(replace hy:=hy.still hbS);(replace b:=below_next b hbS);clear hbS)
        (try go_simp)
        refine hK.out _ _ trivial (fun h => ?_)
        clear h hK K
        (try simp only [pS])
        refine wpAnyH_ready (rs:=[3]) (by kernel_rfl) (by simp) ?_
        refine AllReadyH.cons (o:=oS (Op.store 66 (oT 9) (oT 69)) "ref.go:94" #[jD 2,jC 2,jP 0,jP 1,jP 2]) rfl (fun K hK => ?_) (AllReadyH.nil)
        rw [if_pos (by rfl)]
        refine wp_store_mid 66 _ _ rfl g9 0 (i16 (minusL O3 XL)).toArray rfl rfl (there16 h9) (infoIA _) (oneI _) ?_
        have Oge_8:=Out.setCells (b:=g9) (o:=0) (n:=(i16 (minusL O3 XL)).length) wge_7 (i16 (minusL O3 XL)) (Nat.le_refl _) (Nat.le_refl _)
        replace b:=below_setCells w9l (i16 (minusL O3 XL)) 0 _ b
        replace h9:=h9.stored (i16 (minusL O3 XL)) (by rw [i16_len,i16_len])
        replace h2:=h2.far g9 0 (i16 (minusL O3 XL)) (.inl n29)
        replace hy:=hy.far g9 0 (i16 (minusL O3 XL)) (.inl n69)
        obtain ⟨wge_8,hwge_8⟩:∃ W,wge_7.setCells g9 0 (i16 (minusL O3 XL))=W:=⟨_,rfl⟩
        rw [hwge_8] at h2
        rw [hwge_8] at b
        rw [hwge_8] at hy
        rw [hwge_8] at h9
        rw [hwge_8] at Oge_8
        rw [show wge_7.setCells g9 0 (i16 (minusL O3 XL)).toArray.toList=wge_8 from hwge_8]
        refine hK.out _ _ trivial (fun h => ?_)
        clear h hK K hwge_8
        (try dsimp only [Act.put])
        refine wpAnyH_done (by kernel_rfl) ?_ _
        refine NoPanic.normal ?_
        have cof:∀ W,Calls Tryz.prog 76 #[.agg (i16 (minusL O3 XL)).toArray,.agg (i16 YL).toArray] W fun e w'=>∃ t:P4,e = .returned (.agg (q64 t.X t.Y t.Z t.T).toArray)∧t.Rep (ofXY (fsub 0 xr) yn)∧Below W.heap.size W w':=fun W=>rof_any (rww_minus hO3 hXL hrl) hYr W
        go_wp2_with (first
         | (refine wpList_load_mid rfl 66 _ rfl g9 0 rfl (i16 (minusL O3 XL)) _ h9.range Tryz.underlying66 rfl (infoI _) ?_)
         | (refine wpList_load_mid rfl 66 _ rfl g6 0 rfl (i16 YL) _ hy.range Tryz.underlying66 rfl (infoI _) ?_)
         | (go_at_call 76;refine (cof _).mono ?_;clear cof;rintro e w50 ⟨t,rfl,ht,hb50⟩;(replace h2:=h2.still hb50);(replace b:=below_next b hb50);clear hb50;(have t50:w50.there g2 0 (q64 t.X t.Y t.Z t.T).toArray.size:=there64 h2))
         | (with_reducible (refine id (?_:wpList _ _ _ _ _ _));refine wpList_store_mid rfl 68 _ _ rfl g2 0 (q64 t.X t.Y t.Z t.T).toArray rfl rfl t50 (infoQA _ _ _ _) (oneQ _ _ _ _) ?_))
        (try simp only [Exit.inBlock,Exit.then])
        exact bodyPost_ret (results_cell_tmp Tryz.results31 _ _ g2 0 (q64 t.X t.Y t.Z t.T) _ rfl (h2.stored (q64 t.X t.Y t.Z t.T) (q64_same _ _ _ _ _ _ _ _)).range Tryz.underlying68 rfl (infoQ _ _ _ _)) rfl ⟨t,0,rfl,.inr ⟨rfl,_,Hs.out,ht⟩,below_setCells w2 _ _ _ b⟩
   · have hod:((bs 31:Nat):Int) / 128=0:=by have:=hbs 31;omega
     rw [hod]
     have Hs:Hid (decN bs=some (ofXY xr yn)):=Hid.mk' (by
      rw [Hd2.out]
      show (if bs 31 / 128=1∧xr=0 then none else some (ofXY (if bs 31 / 128=1 then fsub 0 xr else xr) yn))=_
      rw [if_neg hodd,if_neg (fun h=>hodd h.1)])
     clear Hd2
     go_upto_region 12 with (fail)
     go_cut [63] from 11 (fun s63 wc=>s63 = .bool false∧Below U1.heap.size U1 wc)
     case first =>
      clear cz cnul
      have hdrew:Below U1.heap.size U1 U1.drew:=(Below.refl _ _).drew
      replace h9:=h9.still hdrew
      refine wp_region_noPanic ?_
      refine wp_region_held_drew (S:=fun w'=>Below U1.drew.heap.size U1.drew w') (by kernel_rfl) (Below.refl _ _) (fun hS => ?_)
      generalize U1.drew=Vgf_ at *
      refine tkH 0 (oN 53 (Op.move (oT 10)) 4 "ref.go:90" #[]) ?vgf_1 hS (Or.inl ⟨by rfl,?hgf_1⟩) ?rgf_1
      case hgf_1 =>
       intro w hSw
       go_simp
       try with_reducible rfl
      (try simp only [pS])
      refine tkH 1 (oN 54 (Op.unOp UnOp.not 4 (oT 53)) 4 "ref.go:90" #[jD 0]) ?vgf_2 hS (Or.inl ⟨by rfl,?hgf_2⟩) ?rgf_2
      case hgf_2 =>
       intro w hSw
       go_simp
       try with_reducible rfl
      (try simp only [pS])
      refine tkH 2 (oN 55 (Op.move (oT 54)) 4 "ref.go:90" #[jD 1]) ?vgf_3 hS (Or.inl ⟨by rfl,?hgf_3⟩) ?rgf_3
      case hgf_3 =>
       intro w hSw
       go_simp
       try with_reducible rfl
      (try simp only [pS])
      refine tkH 3 ({ dst:=some 56,op:=Op.move (oT 4),type:=5,pos := "ref.go:90", after:=#[jG 2],guard:=some (2,false) }) ?vgf_4 hS (Or.inl ⟨by rfl,?hgf_4⟩) ?rgf_4
      case hgf_4 =>
       intro w hSw
       go_simp
       try with_reducible rfl
      (try simp only [pS])
      refine tkH 4 ({ dst:=some 57,op:=Op.binOp BinOp.eql 5 (oT 56) (Operand.const (Value.int IntKind.u8 1)) 5,type:=4,pos := "ref.go:90", after:=#[jD 3,jG 2],guard:=some (2,false) }) ?vgf_5 hS (Or.inl ⟨by rfl,?hgf_5⟩) ?rgf_5
      case hgf_5 =>
       intro w hSw
       go_simp
       try with_reducible rfl
      (try simp only [pS])
      refine tkH 5 ({ dst:=some 58,op:=Op.move (oT 57),type:=4,pos := "ref.go:90", after:=#[jD 4,jC 2,jG 2],guard:=some (2,false) }) ?vgf_6 hS (Or.inl ⟨by rfl,?hgf_6⟩) ?rgf_6
      case hgf_6 =>
       intro w hSw
       go_simp
       try with_reducible rfl
      (try simp only [pS])
      refine tkH 6 ({ dst:=some 59,op:=Op.load 66 (oT 9),type:=66,pos := "ref.go:90", after:=#[jG 5],guard:=some (5,true) }) undef hS (Or.inr ⟨by rfl,rfl⟩) ?_
      (try simp only [pS])
      refine tkH 7 ({ dst:=some 60,op:=cF1 70 #[Operand.const (Value.int IntKind.i64 0)] #[3],type:=66,pos := "ref.go:90", after:=#[jC 5,jG 5],guard:=some (5,true) }) undef hS (Or.inr ⟨by rfl,rfl⟩) ?_
      (try simp only [pS])
      refine tkH 8 ({ dst:=some 61,op:=cF1 75 #[oT 59,oT 60] #[66,66],type:=4,pos := "ref.go:90", after:=#[jD 6,jD 7,jC 7,jG 5],guard:=some (5,true) }) undef hS (Or.inr ⟨by rfl,rfl⟩) ?_
      (try simp only [pS])
      refine tkH 9 ({ dst:=some 62,op:=Op.pick (oT 58) (oT 61) (Operand.const (Value.bool false)),type:=4,pos := "ref.go:90", after:=#[jD 5,jD 8,jG 2],guard:=some (2,false) }) ?vgf_7 hS (Or.inl ⟨by rfl,?hgf_7⟩) ?rgf_7
      case hgf_7 =>
       intro w hSw
       go_simp
       try with_reducible rfl
      (try simp only [pS])
      refine tkH 10 (oN 63 (Op.pick (oT 55) (Operand.const (Value.bool true)) (oT 62)) 4 "ref.go:90" #[jD 2,jD 9]) ?vgf_8 hS (Or.inl ⟨by rfl,?hgf_8⟩) ?rgf_8
      case hgf_8 =>
       intro w hSw
       go_simp
       try with_reducible rfl
      (try simp only [pS])
      refine wpAnyH_done (by kernel_rfl) ?_ _
      refine NoPanic.normal ?_
      go_wp2
      go_meet
      case rel=>exact ⟨by rfl,below_next hdrew hS⟩
     case rest =>
     obtain ⟨rfl,hb12⟩:=hcut
     replace hy:=hy.still hb12
     replace h2:=h2.still hb12
     replace h9:=h9.still hb12
     replace b:=below_next b hb12
     clear hb12
     have cof:∀ W,Calls Tryz.prog 76 #[.agg (i16 XL).toArray,.agg (i16 YL).toArray] W fun e w'=>∃ t:P4,e = .returned (.agg (q64 t.X t.Y t.Z t.T).toArray)∧t.Rep (ofXY xr yn)∧Below W.heap.size W w':=fun W=>rof_any hXL hYr W
     go_wp2_with (first
      | (refine wpList_load_mid rfl 66 _ rfl g9 0 rfl (i16 XL) _ h9.range Tryz.underlying66 rfl (infoI _) ?_)
      | (refine wpList_load_mid rfl 66 _ rfl g6 0 rfl (i16 YL) _ hy.range Tryz.underlying66 rfl (infoI _) ?_)
      | (go_at_call 76;refine (cof _).mono ?_;clear cof;rintro e w50 ⟨t,rfl,ht,hb50⟩;(replace h2:=h2.still hb50);(replace b:=below_next b hb50);clear hb50;(have t50:w50.there g2 0 (q64 t.X t.Y t.Z t.T).toArray.size:=there64 h2))
      | (with_reducible (refine id (?_:wpList _ _ _ _ _ _));refine wpList_store_mid rfl 68 _ _ rfl g2 0 (q64 t.X t.Y t.Z t.T).toArray rfl rfl t50 (infoQA _ _ _ _) (oneQ _ _ _ _) ?_))
     (try simp only [Exit.inBlock,Exit.then])
     exact bodyPost_ret (results_cell_tmp Tryz.results31 _ _ g2 0 (q64 t.X t.Y t.Z t.T) _ rfl (h2.stored (q64 t.X t.Y t.Z t.T) (q64_same _ _ _ _ _ _ _ _)).range Tryz.underlying68 rfl (infoQ _ _ _ _)) rfl ⟨t,0,rfl,.inr ⟨rfl,_,Hs.out,ht⟩,below_setCells w2 _ _ _ b⟩
end Go.Proofs.YtdgkmloabificaaGreatDoor
namespace Go.Proofs.YtdgkmloabificaaGreatDoor
def ordN:Nat:=7237005577332262213973186563042994240857116359379907606001950938285454250989
theorem lprime0:Prm 1224481:=prime_trial 1224481 1107 (by decide) (by decide) (by kernel_rfl)
theorem lprime1:Prm 1257559732178653 :=
 pock (f:=1224481) (Q:=1027014492) (a:=2) lprime0 (by decide) (by decide)
  (by rw [←pm_eq 1257559732178653 2 256 (1257559732178653 - 1) (by decide)];kernel_rfl)
  (by rw [←pm_eq 1257559732178653 2 256 1027014492 (by decide)];kernel_rfl) (by decide)
theorem lprime2:Prm 4434155615661930479 :=
 pock (f:=1257559732178653) (Q:=3526) (a:=2) lprime1 (by decide) (by decide)
  (by rw [←pm_eq 4434155615661930479 2 256 (4434155615661930479 - 1) (by decide)];kernel_rfl)
  (by rw [←pm_eq 4434155615661930479 2 256 3526 (by decide)];kernel_rfl) (by decide)
theorem lprime3:Prm 172054593956031949258510691 :=
 pock (f:=4434155615661930479) (Q:=38802110) (a:=2) lprime2 (by decide) (by decide)
  (by rw [←pm_eq 172054593956031949258510691 2 256 (172054593956031949258510691 - 1) (by decide)];kernel_rfl)
  (by rw [←pm_eq 172054593956031949258510691 2 256 38802110 (by decide)];kernel_rfl) (by decide)
theorem lprime4:Prm 19757330305831588566944191468367130476339 :=
 pock (f:=172054593956031949258510691) (Q:=114831751082918) (a:=2) lprime3 (by decide) (by decide)
  (by rw [←pm_eq 19757330305831588566944191468367130476339 2 256 (19757330305831588566944191468367130476339 - 1) (by decide)];kernel_rfl)
  (by rw [←pm_eq 19757330305831588566944191468367130476339 2 256 114831751082918 (by decide)];kernel_rfl) (by decide)
theorem lprime5:Prm 276602624281642239937218680557139826668747 :=
 pock (f:=19757330305831588566944191468367130476339) (Q:=14) (a:=2) lprime4 (by decide) (by decide)
  (by rw [←pm_eq 276602624281642239937218680557139826668747 2 256 (276602624281642239937218680557139826668747 - 1) (by decide)];kernel_rfl)
  (by rw [←pm_eq 276602624281642239937218680557139826668747 2 256 14 (by decide)];kernel_rfl) (by decide)
theorem lprime6:Prm 7237005577332262213973186563042994240857116359379907606001950938285454250989 :=
 pock (f:=276602624281642239937218680557139826668747) (Q:=26163907866482859529727157400808004) (a:=2) lprime5 (by decide) (by decide)
  (by rw [←pm_eq 7237005577332262213973186563042994240857116359379907606001950938285454250989 2 256 (7237005577332262213973186563042994240857116359379907606001950938285454250989 - 1) (by decide)];kernel_rfl)
  (by rw [←pm_eq 7237005577332262213973186563042994240857116359379907606001950938285454250989 2 256 26163907866482859529727157400808004 (by decide)];kernel_rfl) (by decide)
theorem ord_prime:Prm ordN:=lprime6
def xB:Nat:=15112221349535400772501151409588531511454012693041857206046113283949847762202
def yB:Nat:=46316835694926478169428394003475163141307993866256225615783033603165251855960
theorem xB_lt:xB<pF:=by decide
theorem yB_lt:yB<pF:=by decide
theorem base_on:On dE (ptXY xB yB):=ptXY_on (by decide)
def eqN (p:N4) (x y:Nat):Bool:=fmul x p.Z == p.X && fmul y p.Z == p.Y
theorem eqN_pt {p:N4} {P:Fp × Fp} {x y:Nat} (h:Ext4 p P) (he:eqN p x y=true):P=ptXY x y:=by
 unfold eqN at he
 rw [Bool.and_eq_true,beq_iff_eq,beq_iff_eq] at he
 refine (ext_same h (ofXY_ext x y)).1 ⟨?_,?_⟩
 · show cF p.X*cF 1=cF x*cF p.Z
   rw [←cF_mul,←cF_mul,he.1]
   exact Fin.ext (by show fmul p.X 1%pF=p.X%pF;unfold fmul;rw [Nat.mul_one,Nat.mod_mod])
 · show cF p.Y*cF 1=cF y*cF p.Z
   rw [←cF_mul,←cF_mul,he.2]
   exact Fin.ext (by show fmul p.Y 1%pF=p.Y%pF;unfold fmul;rw [Nat.mul_one,Nat.mod_mod])
theorem base_times {k x y:Nat} (hk:k<256 ^ 32) (h:eqN (mulN dN (ofXY xB yB) (byt k) 256) x y=true):emul dE k (ptXY xB yB)=ptXY x y:=by
 have e:=mulN_ext base_on (ofXY_ext xB yB) (byt k) 256
 rw [nB_all (byt k) (byt_lt k),ofB_byt,Nat.mod_eq_of_lt hk] at e
 exact eqN_pt e h
set_option maxRecDepth 100000 in
theorem ord_mul:eqN (mulN dN (ofXY xB yB) (byt ordN) 256) 0 1=true:=by kernel_rfl
theorem zero_pt:ptXY 0 1=ezero:=by unfold ptXY ezero;decide
theorem base_ord:emul dE ordN (ptXY xB yB)=ezero:=(base_times (by decide) ord_mul).trans zero_pt
theorem emul_none (D:Fp):∀ n,emul D n ezero=ezero
 | 0=>rfl
 | n+1=>by
  show eadd D (emul D n ezero) ezero=ezero
  rw [emul_none D n,eadd_zero]
theorem base_mod (n:Nat):emul dE (n%ordN) (ptXY xB yB)=emul dE n (ptXY xB yB):=by
 have h:=emul_add ns_dE base_on (ordN*(n / ordN)) (n%ordN)
 rw [Nat.div_add_mod,←emul_mul ns_dE base_on,base_ord,emul_none,zero_eadd] at h
 exact h.symm
end Go.Proofs.YtdgkmloabificaaGreatDoor
namespace Go.Proofs.YtdgkmloabificaaGreatDoor
open Go.RowKit
def qB:Nat:=26187595835145689230469591415084376402084551887632582719101735842039498021991
def rB:Nat:=42783823269122696939284341094755422415180979639778424813682678720006717057747
def uB:Nat:=37053468555941182535542715202780130513046395093004980492626426882532201484767
def vB:Nat:=35320460721920060721965471946471712506633951349663716574434581141966314745466
theorem uB_is:decU yB=uB:=by kernel_rfl
theorem vB_is:decV yB=vB:=by kernel_rfl
theorem quo_is {u v q:Nat} (hq:q<pF) (hv0:v≠0) (hv:v<pF) (h:q*v%pF=u):quoR u v=q:=quot_of' hq hv0 hv h
theorem qB_quot:quoR uB vB=qB:=quo_is (by decide) (by decide) (by decide) (by decide)
theorem pm_is {b k e r:Nat} (h:e<2 ^ k) (hp:pm pF b k e=r):b ^ e%pF=r:=by rw [←pm_eq pF b k e h,hp]
theorem rB_pow:pm pF qB 252 7237005577332262213973186563042994240829374041602535252466099000494570602494=rB:=by kernel_rfl
theorem rootY_is {k u v q r:Nat} (hq:quoR u v=q) {e:Nat} (he:k+1=e) (hl:e<2 ^ 252) (hp:pm pF q 252 e=r):rootY k u v=r:=by
 unfold rootY
 rw [hq,he]
 exact pm_is hl hp
theorem kP_next:kP+1=7237005577332262213973186563042994240829374041602535252466099000494570602494:=by decide
theorem rootY_base:rootY kP uB vB=rB:=rootY_is qB_quot kP_next (by decide) rB_pow
theorem rootZ_is {k u v q r:Nat} (hq:quoR u v=q) (hy:rootY k u v=r) (h:r*r%pF=q):rootZ k u v=r:=by
 unfold rootZ
 rw [hy,hq]
 exact if_pos h
theorem rootR_is {k u v q r x:Nat} (hq:quoR u v=q) (hz:rootZ k u v=r) (h:r*r%pF=q) (hv:v≠0) (hx:evn r=x):rootR k u v=some x:=by
 unfold rootR
 rw [hz,hq,if_pos ⟨h,fun h=>hv h.1⟩,hx]
theorem rB_sq:rB*rB%pF=qB:=by decide
theorem root_base:rootR kP (decU yB) (decV yB)=some xB:=by
 rw [uB_is,vB_is]
 exact rootR_is qB_quot (rootZ_is qB_quot rootY_base rB_sq) rB_sq (by decide) (by decide)
theorem lo6_byt {N:Nat} (h:N<pF) {j:Nat} (_hj:j<32):lo6 (byt N) j=byt N j:=by
 unfold lo6
 by_cases h31:j=31
 · rw [if_pos h31,h31]
   exact Nat.mod_eq_of_lt (byt31_lt h)
 · rw [if_neg h31]
theorem dec_base:decN (byt yB)=some (ofXY xB yB):=by
 have e:ofB (lo6 (byt yB)) 32=yB:=by
  rw [ofB_congr 32 (fun j hj=>lo6_byt yB_lt hj),ofB_byt]
  decide
 have e31:¬(byt yB 31 / 128=1):=by
  have:=byt31_lt yB_lt
  omega
 unfold decN
 rw [e,if_pos yB_lt,root_base]
 show (if byt yB 31 / 128=1∧xB=0 then none else some (ofXY (if byt yB 31 / 128=1 then fsub 0 xB else xB) yB))=_
 rw [if_neg (fun h=>e31 h.1),if_neg e31]
theorem yB_quot:fmul 4 (finv 5)=yB:=quot_of' yB_lt (by decide) (by decide) (by decide)
set_option maxRecDepth 20000 in
set_option maxHeartbeats 4000000 in
theorem rbase_any (w:World):Calls Tryz.prog 41 #[] w fun e w'=>∃ t:P4,e = .returned t.V∧t.Rep (ofXY xB yB)∧Below w.heap.size w w':=by
 have hz:=zeroR
 have hzq:=zeroQ
 have c4':∀ W,Calls Tryz.prog 70 #[.int .i64 4] W fun e w'=>∃ R,e = .returned (.agg (i16 R).toArray)∧Rw R 4∧Below W.heap.size W w':=small_w 4 (by decide)
 have c5':∀ W,Calls Tryz.prog 70 #[.int .i64 5] W fun e w'=>∃ R,e = .returned (.agg (i16 R).toArray)∧Rw R 5∧Below W.heap.size W w':=small_w 5 (by decide)
 have ci:∀ A,Rw A 5→∀ W,Calls Tryz.prog 77 #[.agg (i16 A).toArray] W fun e w'=>∃ R,e = .returned (.agg (i16 R).toArray)∧Rw R (finv 5)∧Below W.heap.size W w':=fun A hA W=>rinverse_wide A _ hA W
 have ct:∀ A B,Rw A 4→Rw B (finv 5)→∀ W,Calls Tryz.prog 71 #[.agg (i16 A).toArray,.agg (i16 B).toArray] W fun e w'=>∃ R,e = .returned (.agg (i16 R).toArray)∧Rw R yB∧Below W.heap.size W w':=fun A B hA hB W=>(rtimes_w hA hB W).mono fun e w' ⟨he,hb⟩=>⟨_,he,by rw [←yB_quot];exact rw_t hA hB,hb⟩
 have cb:∀ R,Rw R yB→∀ W,Calls Tryz.prog 69 #[.agg (i16 R).toArray] W fun e w'=>∃ v,e = .returned v∧Own W.heap.size w' v 32 (byt yB)∧Below W.heap.size W w':=fun R hR W=>rw_bytes R _ hR yB_lt W
 have cd:∀ v W,BytesIn W v 32 (byt yB)→Calls Tryz.prog 31 #[v] W fun e w'=>∃ t:P4,e = .returned (.tuple #[.agg (q64 t.X t.Y t.Z t.T).toArray,.int .i64 0])∧t.Rep (ofXY xB yB)∧Below W.heap.size W w':=fun v W h=>(rdec_good v (byt yB) (byt_all _) W h).mono fun e w' ⟨t,er,he,hd,hb⟩=>by
  rcases hd with ⟨-,-,h1⟩ | ⟨h0,p,h1,h2⟩
  · rw [dec_base] at h1;cases h1
  · rw [dec_base] at h1
    obtain rfl:=Option.some.inj h1
    subst h0
    exact ⟨t,he,h2,hb⟩
 generalize ofXY xB yB=pb at *
 generalize finv 5=f5 at *
 generalize yB=yb at *
 obtain ⟨W,g0,eW,hg0,b,h0⟩:=freshQ w
 have HW:Hid (w.alloc (.cells zQ 68)=W):=Hid.mk' eW
 have Hg:Hid (w.heap.size=g0):=Hid.mk' hg0
 have w0:w.heap.size≤g0:=Nat.le_of_eq hg0
 clear eW hg0
 go_enter Tryz.func41,Tryz.ntmps41
 go_wp2_with (first
  | (go_at_call 70;rw [HW.out,Hg.out];refine (c4' _).mono ?_;clear c4' HW Hg;rintro e w1 ⟨R1,rfl,hR1,hb1⟩;(replace h0:=h0.still hb1);(replace b:=below_next b hb1);clear hb1)
  | (go_at_call 70;refine (c5' _).mono ?_;clear c5';rintro e w2 ⟨R2,rfl,hR2,hb2⟩;(replace h0:=h0.still hb2);(replace b:=below_next b hb2);clear hb2)
  | (go_at_call 77;refine (ci R2 hR2 _).mono ?_;clear ci;rintro e w3 ⟨R3,rfl,hR3,hb3⟩;(replace h0:=h0.still hb3);(replace b:=below_next b hb3);clear hb3)
  | (go_at_call 71;refine (ct R1 R3 hR1 hR3 _).mono ?_;clear ct;rintro e w4 ⟨R4,rfl,hR4,hb4⟩;(replace h0:=h0.still hb4);(replace b:=below_next b hb4);clear hb4;(have z4:=freshR' w4);(have t4:=freshRt w4 R4);(obtain ⟨V4,hV4⟩:∃ V,V=(w4.alloc (.cells zI 66)).setCells w4.heap.size 0 (i16 R4):=⟨_,rfl⟩);(have h1:RW V4 w4.heap.size 0 (i16 R4):=by rw [hV4];exact z4.stored _ (by rw [i16_len,i16_len]));(have b4:Below w4.heap.size w4 V4:=by rw [hV4];exact below_setCells (Nat.le_refl _) _ _ _ ((Below.refl _ _).alloc (Nat.le_refl _) _));(have H4:=Hid.mk' hV4);clear hV4 z4;(replace h0:=h0.still b4);(replace b:=below_next b b4);clear b4)
  | (with_reducible (refine id (?_:wpList _ _ _ _ _ _));refine wpList_store_mid rfl 66 _ _ rfl w4.heap.size 0 (i16 R4).toArray rfl rfl t4 (infoIA _) (oneI _) ?_;rw [List.toList_toArray,←H4.out];clear t4 H4)
  | (refine wpList_load_mid rfl 66 _ rfl w4.heap.size 0 rfl (i16 R4) _ h1.range Tryz.underlying66 rfl (infoI _) ?_)
  | (go_at_call 69;refine (cb R4 hR4 _).mono ?_;clear cb;rintro e w5 ⟨v5,rfl,own5,hb5⟩;(replace h0:=h0.still hb5);(replace b:=below_next b hb5);clear hb5 h1;(have cd5:=cd v5 w5 (BytesIn.of_own own5));clear cd)
  | (go_at_call 31;refine cd5.mono ?_;clear cd5 own5;rintro e w6 ⟨t,rfl,ht,hb6⟩;(replace h0:=h0.still hb6);(replace b:=below_next b hb6);clear hb6;(have l0:=h0.lt);(have z6:=freshQ' w6);(have t6:(w6.alloc (.cells zQ 68)).there w6.heap.size 0 (q64 t.X t.Y t.Z t.T).toArray.size:=there64 z6);(obtain ⟨V6,hV6⟩:∃ V,V=(w6.alloc (.cells zQ 68)).setCells w6.heap.size 0 (q64 t.X t.Y t.Z t.T):=⟨_,rfl⟩);(have h2:RW V6 w6.heap.size 0 (q64 t.X t.Y t.Z t.T):=by rw [hV6];exact z6.stored _ (q64_same _ _ _ _ _ _ _ _));(have b6:Below w6.heap.size w6 V6:=by rw [hV6];exact below_setCells (Nat.le_refl _) _ _ _ ((Below.refl _ _).alloc (Nat.le_refl _) _));(have H6:=Hid.mk' hV6);clear hV6 z6;(replace h0:=h0.still b6);(replace b:=below_next b b6);clear b6;(have t0:V6.there g0 0 (q64 t.X t.Y t.Z t.T).toArray.size:=there64 h0))
  | (with_reducible (refine id (?_:wpList _ _ _ _ _ _));refine wpList_store_mid rfl 68 _ _ rfl w6.heap.size 0 (q64 t.X t.Y t.Z t.T).toArray rfl rfl t6 (infoQA _ _ _ _) (oneQ _ _ _ _) ?_;rw [List.toList_toArray,←H6.out];clear t6 H6)
  | (refine wpList_load_mid rfl 68 _ rfl w6.heap.size 0 rfl (q64 t.X t.Y t.Z t.T) _ h2.range Tryz.underlying68 rfl (infoQ _ _ _ _) ?_)
  | (with_reducible (refine id (?_:wpList _ _ _ _ _ _));refine wpList_store_mid rfl 68 _ _ rfl g0 0 (q64 t.X t.Y t.Z t.T).toArray rfl rfl t0 (infoQA _ _ _ _) (oneQ _ _ _ _) ?_))
 (try simp only [Exit.inBlock,Exit.then])
 exact bodyPost_ret (results_cell_mid Tryz.results41 _ _ g0 0 (q64 t.X t.Y t.Z t.T) _ rfl (h0.stored (q64 t.X t.Y t.Z t.T) (q64_same _ _ _ _ _ _ _ _)).range Tryz.underlying68 rfl (infoQ _ _ _ _)) rfl ⟨t,rfl,ht,below_setCells w0 _ _ _ b⟩
end Go.Proofs.YtdgkmloabificaaGreatDoor
namespace Go.Proofs.YtdgkmloabificaaGreatDoor
theorem sub_sq {p x:Nat} (hx:x≤p):(p - x)*(p - x)%p=x*x%p:=by
 obtain ⟨d,rfl⟩:∃ d,p=x+d:=⟨p - x,by omega⟩
 rw [Nat.add_sub_cancel_left]
 have e:d*d+(x+d)*x=x*x+(x+d)*d:=by
  rw [Nat.add_mul,Nat.add_mul,Nat.mul_comm d x];omega
 have h1:(d*d+(x+d)*x)%(x+d)=d*d%(x+d):=Nat.add_mul_mod_self_left _ _ _
 have h2:(x*x+(x+d)*d)%(x+d)=x*x%(x+d):=Nat.add_mul_mod_self_left _ _ _
 rw [←h1,e,h2]
theorem evn_sq {x:Nat} (hx:x<pF):evn x*evn x%pF=x*x%pF:=by
 unfold evn
 split
 · rw [Nat.zero_add,←Nat.mul_mod]
   exact sub_sq (Nat.le_of_lt hx)
 · rfl
theorem evn_two {x:Nat} (hx:x<pF):evn x%2=0:=by
 have hp:pF%2=1:=by decide
 unfold evn
 by_cases h:x%2=1
 · rw [if_pos h,Nat.zero_add,Nat.mod_eq_of_lt (a:=pF - x) (b:=pF) (by omega)]
   generalize pF=p at *
   omega
 · rw [if_neg h]
   omega
theorem rootX_lt (k u v:Nat):rootX k u v<pF:=Nat.mod_lt _ pF_pos
theorem root_is {k u v r:Nat} (hu:u<pF) (h:rootP k u v=some r):r*r%pF*v%pF=u∧r%2=0:=by
 unfold rootP at h
 have hX:=rootX_lt k u v
 generalize rootX k u v=X at *
 by_cases h1:X*X%pF*v%pF=u
 · rw [if_pos h1] at h
   obtain rfl:=Option.some.inj h
   exact ⟨by rw [evn_sq hX];exact h1,evn_two hX⟩
 · rw [if_neg h1] at h
   by_cases h2:X*X%pF*v%pF=(0+pF - u)%pF
   · rw [if_pos h2] at h
     obtain rfl:=Option.some.inj h
     have hl:X*iM%pF<pF:=Nat.mod_lt _ pF_pos
     refine ⟨?_,evn_two hl⟩
     rw [evn_sq hl,times_sq iM_sq,neg_mul _ v (Nat.mod_lt _ pF_pos),h2]
     exact (neg_neg (neg_lt u) hu).2 rfl
   · rw [if_neg h2] at h
     cases h
theorem half_pow {k u:Nat} (hk:8*k+5=pF) (h0:u≠0) (hu:u<pF):u ^ (4*k+2)%pF=1∨u ^ (4*k+2)%pF=pF - 1:=by
 have hf:=prime_p.fermat1 (not_dvd h0 hu)
 rw [show pF - 1=(4*k+2)+(4*k+2) by omega,Nat.pow_add,pF_one,Nat.mul_mod] at hf
 have hl:u ^ (4*k+2)%pF<pF:=Nat.mod_lt _ pF_pos
 generalize u ^ (4*k+2)%pF=s at *
 clear hk
 have hs0:s≠0:=fun h=>by rw [h] at hf;exact absurd hf (by decide)
 have hd:pF ∣ (s - 1)*(s+1):=by
  refine ⟨s*s / pF,?_⟩
  have e:(s - 1)*(s+1)=s*s - 1:=by
   obtain ⟨t,rfl⟩:∃ t,s=t+1:=⟨s - 1,by omega⟩
   rw [Nat.add_sub_cancel,Nat.mul_add t (t+1) 1,Nat.mul_add t t 1,Nat.add_mul t 1 (t+1),Nat.mul_add t t 1];omega
  have h3:=Nat.div_add_mod (s*s) pF
  rw [e]
  generalize s*s=q at *
  generalize q / pF=d at *
  omega
 rcases prime_p.euclid hd with ⟨c,hc⟩ | ⟨c,hc⟩
 · left
   rcases Nat.eq_zero_or_pos c with h | h
   · rw [h,Nat.mul_zero] at hc;omega
   · have:=Nat.le_mul_of_pos_right pF h;omega
 · right
   rcases Nat.lt_or_ge c 2 with h | h
   · rcases (show c=0∨c=1 by omega) with rfl | rfl
     · omega
     · omega
   · have:=Nat.mul_le_mul_left pF h;omega
theorem quo_one {U:Nat} (hU:U<pF):quoR U 1=U:=by
 unfold quoR
 rw [Nat.one_pow,pF_one,Nat.mul_one,Nat.mod_eq_of_lt hU]
theorem root_found {k u:Nat} (hk:8*k+5=pF) (hu:u<pF):(rootP k (u*u%pF) 1).isSome=true:=by
 have hU:u*u%pF<pF:=Nat.mod_lt _ pF_pos
 rw [root_same hk hU (by decide)]
 unfold rootR rootZ rootY
 rw [quo_one hU]
 have e:∀ n,(u*u%pF) ^ n%pF=u ^ (2*n)%pF:=fun n=>by
  rw [powm,←Nat.pow_two,←Nat.pow_mul]
 have hY:(u*u%pF) ^ (k+1)%pF*((u*u%pF) ^ (k+1)%pF)%pF=u ^ (4*k+2)%pF*(u*u%pF)%pF:=by
  rw [e,←Nat.mul_mod,←Nat.mul_mod,←Nat.pow_add,←Nat.pow_two,←Nat.pow_add]
  congr 2
  omega
 have hYl:(u*u%pF) ^ (k+1)%pF<pF:=Nat.mod_lt _ pF_pos
 generalize (u*u%pF) ^ (k+1)%pF=y at *
 have key:y*y%pF=u*u%pF∨y*y%pF=(0+pF - u*u%pF)%pF:=by
  by_cases h0:u=0
  · left
    rw [hY,h0,Nat.mul_zero,Nat.zero_mod,Nat.mul_zero,Nat.zero_mod]
  · rcases half_pow hk h0 hu with h | h
    · left
      rw [hY,h,Nat.one_mul,Nat.mod_mod]
    · right
      have h1:=neg_mul 1 (u*u%pF) (by decide)
      rw [show (0+pF - 1)%pF=pF - 1 from by decide,Nat.one_mul,Nat.mod_mod] at h1
      rw [hY,h,h1]
 have ht:=times_sq iM_sq y
 have hyl:y*y%pF<pF:=Nat.mod_lt _ pF_pos
 generalize u*u%pF=U at *
 by_cases h1:y*y%pF=U
 · rw [if_pos h1,if_pos ⟨h1,fun h=>absurd h.1 (by decide)⟩]
   rfl
 · rw [if_neg h1,ht]
   rcases key with h | h
   · exact absurd h h1
   · rw [if_pos ⟨(neg_neg hyl hU).2 h,fun h=>absurd h.1 (by decide)⟩]
     rfl
end Go.Proofs.YtdgkmloabificaaGreatDoor
namespace Go.Proofs.YtdgkmloabificaaGreatDoor
open Go.RowKit
theorem encXY_encB {p:N4} {P:Fp × Fp} (hp:p.Ok) (h:Ext4 p P):encXY (fmul p.X (finv p.Z)) (fmul p.Y (finv p.Z))=encB P:=by
 have e:=enc_xy hp h
 rw [e.1,e.2]
 rfl
theorem encB_lt (P:Fp × Fp) (j:Nat):encB P j<256:=by
 have h:=byt31_lt P.2.isLt
 have h2:=byt_lt P.2.val j
 unfold encB
 split <;> omega
theorem val_of_byt {a b:Nat} (ha:a<pF) (hb:b<pF) (h:∀ j,j<32→byt a j=byt b j):a=b:=by
 have e:=ofB_congr 32 h
 have hp:pF<256 ^ 32:=by decide
 rw [ofB_byt,ofB_byt,Nat.mod_eq_of_lt (Nat.lt_trans ha hp),Nat.mod_eq_of_lt (Nat.lt_trans hb hp)] at e
 exact e
theorem encB_inj {P Q:Fp × Fp} (hP:On dE P) (hQ:On dE Q) (h:∀ j,j<32→encB P j=encB Q j):P=Q:=by
 have h31:=h 31 (by decide)
 have hl:=byt31_lt P.2.isLt
 have hm:=byt31_lt Q.2.isLt
 unfold encB at h31
 rw [if_pos rfl,if_pos rfl] at h31
 have hy:P.2.val=Q.2.val:=val_of_byt P.2.isLt Q.2.isLt (fun j hj=>by
  by_cases hj31:j=31
  · rw [hj31];omega
  · have:=h j hj
    unfold encB at this
    rwa [if_neg hj31,if_neg hj31] at this)
 exact enc_inj ns_dE hP hQ (Fin.ext hy) (by omega)
theorem encB_str {P Q:Fp × Fp} (hP:On dE P) (hQ:On dE Q):strB 32 (encB P)=strB 32 (encB Q)↔P=Q :=
 ⟨fun h=>encB_inj hP hQ ((strB_eq (encB_lt P) (encB_lt Q)).1 h).2,fun h=>by rw [h]⟩
theorem sq_neg {n:Nat} [NeZero n] {x:Fin n}:(0 - x)*(0 - x)=x*x:=by grind
theorem fsub_odd {x:Nat} (h0:x≠0) (hx:x<pF) (h2:x%2=0):fsub 0 x%2=1:=by
 have hp:pF%2=1:=by decide
 unfold fsub
 rw [Nat.zero_add,Nat.mod_eq_of_lt (a:=pF - x) (b:=pF) (by omega)]
 generalize pF=p at *
 omega
theorem dec_pt {bs:Nat→Nat} (hbs:∀ j,bs j<256) {p:N4} (h:decN bs=some p):p.Ok∧∃ P,Ext4 p P∧On dE P∧∀ j,j<32→encB P j=bs j:=by
 unfold decN at h
 have hb31:=hbs 31
 have hbyt:∀ j,j<32→byt (ofB (lo6 bs) 32) j=lo6 bs j:=fun j hj=>byt_ofB _ (lo6_lt hbs) 32 j hj
 generalize ofB (lo6 bs) 32=y at *
 by_cases hy:y<pF
 · rw [if_pos hy] at h
   have hlt:=rootR_lt6 kP (decU y) (decV y)
   cases hr:rootR kP (decU y) (decV y) with
   | none=>rw [hr] at h;cases h
   | some x =>
    rw [hr] at h hlt
    replace hlt:x<pF:=hlt
    change (if bs 31 / 128=1∧x=0 then none else some (ofXY (if bs 31 / 128=1 then fsub 0 x else x) y))=some p at h
    have hu:decU y<pF:=fsub_lt _ _
    have hv:decV y<pF:=fadd_lt _ _
    rw [←root_same kP_eq hu hv] at hr
    obtain ⟨hq,h2⟩:=root_is hu hr
    have e:cF x*cF x*(cF dN*(cF y*cF y)+1)=cF y*cF y - 1:=by
     have e0:fmul (fmul x x) (decV y)=decU y:=hq
     have e1:=congrArg cF e0
     unfold decU decV at e1
     simpa only [cF_mul,cF_add,cF_sub _ 1 (by decide),cF_one] using e1
    by_cases hz:bs 31 / 128=1∧x=0
    · rw [if_pos hz] at h;cases h
    · rw [if_neg hz] at h
      obtain rfl:=Option.some.inj h
      obtain ⟨x',hx'⟩:∃ x',x'=if bs 31 / 128=1 then fsub 0 x else x:=⟨_,rfl⟩
      rw [←hx']
      have hl':x'<pF:=by rw [hx'];split;exact fsub_lt _ _;exact hlt
      have hodd:x'%2=bs 31 / 128:=by
       rw [hx']
       by_cases ho:bs 31 / 128=1
       · rw [if_pos ho,ho]
         exact fsub_odd (fun h0=>hz ⟨ho,h0⟩) hlt h2
       · rw [if_neg ho];omega
      have e':cF x'*cF x'*(cF dN*(cF y*cF y)+1)=cF y*cF y - 1:=by
       rw [←e]
       congr 1
       rw [hx']
       split
       · rw [cF_sub _ _ hlt,cF_zero,sq_neg]
       · rfl
      refine ⟨ofXY_ok hl' hy,ptXY x' y,ofXY_ext x' y,ptXY_on e',fun j hj => ?_⟩
      unfold encB
      rw [ptXY_x y hl',ptXY_y x' hy]
      have hj':=hbyt j hj
      unfold lo6 at hj'
      by_cases h31:j=31
      · rw [if_pos h31] at hj' ⊢
        rw [h31] at hj' ⊢
        rw [hj',hodd]
        omega
      · rw [if_neg h31] at hj' ⊢
        exact hj'
 · rw [if_neg hy] at h;cases h
def P4.Pt (r:P4) (P:Fp × Fp):Prop:=On dE P∧∃ p:N4,r.Rep p∧p.Ok∧Ext4 p P
def baseP:Fp × Fp:=ptXY xB yB
theorem rbase_pt (w:World):Calls Tryz.prog 41 #[] w fun e w'=>∃ t:P4,e = .returned t.V∧t.Pt baseP∧Below w.heap.size w w' :=
 (rbase_any w).mono fun _ _ ⟨t,he,ht,hb⟩=>⟨t,he,⟨base_on,_,ht,ofXY_ok xB_lt yB_lt,ofXY_ext _ _⟩,hb⟩
theorem rplus_pt {r s:P4} {P Q:Fp × Fp} (hr:r.Pt P) (hs:s.Pt Q) {D:Nat→Int} (hD:Rw D dN) (w:World) :
 Calls Tryz.prog 34 #[r.V,s.V,rV D] w fun e w'=>∃ t:P4,e = .returned t.V∧t.Pt (eadd dE P Q)∧Below w.heap.size w w':=by
 obtain ⟨oP,p,hp,-,xp⟩:=hr
 obtain ⟨oQ,q,hq,-,xq⟩:=hs
 exact (rplus6_any hp hq hD w).mono fun _ _ ⟨t,he,ht,hb⟩=>⟨t,he,⟨eadd_on ns_dE oP oQ,_,ht,addN_ok _ _ _,addN_ext oP oQ xp xq⟩,hb⟩
theorem rtimes_pt {r:P4} {P:Fp × Fp} (hr:r.Pt P) (v:Value) (ks:Nat→Nat) (hks:∀ j,ks j<256) (w:World) (hv:BytesIn w v 32 ks) :
 Calls Tryz.prog 33 #[r.V,v] w fun e w'=>∃ t:P4,e = .returned (.tuple #[t.V,.int .i64 0])∧t.Pt (emul dE (ofB ks 32) P)∧Below w.heap.size w w':=by
 obtain ⟨oP,p,hp,kp,xp⟩:=hr
 refine (rtimes6_good hp v ks hks w hv).mono fun _ _ ⟨t,he,ht,hb⟩=>⟨t,he,⟨emul_on ns_dE oP _,_,ht,mulN_ok _ _ _ _,?_⟩,hb⟩
 rw [←nB_all ks hks]
 exact mulN_ext oP xp ks 256
theorem renc_pt {r:P4} {P:Fp × Fp} (hr:r.Pt P) (w:World) :
 Calls Tryz.prog 36 #[r.V] w fun e w'=>∃ s,e = .returned s∧NewC w w' s 32 (encB P)∧Below w.heap.size w w':=by
 obtain ⟨oP,p,hp,kp,xp⟩:=hr
 rw [←encXY_encB kp xp]
 exact renc_any hp w
theorem rdec_pt (v:Value) (bs:Nat→Nat) (hbs:∀ j,bs j<256) (w:World) (hv:BytesIn w v 32 bs) :
 Calls Tryz.prog 31 #[v] w fun e w'=>∃ (t:P4) (er:Int),e = .returned (.tuple #[t.V,.int .i64 er])∧Below w.heap.size w w' ∧
  ((er=30∧t.Pt ezero∧decN bs=none)∨(er=0∧(decN bs).isSome=true∧∃ P,t.Pt P∧∀ j,j<32→encB P j=bs j)) :=
 (rdec_good v bs hbs w hv).mono fun _ _ ⟨t,er,he,hd,hb⟩=>⟨t,er,he,hb,by
  rcases hd with ⟨h1,h2,h3⟩ | ⟨h1,p,h2,h3⟩
  · exact .inl ⟨h1,⟨ezero_on dE,_,h2,zeroN_ok,zeroN_ext⟩,h3⟩
  · obtain ⟨kp,P,xp,oP,hP⟩:=dec_pt hbs h2
    exact .inr ⟨h1,by rw [h2];rfl,P,⟨oP,p,h3,kp,xp⟩,hP⟩⟩
end Go.Proofs.YtdgkmloabificaaGreatDoor
namespace Go.Proofs.YtdgkmloabificaaGreatDoor
open Go.ChangeShapes Go.WideShapes Go.ChangeAt Go.RowKit
theorem ownKnobs:ownKnob Tryz.prog.godebug=none:=by kernel_rfl
theorem laidOut:laidOutB Tryz.prog=true:=by kernel_rfl
theorem cellsOfByte:Tryz.prog.cellsOf 5=1:=by kernel_rfl
theorem bytesOfByte:Tryz.prog.bytesOf 5=1:=by kernel_rfl
set_option maxRecDepth 20000 in
theorem open_bytes {H:Type} {enc:TypeId × Value→H} {W:World} {base:Nat} {v:Value} {d:DataW H} {ps:List MemPlace} (hval:Value.okWide Tryz.prog W .any base 22 v) (h:DataW.Trod enc Tryz.prog W 0 (fun _=>true) true 22 v d ps) :
 ∃ n bs,BytesIn W v n bs∧(∀ j,bs j<256)∧(n=0∨∃ elems spare,d = .slice elems spare∧elems.length=n):=by
 obtain ⟨a0,len,cap,rfl⟩:=okWide_slice Tryz.underlying22 hval
 obtain ⟨fuel,hf⟩:=h
 have hc:Cell.ok Tryz.prog W .any base 22 (.slice a0 len cap):=by
  unfold Value.okWide Cell.okWide at hval
  simp only [Tryz.underlying22] at hval
  exact hval
 rcases open_ints Tryz.underlying22 Tryz.underlying5 cellsOfByte hf with ⟨hcs,hx⟩ | ⟨a,len',cap',zs,hcs,_,hl,hm,hz,hx,hcell,hwz⟩
 · simp [Value.cells] at hcs
   obtain ⟨rfl,rfl,rfl⟩:=hcs
   exact ⟨0,fun _=>0,.inl ⟨none,rfl,rfl⟩,fun _=>Nat.zero_lt_succ _,.inl rfl⟩
 · simp [Value.cells] at hcs
   obtain ⟨rfl,rfl,rfl⟩:=hcs
   simp only [Prod.mk.injEq] at hx
   obtain ⟨rfl,rfl⟩:=hx
   simp only [if_true] at hz
   unfold Cell.ok at hc
   simp only [Tryz.underlying22] at hc
   obtain ⟨_,_,_,hs,row,cells,hsh,_⟩:=hc
   obtain ⟨b,off,spot⟩:=a
   subst hs
   have hbl:b<W.heap.size:=by
    rcases Nat.lt_or_ge b W.heap.size with h | h
    · exact h
    · unfold World.shape? at hsh
      rw [Array.getElem?_eq_none h] at hsh
      cases hsh
   have hn:∀ j,0≤zs.getD j 0∧zs.getD j 0<256:=fun j=>by
    rw [List.getD_eq_getElem?_getD]
    cases h:zs[j]? with
    | none=>simp
    | some x =>
     have:=hwz x (List.mem_of_getElem? h)
     have h0:(0:Int)≤x∧x≤255:=by simpa [Lit.wf,IntKind.min,IntKind.max,IntKind.signed,IntKind.bits] using this
     show 0≤x∧x<256
     omega
   refine ⟨len,fun j=>(zs.getD j 0).toNat,.inr ⟨b,off,cap,rfl,hbl,hl,fun j hj => ?_⟩,fun j => ?_,.inr ⟨_,_,rfl,?_⟩⟩
   · have h:=hcell j (by omega)
     rw [Addr.add_mid] at h
     rw [h,Int.toNat_of_nonneg (hn j).1]
   · have:=hn j
     show (zs.getD j 0).toNat<256
     omega
   · simp [lits];omega
theorem bytes_reach2 {H:Type} {ts:List TypeId} {ds:List (DataW H)} (hR:(DataW.weightsEach Tryz.prog ts ds).all (·≤reachBytes)=true) {j n:Nat} {d:DataW H} (ht:ts[j]? = some 22) (hd:ds[j]? = some d) (h:n=0∨∃ elems spare,d = .slice elems spare∧elems.length=n):n<140737488352000:=by
 rcases h with h | ⟨elems,spare,rfl,rfl⟩
 · omega
 · have:=sized_slice hR ht hd Tryz.underlying22
   rw [bytesOfByte] at this
   unfold reachBytes at this
   omega
end Go.Proofs.YtdgkmloabificaaGreatDoor
namespace Go.Proofs.YtdgkmloabificaaGreatDoor
open Go
structure Ru where
 m:Nat
 rounds:Nat
 s0:Nat × Nat × Nat
 s1:Nat × Nat × Nat
 l0:Nat × Nat × Nat
 l1:Nat × Nat × Nat
def rn:Ru:=⟨32,64,(7,18,3),(17,19,10),(2,13,22),(6,11,25)⟩
def rw6:Ru:=⟨64,80,(1,8,7),(19,61,6),(28,34,39),(14,18,41)⟩
def rot (m x n:Nat):Nat:=(x / 2 ^ n) ||| (x*2 ^ (m - n)%2 ^ m)
def hi3 (m x:Nat) (n:Nat × Nat × Nat):Nat:=rot m x n.1 ^^^ rot m x n.2.1 ^^^ rot m x n.2.2
def lo3 (m x:Nat) (n:Nat × Nat × Nat):Nat:=rot m x n.1 ^^^ rot m x n.2.1 ^^^ (x / 2 ^ n.2.2)
theorem rot_lt (m x n:Nat) (hx:x<2 ^ m):rot m x n<2 ^ m :=
 Nat.or_lt_two_pow (Nat.lt_of_le_of_lt (Nat.div_le_self _ _) hx) (Nat.mod_lt _ (Nat.two_pow_pos m))
theorem rot64_eq (x n:Nat) (hx:x<18446744073709551616) :
 bits .or .u64 ((x:Int) / 2 ^ n) ((x:Int)*2 ^ (64 - n)%18446744073709551616)=((rot 64 x n:Nat):Int):=by
 have e1:(x:Int) / 2 ^ n=((x / 2 ^ n:Nat):Int):=by simp
 have e2:(x:Int)*2 ^ (64 - n)%18446744073709551616=((x*2 ^ (64 - n)%18446744073709551616:Nat):Int):=by simp
 rw [e1,e2,bits_or_u64_nat _ _ (Nat.lt_of_le_of_lt (Nat.div_le_self _ _) hx) (Nat.mod_lt _ (by decide))]
 rfl
end Go.Proofs.YtdgkmloabificaaGreatDoor
namespace Go.Proofs.YtdgkmloabificaaGreatDoor
open Go.RowKit
theorem turn64_any (x n:Nat) (hx:x<18446744073709551616) (hn:n≤64) (w:World) :
 Calls Tryz.prog 139 #[.int .u64 x,.int .u64 n,.int .u64 64] w fun e w'=>e = .returned (.int .u64 (rot 64 x n))∧w'=w:=by
 go_enter Tryz.func139,Tryz.ntmps139
 go_wp2
 go_ret
 exact ⟨retInt (rot64_eq x n hx),rfl⟩
theorem turnAll64_any (x a b c:Nat) (hx:x<18446744073709551616) (ha:a≤64) (hb:b≤64) (hc:c≤64) (w:World) :
 Calls Tryz.prog 130 #[.int .u64 x,.agg #[.int .u64 a,.int .u64 b,.int .u64 c],.int .u64 64] w fun e w'=>e = .returned (.int .u64 (hi3 64 x (a,b,c)))∧Below w.heap.size w w':=by
 go_enter Tryz.func130,Tryz.ntmps130
 go_wp2
 go_quiet ((go_at_call 139;exact Calls.quiet_of_same (turn64_any _ _ hx (by assumption) _)))
 go_wp2
 go_ret
 refine ⟨retInt ?_,below_drewN ((Below.refl _ _).alloc (Nat.le_refl _) _) _⟩
 rw [u64_xor_nat _ _ (rot_lt 64 x a hx) (rot_lt 64 x b hx),u64_xor_nat _ _ (Nat.xor_lt_two_pow (rot_lt 64 x a hx) (rot_lt 64 x b hx)) (rot_lt 64 x c hx)]
 rfl
theorem turnShift64_any (x a b c:Nat) (hx:x<18446744073709551616) (ha:a≤64) (hb:b≤64) (hc:c≤64) (w:World) :
 Calls Tryz.prog 138 #[.int .u64 x,.agg #[.int .u64 a,.int .u64 b,.int .u64 c],.int .u64 64] w fun e w'=>e = .returned (.int .u64 (lo3 64 x (a,b,c)))∧Below w.heap.size w w':=by
 go_enter Tryz.func138,Tryz.ntmps138
 go_wp2
 go_quiet ((go_at_call 139;exact Calls.quiet_of_same (turn64_any _ _ hx (by assumption) _)))
 go_wp2
 go_ret
 refine ⟨retInt ?_,below_drewN ((Below.refl _ _).alloc (Nat.le_refl _) _) _⟩
 have e1:(x:Int) / 2 ^ c=((x / 2 ^ c:Nat):Int):=by simp
 rw [e1,u64_xor_nat _ _ (rot_lt 64 x a hx) (rot_lt 64 x b hx),u64_xor_nat _ _ (Nat.xor_lt_two_pow (rot_lt 64 x a hx) (rot_lt 64 x b hx)) (Nat.lt_of_le_of_lt (Nat.div_le_self _ _) hx)]
 rfl
theorem highest64_any (x:Nat) (_hx:x<18446744073709551616) (w:World) :
 Calls Tryz.prog 110 #[.int .u64 x,(.agg #[.int .i64 64,.int .i64 80,.int .u64 1,.int .u64 8,.int .u64 7,.int .u64 19,.int .u64 61,.int .u64 6,.int .u64 28,.int .u64 34,.int .u64 39,.int .u64 14,.int .u64 18,.int .u64 41])] w fun e w'=>e = .returned (.int .u64 ((x / 2 ^ (64 - 64):Nat):Int))∧Below w.heap.size w w':=by
 go_enter Tryz.func110,Tryz.ntmps110
 go_wp2
 go_ret
 refine ⟨retInt ?_,((Below.refl _ _).alloc (Nat.le_refl _) _)⟩
 simp
 try omega
theorem blockSize64_any (w:World) :
 Calls Tryz.prog 111 #[(.agg #[.int .i64 64,.int .i64 80,.int .u64 1,.int .u64 8,.int .u64 7,.int .u64 19,.int .u64 61,.int .u64 6,.int .u64 28,.int .u64 34,.int .u64 39,.int .u64 14,.int .u64 18,.int .u64 41])] w fun e w'=>e = .returned (.int .i64 128)∧Below w.heap.size w w':=by
 go_enter Tryz.func111,Tryz.ntmps111
 go_wp2
 go_ret
 exact ⟨rfl,((Below.refl _ _).alloc (Nat.le_refl _) _)⟩
end Go.Proofs.YtdgkmloabificaaGreatDoor
