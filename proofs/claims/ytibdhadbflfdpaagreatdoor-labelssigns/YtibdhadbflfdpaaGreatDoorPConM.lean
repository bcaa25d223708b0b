/- What the proof stands on: PCon, PAt. -/
import Derived.Test.YtibdhadbflfdpaaGreatDoorSgRVerM
namespace Go.Proofs.YtibdhadbflfdpaaGreatDoor
open Nat renaming le_refl → JW
open Nat renaming lt_of_lt_of_le → JX
open Go renaming wpList_store_mid → J2
open Go.RowKit
theorem mm (w:World) (L:List Nat) (hL:L.length=32):ae (w.alloc (.cells (L.map fun (b:Nat)=>Value.int .u8 (b:Int)).toArray 5)) (.slice (some ⟨w.heap.size,0,none⟩) 32 32) 32 (fun j=>L.getD j 0):=by
 refine .inr ⟨w.heap.size,0,32,rfl,by simp,JW _,fun j hj => ?_⟩;have hr:=(RW.fresh w (L.map fun (b:Nat)=>Value.int .u8 (b:Int)) 5).range
 have h:=hr j (Value.int .u8 ((L.getD j 0:Nat):Int)) (by
  rw [List.getElem?_map,List.getElem?_eq_getElem (by omega)]
  simp [List.getD,List.getElem?_eq_getElem (show j<L.length by omega)])
 exact h
def lr:List Nat:=[163,120,89,19,202,77,235,117,171,216,65,65,77,10,112,0,152,232,121,119,121,64,199,140,115,254,111,43,238,108,3,82]
theorem wz (j:Nat):lr.getD j 0<256:=by
 rcases Nat.lt_or_ge j 32 with h | h
 · revert h j;decide
 · rw [List.getD,List.getElem?_eq_none h];decide
theorem wh:fV 32 (fun j=>lr.getD j 0)=dN:=by kernel_rfl
set_option maxRecDepth 20000 in
set_option maxHeartbeats 4000000 in
theorem nO (w:World):Calls Tryz.prog 174 #[] w fun e w'=>e = .returned (ag dN)∧Below w.heap.size w w':=by
 have cn:∀ W v,ae W v 32 (fun j=>lr.getD j 0)→Calls Tryz.prog 110 #[v] W fun e w'=>e = .returned (.agg (c4 dN).toArray)∧Below W.heap.size W w':=fun W v h=>by
  have k:=fd v 32 _ wz W h;rw [wh] at k;exact k
 rw [show ag dN = .agg (c4 dN).toArray from rfl];generalize dN=m at *;obtain ⟨W,g,eW,hg,b,h0⟩:=cL w
 have hs:W.heap.size=w.heap.size+1:=by rw [←eW];simp
 have hv:ae (W.alloc (.cells #[.int .u8 163,.int .u8 120,.int .u8 89,.int .u8 19,.int .u8 202,.int .u8 77,.int .u8 235,.int .u8 117,.int .u8 171,.int .u8 216,.int .u8 65,.int .u8 65,.int .u8 77,.int .u8 10,.int .u8 112,.int .u8 0,.int .u8 152,.int .u8 232,.int .u8 121,.int .u8 119,.int .u8 121,.int .u8 64,.int .u8 199,.int .u8 140,.int .u8 115,.int .u8 254,.int .u8 111,.int .u8 43,.int .u8 238,.int .u8 108,.int .u8 3,.int .u8 82] 5)) (.slice (some ⟨w.heap.size+1,0,none⟩) 32 32) 32 (fun j=>lr.getD j 0):=by rw [←hs];exact mm W lr rfl
 obtain ⟨V,eV⟩:∃ V,W.alloc (.cells #[.int .u8 163,.int .u8 120,.int .u8 89,.int .u8 19,.int .u8 202,.int .u8 77,.int .u8 235,.int .u8 117,.int .u8 171,.int .u8 216,.int .u8 65,.int .u8 65,.int .u8 77,.int .u8 10,.int .u8 112,.int .u8 0,.int .u8 152,.int .u8 232,.int .u8 121,.int .u8 119,.int .u8 121,.int .u8 64,.int .u8 199,.int .u8 140,.int .u8 115,.int .u8 254,.int .u8 111,.int .u8 43,.int .u8 238,.int .u8 108,.int .u8 3,.int .u8 82] 5)=V:=⟨_,rfl⟩
 have bV:Below W.heap.size W V:=by rw [←eV];exact (Below.refl _ _).alloc (JW _) _
 rw [eV] at hv;have HV:Hid ((w.alloc (.cells #[.int .u64 0,.int .u64 0,.int .u64 0,.int .u64 0] 75)).alloc (.cells #[.int .u8 163,.int .u8 120,.int .u8 89,.int .u8 19,.int .u8 202,.int .u8 77,.int .u8 235,.int .u8 117,.int .u8 171,.int .u8 216,.int .u8 65,.int .u8 65,.int .u8 77,.int .u8 10,.int .u8 112,.int .u8 0,.int .u8 152,.int .u8 232,.int .u8 121,.int .u8 119,.int .u8 121,.int .u8 64,.int .u8 199,.int .u8 140,.int .u8 115,.int .u8 254,.int .u8 111,.int .u8 43,.int .u8 238,.int .u8 108,.int .u8 3,.int .u8 82] 5)=V):=Hid.mk' (by rw [eW,eV]);have Hg:Hid (w.heap.size=g):=Hid.mk' hg;have wg:w.heap.size≤g:=Nat.le_of_eq hg;replace h0:=h0.still bV;replace b:=aa b bV;clear eW hg eV bV hs W;go_enter Tryz.func174,Tryz.ntmps174
 go_wp2_with (first
  | (go_at_call 110;rw [HV.out];refine (cn _ _ hv).mono ?_;rw [Hg.out];clear cn HV Hg;rintro e w1 ⟨rfl,hb1⟩;(replace h0:=h0.still hb1);(replace b:=aa b hb1);clear hb1;(have t0:w1.there g 0 (c4 m).toArray.size:=h0.there))
  | (with_reducible (refine id (?_:wpList _ _ _ _ _ _));refine J2 rfl 75 _ _ rfl g 0 (c4 m).toArray rfl rfl t0 (cN m) (fS m) ?_))
 (try simp only [Exit.inBlock,Exit.then]);exact bodyPost_ret (ai Tryz.results174 _ _ g 0 (c4 m) _ rfl (h0.stored (c4 m) rfl).range Tryz.underlying75 rfl aE) rfl ⟨rfl,ac wg _ _ _ b⟩
def n8:List Nat:=[26,213,37,143,96,45,86,201,178,167,37,149,96,199,44,105,92,220,214,253,49,226,164,192,254,83,110,205,211,54,105,33]
theorem Az (j:Nat):n8.getD j 0<256:=by
 rcases Nat.lt_or_ge j 32 with h | h
 · revert h j;decide
 · rw [List.getD,List.getElem?_eq_none h];decide
theorem Ax:fV 32 (fun j=>n8.getD j 0)=xB:=by kernel_rfl
set_option maxRecDepth 20000 in
set_option maxHeartbeats 4000000 in
theorem AO (w:World):Calls Tryz.prog 93 #[] w fun e w'=>e = .returned (ag xB)∧Below w.heap.size w w':=by
 have cn:∀ W v,ae W v 32 (fun j=>n8.getD j 0)→Calls Tryz.prog 110 #[v] W fun e w'=>e = .returned (.agg (c4 xB).toArray)∧Below W.heap.size W w':=fun W v h=>by
  have k:=fd v 32 _ Az W h;rw [Ax] at k;exact k
 rw [show ag xB = .agg (c4 xB).toArray from rfl];generalize xB=m at *;obtain ⟨W,g,eW,hg,b,h0⟩:=cL w
 have hs:W.heap.size=w.heap.size+1:=by rw [←eW];simp
 have hv:ae (W.alloc (.cells #[.int .u8 26,.int .u8 213,.int .u8 37,.int .u8 143,.int .u8 96,.int .u8 45,.int .u8 86,.int .u8 201,.int .u8 178,.int .u8 167,.int .u8 37,.int .u8 149,.int .u8 96,.int .u8 199,.int .u8 44,.int .u8 105,.int .u8 92,.int .u8 220,.int .u8 214,.int .u8 253,.int .u8 49,.int .u8 226,.int .u8 164,.int .u8 192,.int .u8 254,.int .u8 83,.int .u8 110,.int .u8 205,.int .u8 211,.int .u8 54,.int .u8 105,.int .u8 33] 5)) (.slice (some ⟨w.heap.size+1,0,none⟩) 32 32) 32 (fun j=>n8.getD j 0):=by rw [←hs];exact mm W n8 rfl
 obtain ⟨V,eV⟩:∃ V,W.alloc (.cells #[.int .u8 26,.int .u8 213,.int .u8 37,.int .u8 143,.int .u8 96,.int .u8 45,.int .u8 86,.int .u8 201,.int .u8 178,.int .u8 167,.int .u8 37,.int .u8 149,.int .u8 96,.int .u8 199,.int .u8 44,.int .u8 105,.int .u8 92,.int .u8 220,.int .u8 214,.int .u8 253,.int .u8 49,.int .u8 226,.int .u8 164,.int .u8 192,.int .u8 254,.int .u8 83,.int .u8 110,.int .u8 205,.int .u8 211,.int .u8 54,.int .u8 105,.int .u8 33] 5)=V:=⟨_,rfl⟩
 have bV:Below W.heap.size W V:=by rw [←eV];exact (Below.refl _ _).alloc (JW _) _
 rw [eV] at hv;have HV:Hid ((w.alloc (.cells #[.int .u64 0,.int .u64 0,.int .u64 0,.int .u64 0] 75)).alloc (.cells #[.int .u8 26,.int .u8 213,.int .u8 37,.int .u8 143,.int .u8 96,.int .u8 45,.int .u8 86,.int .u8 201,.int .u8 178,.int .u8 167,.int .u8 37,.int .u8 149,.int .u8 96,.int .u8 199,.int .u8 44,.int .u8 105,.int .u8 92,.int .u8 220,.int .u8 214,.int .u8 253,.int .u8 49,.int .u8 226,.int .u8 164,.int .u8 192,.int .u8 254,.int .u8 83,.int .u8 110,.int .u8 205,.int .u8 211,.int .u8 54,.int .u8 105,.int .u8 33] 5)=V):=Hid.mk' (by rw [eW,eV]);have Hg:Hid (w.heap.size=g):=Hid.mk' hg;have wg:w.heap.size≤g:=Nat.le_of_eq hg;replace h0:=h0.still bV;replace b:=aa b bV;clear eW hg eV bV hs W;go_enter Tryz.func93,Tryz.ntmps93
 go_wp2_with (first
  | (go_at_call 110;rw [HV.out];refine (cn _ _ hv).mono ?_;rw [Hg.out];clear cn HV Hg;rintro e w1 ⟨rfl,hb1⟩;(replace h0:=h0.still hb1);(replace b:=aa b hb1);clear hb1;(have t0:w1.there g 0 (c4 m).toArray.size:=h0.there))
  | (with_reducible (refine id (?_:wpList _ _ _ _ _ _));refine J2 rfl 75 _ _ rfl g 0 (c4 m).toArray rfl rfl t0 (cN m) (fS m) ?_))
 (try simp only [Exit.inBlock,Exit.then]);exact bodyPost_ret (ai Tryz.results93 _ _ g 0 (c4 m) _ rfl (h0.stored (c4 m) rfl).range Tryz.underlying75 rfl aE) rfl ⟨rfl,ac wg _ _ _ b⟩
def o5:List Nat:=[88,102,102,102,102,102,102,102,102,102,102,102,102,102,102,102,102,102,102,102,102,102,102,102,102,102,102,102,102,102,102,102]
theorem Ak (j:Nat):o5.getD j 0<256:=by
 rcases Nat.lt_or_ge j 32 with h | h
 · revert h j;decide
 · rw [List.getD,List.getElem?_eq_none h];decide
theorem zY:fV 32 (fun j=>o5.getD j 0)=yB:=by kernel_rfl
set_option maxRecDepth 20000 in
set_option maxHeartbeats 4000000 in
theorem zX (w:World):Calls Tryz.prog 94 #[] w fun e w'=>e = .returned (ag yB)∧Below w.heap.size w w':=by
 have cn:∀ W v,ae W v 32 (fun j=>o5.getD j 0)→Calls Tryz.prog 110 #[v] W fun e w'=>e = .returned (.agg (c4 yB).toArray)∧Below W.heap.size W w':=fun W v h=>by
  have k:=fd v 32 _ Ak W h;rw [zY] at k;exact k
 rw [show ag yB = .agg (c4 yB).toArray from rfl];generalize yB=m at *;obtain ⟨W,g,eW,hg,b,h0⟩:=cL w
 have hs:W.heap.size=w.heap.size+1:=by rw [←eW];simp
 have hv:ae (W.alloc (.cells #[.int .u8 88,.int .u8 102,.int .u8 102,.int .u8 102,.int .u8 102,.int .u8 102,.int .u8 102,.int .u8 102,.int .u8 102,.int .u8 102,.int .u8 102,.int .u8 102,.int .u8 102,.int .u8 102,.int .u8 102,.int .u8 102,.int .u8 102,.int .u8 102,.int .u8 102,.int .u8 102,.int .u8 102,.int .u8 102,.int .u8 102,.int .u8 102,.int .u8 102,.int .u8 102,.int .u8 102,.int .u8 102,.int .u8 102,.int .u8 102,.int .u8 102,.int .u8 102] 5)) (.slice (some ⟨w.heap.size+1,0,none⟩) 32 32) 32 (fun j=>o5.getD j 0):=by rw [←hs];exact mm W o5 rfl
 obtain ⟨V,eV⟩:∃ V,W.alloc (.cells #[.int .u8 88,.int .u8 102,.int .u8 102,.int .u8 102,.int .u8 102,.int .u8 102,.int .u8 102,.int .u8 102,.int .u8 102,.int .u8 102,.int .u8 102,.int .u8 102,.int .u8 102,.int .u8 102,.int .u8 102,.int .u8 102,.int .u8 102,.int .u8 102,.int .u8 102,.int .u8 102,.int .u8 102,.int .u8 102,.int .u8 102,.int .u8 102,.int .u8 102,.int .u8 102,.int .u8 102,.int .u8 102,.int .u8 102,.int .u8 102,.int .u8 102,.int .u8 102] 5)=V:=⟨_,rfl⟩
 have bV:Below W.heap.size W V:=by rw [←eV];exact (Below.refl _ _).alloc (JW _) _
 rw [eV] at hv;have HV:Hid ((w.alloc (.cells #[.int .u64 0,.int .u64 0,.int .u64 0,.int .u64 0] 75)).alloc (.cells #[.int .u8 88,.int .u8 102,.int .u8 102,.int .u8 102,.int .u8 102,.int .u8 102,.int .u8 102,.int .u8 102,.int .u8 102,.int .u8 102,.int .u8 102,.int .u8 102,.int .u8 102,.int .u8 102,.int .u8 102,.int .u8 102,.int .u8 102,.int .u8 102,.int .u8 102,.int .u8 102,.int .u8 102,.int .u8 102,.int .u8 102,.int .u8 102,.int .u8 102,.int .u8 102,.int .u8 102,.int .u8 102,.int .u8 102,.int .u8 102,.int .u8 102,.int .u8 102] 5)=V):=Hid.mk' (by rw [eW,eV]);have Hg:Hid (w.heap.size=g):=Hid.mk' hg;have wg:w.heap.size≤g:=Nat.le_of_eq hg;replace h0:=h0.still bV;replace b:=aa b bV;clear eW hg eV bV hs W;go_enter Tryz.func94,Tryz.ntmps94
 go_wp2_with (first
  | (go_at_call 110;rw [HV.out];refine (cn _ _ hv).mono ?_;rw [Hg.out];clear cn HV Hg;rintro e w1 ⟨rfl,hb1⟩;(replace h0:=h0.still hb1);(replace b:=aa b hb1);clear hb1;(have t0:w1.there g 0 (c4 m).toArray.size:=h0.there))
  | (with_reducible (refine id (?_:wpList _ _ _ _ _ _));refine J2 rfl 75 _ _ rfl g 0 (c4 m).toArray rfl rfl t0 (cN m) (fS m) ?_))
 (try simp only [Exit.inBlock,Exit.then]);exact bodyPost_ret (ai Tryz.results94 _ _ g 0 (c4 m) _ rfl (h0.stored (c4 m) rfl).range Tryz.underlying75 rfl aE) rfl ⟨rfl,ac wg _ _ _ b⟩
abbrev FK:Oper:=oS (Op.store 77 (oT 4) (oT 11)) "curve.go:41" #[jD 6,jC 5,jP 0,jP 1,jP 2,jP 3,jP 4,jP 5,jP 6]
abbrev Cr:Oper:=oS (Op.store 77 (oT 8) (oT 21)) "curve.go:70" #[jD 12,jC 11,jP 0,jP 1,jP 2,jP 3,jP 4,jP 5,jP 6,jP 7,jP 8,jP 9,jP 10,jP 11,jP 12]
set_option maxRecDepth 20000 in
set_option maxHeartbeats 4000000 in
theorem Fe (x y t:Nat)
 (ct:∀ W,Calls Tryz.prog 98 #[ag x,ag y] W fun e w'=>e = .returned (ag t)∧Below W.heap.size W w')
 (w:World):Calls Tryz.prog 92 #[ag x,ag y] w fun e w'=>e = .returned (pV x y 1 t)∧Below w.heap.size w w':=by
 have hzp:=eF
 have c1:∀ W,Calls Tryz.prog 157 #[.int .i64 1] W fun e w'=>e = .returned (ag 1)∧Below W.heap.size W w':=jJ 1 (by decide)
 obtain ⟨V1,g2,eg2,hg2,bg2,hx⟩:∃ V g,w.alloc (.cells (c4 x).toArray 75)=V∧w.heap.size=g∧Below w.heap.size w V∧RW V g 0 (c4 x):=⟨_,_,rfl,rfl,(Below.refl _ _).alloc (JW _) _,RW.fresh w _ _⟩
 obtain ⟨V2,g3,eg3,hg3,bg3,hy⟩:∃ V g,V1.alloc (.cells (c4 y).toArray 75)=V∧V1.heap.size=g∧Below V1.heap.size V1 V∧RW V g 0 (c4 y):=⟨_,_,rfl,rfl,(Below.refl _ _).alloc (JW _) _,RW.fresh V1 _ _⟩
 obtain ⟨W,g4,e4,hg4,b4,hres⟩:=dM V2
 have t1:V1.heap.size=w.heap.size+1:=by rw [←eg2];simp
 have t2:V2.heap.size=V1.heap.size+1:=by rw [←eg3];simp
 have HW:Hid (W=((w.alloc (.cells (c4 x).toArray 75)).alloc (.cells (c4 y).toArray 75)).alloc (.cells zP 77)):=Hid.mk' (by rw [←e4,←eg3,←eg2]);have q2:Hid (w.heap.size=g2):=Hid.mk' hg2;have q3:Hid (w.heap.size+1=g3):=Hid.mk' (by omega);have q4:Hid (w.heap.size+1+1=g4):=Hid.mk' (by omega);replace hx:=(hx.still bg3).still b4;replace hy:=hy.still b4;have hbW:Below w.heap.size w W:=(bg2.trans (bg3.mono (by omega))).trans (b4.mono (by omega))
 have w4:w.heap.size≤g4:=by omega
 have n24:g2≠g4:=by omega
 have n34:g3≠g4:=by omega
 have l4:=hres.lt;clear eg2 eg3 e4 hg2 hg3 hg4 bg2 bg3 b4 t1 t2 V1 V2;rw [show ag x = .agg (c4 x).toArray from rfl,show ag y = .agg (c4 y).toArray from rfl];go_enter Tryz.func92,Tryz.ntmps92
 go_upto_region 1 with (fail)
 rw [←HW.out,q4.out,q3.out,q2.out];clear HW q2 q3 q4;have hdrew:Below W.heap.size W W.drew:=(Below.refl _ _).drew;replace hx:=hx.still hdrew;replace hy:=hy.still hdrew;replace hres:=hres.still hdrew;refine wp_region_noPanic ?_;replace l4:=JX l4 hdrew.size;refine wp_region_held_drew (S:=fun w'=>aT g4 0 16 W.drew w') (by kernel_rfl) (aT.refl _ _ _ _) (fun hS => ?_);generalize W.drew=Va1_ at *;refine tk 0 (ag x) hS (hy:=(gQ hx n24 75 2 Tryz.underlying75 aE)) (h := ?_);(try simp only [pS]);refine tk 1 (ag y) hS (hy:=(gQ hy n34 75 3 Tryz.underlying75 aE)) (h := ?_);(try simp only [pS]);refine tk 3 (ag x) hS (hy:=(gQ hx n24 75 2 Tryz.underlying75 aE)) (h := ?_);(try simp only [pS]);refine tk 4 (ag y) hS (hy:=(gQ hy n34 75 3 Tryz.underlying75 aE)) (h := ?_);(try simp only [pS]);refine cl 2 (c1 _) ?_;(clear c1;rintro e wa1_1 ⟨rfl,hba1_1⟩);have hSa1_1:=hS.trans (aT.of_below hba1_1 l4);replace l4:=JX l4 hba1_1.size;replace hres:=hres.still hba1_1;refine ⟨_,rfl,hSa1_1,?_⟩;clear hba1_1;(try simp only [pS]);refine cl 5 (ct _) ?_;(clear ct;rintro e wa1_2 ⟨rfl,hba1_2⟩);have hSa1_2:=hSa1_1.trans (aT.of_below hba1_2 l4);replace l4:=JX l4 hba1_2.size;replace hres:=hres.still hba1_2;refine ⟨_,rfl,hSa1_2,?_⟩;clear hba1_2;(try simp only [pS]);refine tk 6 (pV x y 1 t) hSa1_2 (hy:=(eR (by rfl) 77 _ _ _ _ rfl (ag x) (ag y) (ag 1) (ag t) rfl rfl rfl rfl _ (yA _ _ _ _))) (h := ?_);(try simp only [pS]);refine wpAnyH_ready (rs:=[7]) (by kernel_rfl) (by simp) ?_;refine AllReadyH.cons (o:=FK) rfl (fun K hK => ?_) (AllReadyH.nil);unfold FK;rw [if_pos (by rfl)];refine wp_store_mid 77 _ _ rfl g4 0 (aw x y 1 t).toArray rfl rfl (ej hres _ _ _ _) (a7 _ _ _ _) (bJ _ _ _ _) ?_;have hSa1_3:=hSa1_2.trans (aT.setCells (b:=g4) (o:=0) (n:=16) wa1_2 (aw x y 1 t) (JW _) (by rw [kG];exact JW _));replace hres:=hres.stored (aw x y 1 t) (et _ _ _ _ _ _ _ _)
 obtain ⟨wa1_3,hwa1_3⟩:∃ W,wa1_2.setCells g4 0 (aw x y 1 t)=W:=⟨_,rfl⟩
 rw [hwa1_3] at hres;rw [hwa1_3] at hSa1_3;rw [show wa1_2.setCells g4 0 (aw x y 1 t).toArray.toList=wa1_3 from hwa1_3];refine hK.out _ _ hSa1_3 (fun h => ?_);clear h hK K hwa1_3;(try dsimp only [Act.put]);refine wpAnyH_done (by kernel_rfl) ?_ _;refine NoPanic.normal ?_;have fin:=(hbW.trans (hdrew.mono hbW.size)).trans (hSa1_3.below w4 (Nat.le_trans hbW.size hdrew.size));go_wp2;exact bodyPost_ret (ai Tryz.results92 _ _ g4 0 (aw x y 1 t) _ rfl hres.range Tryz.underlying77 rfl (bi _ _ _ _)) rfl ⟨rfl,fin⟩
theorem rQ (x y:Nat) (hx:x<pF) (hy:y<pF) (w:World):Calls Tryz.prog 92 #[ag x,ag y] w fun e w'=>e = .returned (pV x y 1 (av x y))∧Below w.heap.size w w' :=
 Fe x y (av x y) (fun W=>aI x y hx hy W) w
set_option maxRecDepth 20000 in
set_option maxHeartbeats 8000000 in
theorem BK (a b c d o1 o2 o3 o4:Nat)
 (k1:∀ W,Calls Tryz.prog 98 #[ag a,ag d] W fun e w'=>e = .returned (ag o1)∧Below W.heap.size W w')
 (k2:∀ W,Calls Tryz.prog 98 #[ag c,ag b] W fun e w'=>e = .returned (ag o2)∧Below W.heap.size W w')
 (k3:∀ W,Calls Tryz.prog 98 #[ag b,ag d] W fun e w'=>e = .returned (ag o3)∧Below W.heap.size W w')
 (k4:∀ W,Calls Tryz.prog 98 #[ag a,ag c] W fun e w'=>e = .returned (ag o4)∧Below W.heap.size W w')
 (w:World):Calls Tryz.prog 177 #[ag a,ag b,ag c,ag d] w fun e w'=>e = .returned (pV o1 o2 o3 o4)∧Below w.heap.size w w':=by
 have hzp:=eF
 obtain ⟨V1,g4,eg4,hg4,bg4,ha⟩:∃ V g,w.alloc (.cells (c4 a).toArray 75)=V∧w.heap.size=g∧Below w.heap.size w V∧RW V g 0 (c4 a):=⟨_,_,rfl,rfl,(Below.refl _ _).alloc (JW _) _,RW.fresh w _ _⟩
 obtain ⟨V2,g5,eg5,hg5,bg5,hb⟩:∃ V g,V1.alloc (.cells (c4 b).toArray 75)=V∧V1.heap.size=g∧Below V1.heap.size V1 V∧RW V g 0 (c4 b):=⟨_,_,rfl,rfl,(Below.refl _ _).alloc (JW _) _,RW.fresh V1 _ _⟩
 obtain ⟨V3,g6,eg6,hg6,bg6,hc⟩:∃ V g,V2.alloc (.cells (c4 c).toArray 75)=V∧V2.heap.size=g∧Below V2.heap.size V2 V∧RW V g 0 (c4 c):=⟨_,_,rfl,rfl,(Below.refl _ _).alloc (JW _) _,RW.fresh V2 _ _⟩
 obtain ⟨V4,g7,eg7,hg7,bg7,hd⟩:∃ V g,V3.alloc (.cells (c4 d).toArray 75)=V∧V3.heap.size=g∧Below V3.heap.size V3 V∧RW V g 0 (c4 d):=⟨_,_,rfl,rfl,(Below.refl _ _).alloc (JW _) _,RW.fresh V3 _ _⟩
 obtain ⟨W,g8,e8,hg8,b8,hres⟩:=dM V4
 have t1:V1.heap.size=w.heap.size+1:=by rw [←eg4];simp
 have t2:V2.heap.size=V1.heap.size+1:=by rw [←eg5];simp
 have t3:V3.heap.size=V2.heap.size+1:=by rw [←eg6];simp
 have t4:V4.heap.size=V3.heap.size+1:=by rw [←eg7];simp
 have HW:Hid (W=((((w.alloc (.cells (c4 a).toArray 75)).alloc (.cells (c4 b).toArray 75)).alloc (.cells (c4 c).toArray 75)).alloc (.cells (c4 d).toArray 75)).alloc (.cells zP 77)):=Hid.mk' (by rw [←e8,←eg7,←eg6,←eg5,←eg4]);have q4:Hid (w.heap.size=g4):=Hid.mk' hg4;have q5:Hid (w.heap.size+1=g5):=Hid.mk' (by omega);have q6:Hid (w.heap.size+1+1=g6):=Hid.mk' (by omega);have q7:Hid (w.heap.size+1+1+1=g7):=Hid.mk' (by omega);have q8:Hid (w.heap.size+1+1+1+1=g8):=Hid.mk' (by omega);replace ha:=(((ha.still bg5).still bg6).still bg7).still b8;replace hb:=((hb.still bg6).still bg7).still b8;replace hc:=(hc.still bg7).still b8;replace hd:=hd.still b8;have hbW:Below w.heap.size w W:=(((bg4.trans (bg5.mono (by omega))).trans (bg6.mono (by omega))).trans (bg7.mono (by omega))).trans (b8.mono (by omega))
 have w8:w.heap.size≤g8:=by omega
 have n48:g4≠g8:=by omega
 have n58:g5≠g8:=by omega
 have n68:g6≠g8:=by omega
 have n78:g7≠g8:=by omega
 have l8:=hres.lt;clear eg4 eg5 eg6 eg7 e8 hg4 hg5 hg6 hg7 hg8 bg4 bg5 bg6 bg7 b8 t1 t2 t3 t4 V1 V2 V3 V4;rw [show ag a = .agg (c4 a).toArray from rfl,show ag b = .agg (c4 b).toArray from rfl,show ag c = .agg (c4 c).toArray from rfl,show ag d = .agg (c4 d).toArray from rfl];go_enter Tryz.func177,Tryz.ntmps177
 go_upto_region 1 with (fail)
 rw [←HW.out,q8.out,q7.out,q6.out,q5.out,q4.out];clear HW q4 q5 q6 q7 q8;have hdrew:Below W.heap.size W W.drew:=(Below.refl _ _).drew;replace ha:=ha.still hdrew;replace hb:=hb.still hdrew;replace hc:=hc.still hdrew;replace hd:=hd.still hdrew;replace hres:=hres.still hdrew;refine wp_region_noPanic ?_;replace l8:=JX l8 hdrew.size;refine wp_region_held_drew (S:=fun w'=>aT g8 0 16 W.drew w') (by kernel_rfl) (aT.refl _ _ _ _) (fun hS => ?_);generalize W.drew=Va2_ at *;refine tk 0 (ag a) hS (hy:=(gQ ha n48 75 4 Tryz.underlying75 aE)) (h := ?_);(try simp only [pS]);refine tk 1 (ag d) hS (hy:=(gQ hd n78 75 7 Tryz.underlying75 aE)) (h := ?_);(try simp only [pS]);refine tk 3 (ag c) hS (hy:=(gQ hc n68 75 6 Tryz.underlying75 aE)) (h := ?_);(try simp only [pS]);refine tk 4 (ag b) hS (hy:=(gQ hb n58 75 5 Tryz.underlying75 aE)) (h := ?_);(try simp only [pS]);refine tk 6 (ag b) hS (hy:=(gQ hb n58 75 5 Tryz.underlying75 aE)) (h := ?_);(try simp only [pS]);refine tk 7 (ag d) hS (hy:=(gQ hd n78 75 7 Tryz.underlying75 aE)) (h := ?_);(try simp only [pS]);refine tk 9 (ag a) hS (hy:=(gQ ha n48 75 4 Tryz.underlying75 aE)) (h := ?_);(try simp only [pS]);refine tk 10 (ag c) hS (hy:=(gQ hc n68 75 6 Tryz.underlying75 aE)) (h := ?_);(try simp only [pS]);refine cl 2 (k1 _) ?_;(clear k1;rintro e wa2_1 ⟨rfl,hba2_1⟩);have hSa2_1:=hS.trans (aT.of_below hba2_1 l8);replace l8:=JX l8 hba2_1.size;replace hres:=hres.still hba2_1;refine ⟨_,rfl,hSa2_1,?_⟩;clear hba2_1;(try simp only [pS]);refine cl 5 (k2 _) ?_;(clear k2;rintro e wa2_2 ⟨rfl,hba2_2⟩);have hSa2_2:=hSa2_1.trans (aT.of_below hba2_2 l8);replace l8:=JX l8 hba2_2.size;replace hres:=hres.still hba2_2;refine ⟨_,rfl,hSa2_2,?_⟩;clear hba2_2;(try simp only [pS]);refine cl 8 (k3 _) ?_;(clear k3;rintro e wa2_3 ⟨rfl,hba2_3⟩);have hSa2_3:=hSa2_2.trans (aT.of_below hba2_3 l8);replace l8:=JX l8 hba2_3.size;replace hres:=hres.still hba2_3;refine ⟨_,rfl,hSa2_3,?_⟩;clear hba2_3;(try simp only [pS]);refine cl 11 (k4 _) ?_;(clear k4;rintro e wa2_4 ⟨rfl,hba2_4⟩);have hSa2_4:=hSa2_3.trans (aT.of_below hba2_4 l8);replace l8:=JX l8 hba2_4.size;replace hres:=hres.still hba2_4;refine ⟨_,rfl,hSa2_4,?_⟩;clear hba2_4;(try simp only [pS]);refine tk 12 (pV o1 o2 o3 o4) hSa2_4 (hy:=(eR (by rfl) 77 _ _ _ _ rfl (ag o1) (ag o2) (ag o3) (ag o4) rfl rfl rfl rfl _ (yA _ _ _ _))) (h := ?_);(try simp only [pS]);refine wpAnyH_ready (rs:=[13]) (by kernel_rfl) (by simp) ?_;refine AllReadyH.cons (o:=Cr) rfl (fun K hK => ?_) (AllReadyH.nil);unfold Cr;rw [if_pos (by rfl)];refine wp_store_mid 77 _ _ rfl g8 0 (aw o1 o2 o3 o4).toArray rfl rfl (ej hres _ _ _ _) (a7 _ _ _ _) (bJ _ _ _ _) ?_;have hSa2_5:=hSa2_4.trans (aT.setCells (b:=g8) (o:=0) (n:=16) wa2_4 (aw o1 o2 o3 o4) (JW _) (by rw [kG];exact JW _));replace hres:=hres.stored (aw o1 o2 o3 o4) (et _ _ _ _ _ _ _ _)
 obtain ⟨wa2_5,hwa2_5⟩:∃ W,wa2_4.setCells g8 0 (aw o1 o2 o3 o4)=W:=⟨_,rfl⟩
 rw [hwa2_5] at hres;rw [hwa2_5] at hSa2_5;rw [show wa2_4.setCells g8 0 (aw o1 o2 o3 o4).toArray.toList=wa2_5 from hwa2_5];refine hK.out _ _ hSa2_5 (fun h => ?_);clear h hK K hwa2_5;(try dsimp only [Act.put]);refine wpAnyH_done (by kernel_rfl) ?_ _;refine NoPanic.normal ?_;have fin:=(hbW.trans (hdrew.mono hbW.size)).trans (hSa2_5.below w8 (Nat.le_trans hbW.size hdrew.size));go_wp2;exact bodyPost_ret (ai Tryz.results177 _ _ g8 0 (aw o1 o2 o3 o4) _ rfl hres.range Tryz.underlying77 rfl (bi _ _ _ _)) rfl ⟨rfl,fin⟩
theorem uu (a b c d:Nat) (ha:a<pF) (hb:b<pF) (hc:c<pF) (hd:d<pF) (w:World):Calls Tryz.prog 177 #[ag a,ag b,ag c,ag d] w fun e w'=>e = .returned (pV (av a d) (av c b) (av b d) (av a c))∧Below w.heap.size w w' :=
 BK a b c d _ _ _ _ (fun W=>aI a d ha hd W) (fun W=>aI c b hc hb W) (fun W=>aI b d hb hd W) (fun W=>aI a c ha hc W) w
end Go.Proofs.YtibdhadbflfdpaaGreatDoor
