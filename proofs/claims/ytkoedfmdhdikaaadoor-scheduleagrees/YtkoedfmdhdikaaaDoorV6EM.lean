/- What the proof stands on: V6E, V6N, V6F, V6K. -/
import Derived.Test.YtkoedfmdhdikaaaDoorD1RQM
import Derived.Test.YtkoedfmdhdikaaaDoorHExpandM
import Derived.Test.YtkoedfmdhdikaaaDoorL5AM
namespace Go.Proofs.YtkoedfmdhdikaaaDoor
open Go.RowKit
def lEpo:List Nat:=[101,112,111,99,104]
def seL (jn:Nat) (i:Nat):Nat:=if i<10 then 32 else jn
def seB (M S jb:Nat→Nat) (i:Nat):Nat→Nat:=if i<9 then exN 32 S (labS i) 0 lZ 32 else if i=9 then exN 32 M lWel 0 lZ 32 else jb
theorem seB_lt {M S jb:Nat→Nat} (h:∀ j,jb j<256) (i j:Nat):seB M S jb i j<256:=by
 unfold seB
 split
 · exact exN_lt _ _ _ _ _ _ _
 · split
   · exact exN_lt _ _ _ _ _ _ _
   · exact h j
abbrev z11:List Value:=[.slice none 0 0,.slice none 0 0,.slice none 0 0,.slice none 0 0,.slice none 0 0,.slice none 0 0,.slice none 0 0,.slice none 0 0,.slice none 0 0,.slice none 0 0,.slice none 0 0]
theorem z11_len:z11.length=11:=rfl
theorem z11_one:z11.toArray.all (·.oneCell')=true:=by kernel_rfl
structure SeAt (W:World) (g q jn:Nat) (M S jb:Nat→Nat) (cs:List Value):Prop where
 row:RW W g 0 cs
 len:cs.length=11
 low:∀ i v,i<q→cs[i]? = some v→BytesIn W v 32 (exN 32 S (labS i) 0 lZ 32)
 wel:∀ v,cs[9]? = some v→BytesIn W v 32 (exN 32 M lWel 0 lZ 32)
 joi:∀ v,cs[10]? = some v→BytesIn W v jn jb
 sls:∀ (i:Nat) (v:Value),cs[i]? = some v→∃ x n c,v = .slice x n c
theorem SeAt.still {W W':World} {g q jn:Nat} {M S jb:Nat→Nat} {cs:List Value} (h:SeAt W g q jn M S jb cs) (hb:Below W.heap.size W W'):SeAt W' g q jn M S jb cs :=
 ⟨h.row.still hb,h.len,fun i v hi hv=>(h.low i v hi hv).keep hb,fun v hv=>(h.wel v hv).keep hb,fun v hv=>(h.joi v hv).keep hb,h.sls⟩
theorem SeAt.cell {W:World} {g q jn:Nat} {M S jb:Nat→Nat} {cs:List Value} (h:SeAt W g q jn M S jb cs) (i:Nat) (hi:i<11):∃ u,W.cell? ⟨g,i,none⟩=some u∧(∀ z,u ≠ .int .u8 z):=by
 have hl:i<cs.length:=by rw [h.len];exact hi
 have hc:=h.row.range i _ (List.getElem?_eq_getElem hl)
 rw [Nat.zero_add] at hc
 obtain ⟨x,n,c,e⟩:=h.sls i _ (List.getElem?_eq_getElem hl)
 exact ⟨_,hc,fun z ez=>by rw [e] at ez;cases ez⟩
theorem BytesIn.isSl {W:World} {v:Value} {n:Nat} {b:Nat→Nat} (h:BytesIn W v n b):∃ x m c,v = .slice x m c:=by
 obtain ⟨x,c,rfl,-⟩:=h.src
 exact ⟨_,_,_,rfl⟩
theorem BytesIn.outV {w w':World} {v:Value} {n g m:Nat} {b:Nat→Nat} (h:BytesIn w v n b) (ho:Out g 0 m w w') (hno:∀ i,i<m→∃ u,w.cell? ⟨g,i,none⟩=some u∧∀ z,u ≠ .int .u8 z):BytesIn w' v n b:=by
 rcases h with h | ⟨bb,ob,cap,rfl,h1,h2,h3⟩
 · exact .inl h
 · refine .inr ⟨bb,ob,cap,rfl,Nat.lt_of_lt_of_le h1 ho.size,h2,fun j hj => ?_⟩
   by_cases e:bb=g
   · subst e
     rw [ho.cell (ob+j) (by
      by_cases e2:ob+j<m
      · obtain ⟨u,hu,hz⟩:=hno _ e2
        rw [h3 j hj] at hu
        injection hu with hu
        exact absurd hu.symm (hz _)
      · omega)]
     exact h3 j hj
   · rw [ho.cell' h1 e]
     exact h3 j hj
theorem sls_one {cs:List Value} (h:∀ (i:Nat) (v:Value),cs[i]? = some v→∃ x n c,v = .slice x n c):cs.toArray.all (·.oneCell')=true:=by
 simp only [List.all_toArray,List.all_eq_true]
 intro v hv
 obtain ⟨i,hi⟩:=List.getElem?_of_mem hv
 obtain ⟨x,n,c,rfl⟩:=h i v hi
 rfl
theorem infoSec {cs:List Value} (h:cs.length=11):(Tryd.prog.info? 43).map (·.size)=some cs.length:=by rw [h];kernel_rfl
theorem stSec {ops:Array Oper} {rest:List Oper} {op:Oper} {a:Act} {w:World} {Q:Exit→Act→World→Prop} (x y:Operand) (ho:op.op = .store 43 x y) {g:Nat} {cs ds:List Value} (hx:a.eval x = .pointer (some ⟨g,0,none⟩)) (hy:a.eval y = .agg ds.toArray) (r:RW w g 0 cs) (hl:cs.length=11) (hd:ds.length=11) (h1:ds.toArray.all (·.oneCell')=true)
 (h:wpList Tryd.prog ops Q rest (a.put op.dst undef) (w.setCells g 0 ds)) (hgd:op.guard=none):wpList Tryd.prog ops Q (op :: rest) a w :=
 wpList_store_mid hgd 43 x y ho g 0 ds.toArray hx hy (by rw [List.size_toArray,hd,←hl];exact r.there) (by rw [List.size_toArray];exact infoSec hd) h1 h
theorem ldSec {ops:Array Oper} {rest:List Oper} {op:Oper} {a:Act} {w:World} {Q:Exit→Act→World→Prop} (x:Operand) (ho:op.op = .load 43 x) {g:Nat} {cs:List Value} (hx:a.eval x = .pointer (some ⟨g,0,none⟩)) (r:RW w g 0 cs) (hl:cs.length=11)
 (h:wpList Tryd.prog ops Q rest (a.put op.dst (.agg cs.toArray)) w) (hgd:op.guard=none):wpList Tryd.prog ops Q (op :: rest) a w :=
 wpList_load_mid hgd 43 x ho g 0 hx cs _ r.range Tryd.underlying43 rfl (infoSec hl) h
theorem SeAt.put {W:World} {g q jn:Nat} {M S jb:Nat→Nat} {cs:List Value} (h:SeAt W g q jn M S jb cs) (hq:q<9) (v:Value) (hv:BytesIn W v 32 (exN 32 S (labS q) 0 lZ 32)):SeAt (W.setCell ⟨g,q,none⟩ v) g (q+1) jn M S jb (cs.set q v):=by
 obtain ⟨u,hc,hu⟩:=h.cell q (by omega)
 have hl:q<cs.length:=by rw [h.len];omega
 refine ⟨h.row.put q hl v,by rw [List.length_set];exact h.len,fun i x hi hx => ?_,fun x hx => ?_,fun x hx => ?_,fun i x hx => ?_⟩
 · by_cases e:i=q
   · subst e
     rw [List.getElem?_set_self hl] at hx
     cases hx
     exact hv.setV hc hu v
   · rw [List.getElem?_set_ne (Ne.symm e)] at hx
     exact (h.low i x (by omega) hx).setV hc hu v
 · rw [List.getElem?_set_ne (by omega)] at hx
   exact (h.wel x hx).setV hc hu v
 · rw [List.getElem?_set_ne (by omega)] at hx
   exact (h.joi x hx).setV hc hu v
 · by_cases e:i=q
   · subst e
     rw [List.getElem?_set_self hl] at hx
     cases hx
     exact hv.isSl
   · rw [List.getElem?_set_ne (Ne.symm e)] at hx
     exact h.sls i x hx
theorem SeAt.row11 {W:World} {g jn:Nat} {M S jb:Nat→Nat} {cs:List Value} (h:SeAt W g 9 jn M S jb cs):TxRow W cs 11 (seL jn) (seB M S jb):=by
 refine ⟨h.len,fun i v hv => ?_⟩
 have hi:i<11:=by rw [←h.len];exact (List.getElem?_eq_some_iff.1 hv).1
 by_cases e:i<9
 · rw [show seL jn i=32 from if_pos (by omega),show seB M S jb i=exN 32 S (labS i) 0 lZ 32 from if_pos e]
   exact h.low i v e hv
 · by_cases e2:i=9
   · subst e2
     exact h.wel v hv
   · obtain rfl:i=10:=by omega
     exact h.joi v hv
theorem zSec (w:World):Sem.run Tryd.prog (zeroValue 43) w = .ok (.agg z11.toArray) w:=by kernel_rfl
theorem res_cT {P:Program} {fn:Func} {p q:Tmp} {ty:TypeId} (h:fn.results=#[.cell p ty,.tmp q]) (tmps:Array Value) (w:World) (g o:Nat) (cs:List Value) (d:TypeDesc)
 (hp:tmps.getD p undef = .pointer (some ⟨g,o,none⟩)) (hc:w.rangeAt g o cs)
 (hu:P.underlying ty=some d) (hd:d.isRow=true) (hi:(P.info? ty).map (·.size)=some cs.length) :
 (results fn tmps).run P w = .ok (.tuple #[.agg cs.toArray,tmps.getD q undef]) w:=by
 have hp':tmps[p]?.getD undef = .pointer (some ⟨g,o,none⟩):=by simpa using hp
 simp [results,h,hp',asAddr,run_loadVar_mid w g o ty cs d hc hu hd hi]
theorem infoCx (v0 v1 v2 v3:Value):(Tryd.prog.info? 40).map (·.size)=some [v0,v1,v2,v3].length:=by kernel_rfl
set_option maxRecDepth 20000 in
theorem epoch_bad (jv pv:Value) (jn pn:Nat) (jb pb:Nat→Nat) (hjb:∀ j,jb j<256) (hpb:∀ j,pb j<256) (hjn:jn<140737488355000) (hpn:pn<140737488355000) (cs:List Value) (d:CxD) (ok:cxOk d=false) (w:World) (hT:TabAt w) (hj:BytesIn w jv jn jb) (hp:BytesIn w pv pn pb) (hc:CxIn w cs d) :
 Calls Tryd.prog 12 #[jv,pv,.agg cs.toArray] w fun e w'=>e = .returned (.tuple #[.agg z11.toArray,.int .i64 1])∧Below w.heap.size w w':=by
 have hx:=fun (W:World) (hb:Below w.heap.size w W)=>cXt_any jv pv jn pn jb pb hjb hpb hjn hpn W (hT.still hb) (hj.keep hb) (hp.keep hb)
 have hk:=fun (W:World) (v:Value) (hb:Below w.heap.size w W)=>keyFor_bad { data:=#[101,112,111,99,104] } v cs d ok W (hc.keep hb)
 obtain ⟨X,hX⟩:∃ X,X=xtN jn jb pn pb:=⟨_,rfl⟩
 rw [←hX] at hx
 obtain ⟨v0,v1,v2,rfl,g0,g1,g2⟩:=hc
 obtain ⟨N,hN⟩:∃ N,N=d.e:=⟨_,rfl⟩
 rw [←hN] at hk ⊢
 clear hN g0 g1 g2 ok hX hT hj hp
 have b1:Below w.heap.size w (w.alloc (.cells #[v0,.int .i64 N,v1,v2] 40)):=(Below.refl _ _).alloc (Nat.le_refl _) _
 have b2:=b1.alloc b1.size (.cells z11.toArray 43)
 replace hx:=hx _ b2
 have k1:=RW.fresh w [v0,.int .i64 N,v1,v2] 40
 have k2:=k1.still ((Below.refl _ _).alloc (Nat.le_refl _) (.cells z11.toArray 43))
 have B2:=Hid.mk' b2
 have K2:=Hid.mk' k2
 have k9:=RW.fresh (w.alloc (.cells #[v0,.int .i64 N,v1,v2] 40)) z11 43
 rw [World.size_alloc] at k9
 have K9:=Hid.mk' k9
 clear b1 b2 k1 k2 k9
 go_enter Tryd.func12,Tryd.ntmps12
 go_wp2_with (first
  | rw [zSec]
  | (go_at_call 18;refine hx.mono ?_;clear hx;rintro e w3 ⟨x3,c3,rfl,B3,hb3⟩;have b3:=below_next B2.out hb3;have k3:=K2.out.still hb3)
  | (refine wpList_load_mid rfl 40 _ rfl w.heap.size 0 rfl _ _ k3.range Tryd.underlying40 rfl (infoCx _ _ _ _) ?_;clear k3)
  | (go_at_call 25;refine (hk w3 _ b3).mono ?_;clear hk;rintro e w4 ⟨rfl,hb4⟩;have k4:=(K9.out.still hb3).still hb4)
  | (refine stSec (.tmp 6) (.tmp 25) rfl (g:=w.heap.size+1) (cs:=z11) (ds:=z11) rfl rfl k4 z11_len z11_len z11_one ?_ rfl;have k5:=k4.stored z11 rfl;have b5:=below_setCells (Nat.le_succ _) z11 0 _ (below_next b3 hb4);clear k4))
 exact bodyPost_ret (res_cT Tryd.results12 _ _ (w.heap.size+1) 0 z11 _ rfl k5.range Tryd.underlying43 rfl (infoSec z11_len)) rfl ⟨rfl,b5⟩
set_option maxRecDepth 20000 in
set_option maxHeartbeats 4000000 in
theorem epoch_good (jv pv:Value) (jn pn:Nat) (jb pb:Nat→Nat) (hjb:∀ j,jb j<256) (hpb:∀ j,pb j<256) (hjn:jn<140737488355000) (hpn:pn<140737488355000) (cs:List Value) (d:CxD) (hB:cxB d) (ok:cxOk d=true) (w:World) (hT:TabAt w) (hj:BytesIn w jv jn jb) (hp:BytesIn w pv pn pb) (hc:CxIn w cs d) :
 Calls Tryd.prog 12 #[jv,pv,.agg cs.toArray] w fun e w'=>∃ L:List Value,e = .returned (.tuple #[.agg L.toArray,.int .i64 0])∧TxRow w' L 11 (seL jn) (seB (xtN jn jb pn pb) (exN 32 (xtN jn jb pn pb) lEpo (cxL d) (cxT d) 32) jb)∧Below w.heap.size w w':=by
 have hx:=fun (W:World) (hb:Below w.heap.size w W)=>cXt_any jv pv jn pn jb pb hjb hpb hjn hpn W (hT.still hb) (hj.keep hb) (hp.keep hb)
 have hk:=fun (W:World) (v:Value) (hb:Below w.heap.size w W) (hv:BytesIn W v 32 (xtN jn jb pn pb))=>keyFor_good lEpo (by decide) (by decide) v 32 (xtN jn jb pn pb) (xtN_lt _ _ _ _) (by decide) cs d hB ok W (hT.still hb) hv (hc.keep hb)
 replace hk:∀ (W:World) (v:Value),Below w.heap.size w W→BytesIn W v 32 (xtN jn jb pn pb)→Calls Tryd.prog 25 #[v,.string { data:=#[101,112,111,99,104] },.agg cs.toArray] W _:=hk
 have hwl:=fun (W:World) (v:Value) (hb:Below w.heap.size w W) (hv:BytesIn W v 32 (xtN jn jb pn pb))=>welcomeOf_any v 32 (xtN jn jb pn pb) (xtN_lt _ _ _ _) (by decide) W (hT.still hb) hv
 obtain ⟨X,hX⟩:∃ X,X=xtN jn jb pn pb:=⟨_,rfl⟩
 obtain ⟨E,hE⟩:∃ E,E=exN 32 X lEpo (cxL d) (cxT d) 32:=⟨_,rfl⟩
 have hEl:∀ j,E j<256:=by rw [hE];exact exN_lt _ _ _ _ _ _
 rw [←hX] at hx hk hwl ⊢
 rw [←hE] at hk ⊢
 have hcl:=fun (W:World) (hb:Below w.heap.size w W)=>bClone_any jv jn jb hjn W (hj.keep hb)
 have hd:=fun (q:Nat) (W:World) (v:Value) (hb:Below w.heap.size w W) (hv:BytesIn W v 32 E)=>cDerive_good5 (labS q) (labS_lt q) (labS_len q) v 32 E hEl (by decide) W (hT.still hb).h hv
 obtain ⟨v0,v1,v2,rfl,g0,g1,g2⟩:=hc
 obtain ⟨N,hN⟩:∃ N,N=d.e:=⟨_,rfl⟩
 rw [←hN] at hk ⊢
 obtain ⟨xj,cj,rfl,-⟩:=hj.src
 obtain ⟨xp,cp,rfl,-⟩:=hp.src
 clear hN g0 g1 g2 ok hX hE hT hj hp hB hEl
 have b1:Below w.heap.size w (w.alloc (.cells #[v0,.int .i64 N,v1,v2] 40)):=(Below.refl _ _).alloc (Nat.le_refl _) _
 have b2:=b1.alloc b1.size (.cells z11.toArray 43)
 replace hx:=hx _ b2
 have k1:=RW.fresh w [v0,.int .i64 N,v1,v2] 40
 have k2:=k1.still ((Below.refl _ _).alloc (Nat.le_refl _) (.cells z11.toArray 43))
 have B2:=Hid.mk' b2
 have K2:=Hid.mk' k2
 have k9:=RW.fresh (w.alloc (.cells #[v0,.int .i64 N,v1,v2] 40)) z11 43
 rw [World.size_alloc] at k9
 have K9:=Hid.mk' k9
 clear b1 b2 k1 k2 k9
 go_enter Tryd.func12,Tryd.ntmps12
 go_upto_region 6 with (first
  | rw [zSec]
  | (go_at_call 18;refine hx.mono ?_;clear hx;rintro e w3 ⟨x3,c3,rfl,X3,hb3⟩;have b3:=below_next B2.out hb3;have k3:=K2.out.still hb3)
  | (refine wpList_load_mid rfl 40 _ rfl w.heap.size 0 rfl _ _ k3.range Tryd.underlying40 rfl (infoCx _ _ _ _) ?_;clear k3)
  | (go_at_call 25;refine (hk w3 _ b3 X3).mono ?_;clear hk;rintro e w4 ⟨x4,c4,rfl,E4,hb4⟩;(replace X3:=X3.keep hb4);have b4:=below_next b3 hb4;have z4:=(K9.out.still hb3).still hb4)
  | (go_at_call 26;refine (hwl w4 _ b4 X3).mono ?_;clear hwl;rintro e w5 ⟨x5,c5,rfl,W5,hb5⟩;(replace E4:=E4.keep hb5);have b5:=below_next b4 hb5)
  | (go_at_call 27;refine (hcl w5 b5).mono ?_;clear hcl;rintro e w6 ⟨v6,rfl,o6,hb6⟩;(obtain ⟨x6,c6,e6⟩:=o6.slice);subst e6;have b6:=below_next b5 hb6;(replace E4:=E4.keep hb6);(replace W5:=W5.keep hb6);have J6:=o6.bytesIn;have z6:=(z4.still hb5).still hb6;clear o6))
 have hsl:∀ (i:Nat) (v:Value),[.slice none 0 0,.slice none 0 0,.slice none 0 0,.slice none 0 0,.slice none 0 0,.slice none 0 0,.slice none 0 0,.slice none 0 0,.slice none 0 0,.slice x5 32 c5,.slice x6 jn c6][i]? = some v→∃ x n c,v = .slice x n c:=fun i v hv=>by
  have:=List.mem_of_getElem? hv
  simp only [List.mem_cons,List.not_mem_nil,or_false] at this
  rcases this with rfl | rfl | rfl | rfl | rfl | rfl | rfl | rfl | rfl | rfl | rfl <;> exact ⟨_,_,_,rfl⟩
 have r7:=RW.fresh w6 [.slice none 0 0,.slice none 0 0,.slice none 0 0,.slice none 0 0,.slice none 0 0,.slice none 0 0,.slice none 0 0,.slice none 0 0,.slice none 0 0,.slice x5 32 c5,.slice x6 jn c6] 43
 have hb7:Below w6.heap.size w6 (w6.alloc (.cells #[.slice none 0 0,.slice none 0 0,.slice none 0 0,.slice none 0 0,.slice none 0 0,.slice none 0 0,.slice none 0 0,.slice none 0 0,.slice none 0 0,.slice x5 32 c5,.slice x6 jn c6] 43)):=(Below.refl _ _).alloc (Nat.le_refl _) _
 have s7:SeAt (w6.alloc (.cells #[.slice none 0 0,.slice none 0 0,.slice none 0 0,.slice none 0 0,.slice none 0 0,.slice none 0 0,.slice none 0 0,.slice none 0 0,.slice none 0 0,.slice x5 32 c5,.slice x6 jn c6] 43)) w6.heap.size 0 jn X E jb [.slice none 0 0,.slice none 0 0,.slice none 0 0,.slice none 0 0,.slice none 0 0,.slice none 0 0,.slice none 0 0,.slice none 0 0,.slice none 0 0,.slice x5 32 c5,.slice x6 jn c6] :=
  ⟨r7,rfl,fun i v hi=>absurd hi (Nat.not_lt_zero _),fun v hv=>by cases hv;exact W5.keep hb7,fun v hv=>by cases hv;exact J6.keep hb7,hsl⟩
 have e7:=E4.keep hb7
 have z7:=z6.still hb7
 have b7:=below_next b6 hb7
 have lz:w.heap.size+1<w6.heap.size:=z6.lt
 have b6g:=b6.size
 clear hsl r7 W5 J6 E4 z6 z4 hb7 b6 b5 b4 b3 X3 hb3 hb4 hb5 hb6 B2 K2 K9
 generalize w6.alloc (.cells #[.slice none 0 0,.slice none 0 0,.slice none 0 0,.slice none 0 0,.slice none 0 0,.slice none 0 0,.slice none 0 0,.slice none 0 0,.slice none 0 0,.slice x5 32 c5,.slice x6 jn c6] 43)=w7 at *
 have S7:=Hid.mk' s7
 have G6:=Hid.mk' (And.intro lz b6g)
 obtain ⟨g,hg⟩:∃ g,g=w6.heap.size:=⟨_,rfl⟩
 rw [←hg] at S7 G6 ⊢
 clear s7 lz b6g hg
 go_wp2_with (go_at_call 28;refine (derivedOf_any g w7).mono ?_;rintro e w8 ⟨h,rfl,rh,lh,hb8⟩;have S8:=S7.out.still hb8;(replace e7:=e7.keep hb8);(replace z7:=z7.still hb8);(replace b7:=below_next b7 hb8))
 go_loopw [13,34] (fun _ i wr=>∃ (q:Nat) (cs:List Value),q≤9∧i = .int .i64 (q:Int)∧SeAt wr g q jn X E jb cs∧RW wr h 0 (dvR g)∧BytesIn wr (.slice x4 32 c4) 32 E∧RW wr (w.heap.size+1) 0 z11∧Below w.heap.size w wr) (fun _ i _=>9 - (intOf i).toNat)
 case atStart=>exact ⟨0,_,Nat.zero_le _,rfl,S8,rh,e7,z7,b7⟩
 case round =>
  obtain ⟨q,cs,hq,rfl,hS,hR,hE,hZ,hb⟩:=hrel
  by_cases hlt:q<9
  · have hqi:(0:Int)≤(q:Int)∧(q:Int)<9:=by omega
    have hq3:(q:Int)<9:=by omega
    obtain ⟨e0,e1⟩:=dvR_at g q hlt
    have r0:wr.cell? ⟨h,q*2,none⟩=some (.string (strL (labS q))):=by have:=hR.range _ _ e0;rw [Nat.zero_add,Nat.mul_comm] at this;exact this
    have r1:wr.cell? ⟨h,q*2+1,none⟩=some (.pointer (some ⟨g,q,none⟩)):=by have:=hR.range _ _ e1;rw [Nat.zero_add,Nat.mul_comm] at this;exact this
    have hdq:=hd q
    obtain ⟨Sq,hSq⟩:∃ S,S=strL (labS q):=⟨_,rfl⟩
    rw [←hSq] at r0 hdq
    clear hSq e0 e1 hd
    go_upto_region 9 with (fail)
    have hba:Below wr.heap.size wr (wr.alloc (.cells #[.string Sq,.pointer (some ⟨g,q,none⟩)] 65)):=(Below.refl _ _).alloc (Nat.le_refl _) _
    have kd:=RW.fresh wr [.string Sq,.pointer (some ⟨g,q,none⟩)] 65
    (replace hS:=hS.still hba);(replace hR:=hR.still hba);(replace hE:=hE.keep hba);(replace hZ:=hZ.still hba);(replace hb:=below_next hb hba)
    have wsz:wr.heap.size=wr.heap.size:=rfl
    obtain ⟨d,hdd⟩:∃ d,d=wr.heap.size:=⟨_,rfl⟩
    rw [←hdd] at kd ⊢
    clear hba r0 r1 wsz hdd
    generalize wr.alloc (.cells #[.string Sq,.pointer (some ⟨g,q,none⟩)] 65)=wa at *
    have bdr:Below wa.heap.size wa wa.drew:=(Below.refl _ _).drew
    (replace hS:=hS.still bdr);(replace hR:=hR.still bdr);(replace hE:=hE.keep bdr);(replace hZ:=hZ.still bdr);(replace hb:=below_next hb bdr);(replace kd:=kd.still bdr)
    clear bdr
    refine wp_last 7 (by rfl) (by rfl) (by kernel_rfl) (by kernel_rfl) (S:=fun u=>Below wa.drew.heap.size wa.drew u) (Below.refl _ _) (fun hH => ?_)
    generalize wa.drew=V at *
    have q0:∀ u,Below V.heap.size V u→u.cell? ⟨d,0,none⟩=some (.string Sq):=fun u hu=>by simpa using (kd.still hu).range 0 _ rfl
    have q1:∀ u,Below V.heap.size V u→u.cell? ⟨d,1,none⟩=some (.pointer (some ⟨g,q,none⟩)):=fun u hu=>by simpa using (kd.still hu).range 1 _ rfl
    clear kd
    refine tg 0 hH ?_
    (try simp only [pS])
    refine tc 1 hH (fun u hu=>q1 u hu) ?_
    (try simp only [pS])
    refine tg 2 hH ?_
    (try simp only [pS])
    refine tg 3 hH ?_
    (try simp only [pS])
    refine tc 4 hH (fun u hu=>q0 u hu) ?_
    (try simp only [pS])
    refine cn 5 (hdq V _ hb hE) ?_
    rintro e W9 ⟨v9,rfl,D9,hb9⟩
    obtain ⟨x9,c9,ev9,-⟩:=D9.src
    subst ev9
    refine ⟨_,rfl,hb9,?_⟩
    have q2:W9.cell? ⟨d,1,none⟩=some (.pointer (some ⟨g,q,none⟩)):=q1 W9 hb9
    (replace hS:=hS.still hb9);(replace hR:=hR.still hb9);(replace hE:=hE.keep hb9);(replace hZ:=hZ.still hb9);(replace hb:=below_next hb hb9)
    clear hdq q0 q1 hH
    (try simp only [pS])
    refine tg 6 (Below.refl _ _) ?_
    (try simp only [pS])
    refine wpAnyH_done (by kernel_rfl) ?_ _
    obtain ⟨u9,hc9,hu9⟩:=hS.cell q (by omega)
    have hf9:W9.frozen? ⟨g,q,none⟩=false:=by have:=(hS.row.there q (by rw [hS.len];omega)).2;rwa [Nat.zero_add] at this
    have HS:=Hid.mk' (hS.put hlt _ D9)
    have HR:=Hid.mk' (hR.far g q [.slice x9 32 c9] (.inl (Nat.ne_of_gt (Nat.lt_of_lt_of_le S7.out.row.lt lh))))
    have HE:=Hid.mk' (hE.setV hc9 hu9 (.slice x9 32 c9))
    have HZ:=Hid.mk' (hZ.far g q [.slice x9 32 c9] (.inl (Nat.ne_of_lt G6.out.1)))
    have HB:=Hid.mk' (hb.setCell (show w.heap.size≤(⟨g,q,none⟩:Addr).block from G6.out.2) (.slice x9 32 c9))
    clear hS hR hE hZ hb hb9 D9 q2 hu9
    refine lastRun 7 ?_
    refine NoPanic.normal ?_
    go_wp2
    go_roundw
    case rel=>exact ⟨q+1,_,hlt,by go_num,HS.out,HR.out,HE.out,HZ.out,HB.out⟩
    case measure=>simp [intOf];omega
  · obtain rfl:q=9:=by omega
    go_wp2_with (first
     | (refine ldSec (.tmp 11) rfl (g:=g) (cs:=cs) rfl hS.row hS.len ?_ rfl)
     | (refine stSec (.tmp 6) (.tmp 46) rfl (g:=w.heap.size+1) (cs:=z11) (ds:=cs) rfl rfl hZ z11_len hS.len (sls_one hS.sls) ?_ rfl))
    have T1:=hS.row11
    have ho:Out (w.heap.size+1) 0 11 wr (wr.setCells (w.heap.size+1) 0 cs):=Out.setCells wr cs (Nat.le_refl _) (by rw [hS.len];exact Nat.le_refl _)
    have hno:∀ i,i<11→∃ u,wr.cell? ⟨w.heap.size+1,i,none⟩=some u∧∀ z,u ≠ .int .u8 z:=fun i hi=>by
     have hl:i<z11.length:=hi
     have hc:=hZ.range i _ (List.getElem?_eq_getElem hl)
     rw [Nat.zero_add] at hc
     refine ⟨_,hc,fun z e => ?_⟩
     match i,hi with
     | 0,_=>cases e
     | 1,_=>cases e
     | 2,_=>cases e
     | 3,_=>cases e
     | 4,_=>cases e
     | 5,_=>cases e
     | 6,_=>cases e
     | 7,_=>cases e
     | 8,_=>cases e
     | 9,_=>cases e
     | 10,_=>cases e
    have kZ:=hZ.stored cs (by rw [hS.len];rfl)
    exact bodyPost_ret (res_cT Tryd.results12 _ _ (w.heap.size+1) 0 cs _ rfl kZ.range Tryd.underlying43 rfl (infoSec hS.len)) rfl ⟨cs,rfl,⟨T1.1,fun i v hv=>(T1.2 i v hv).outV ho hno⟩,below_setCells (Nat.le_succ _) cs 0 _ hb⟩
end Go.Proofs.YtkoedfmdhdikaaaDoor
namespace Go.Proofs.YtkoedfmdhdikaaaDoor
open Go.RowKit
theorem keyB_like {A B:Nat→Nat} (h:∀ j,j<32→A j=B j):keyB 32 A=keyB 32 B:=by
 funext j
 unfold keyB
 rw [if_pos (show 32≤64 by decide),if_pos (show 32≤64 by decide)]
 by_cases e:j<32
 · rw [if_pos e,if_pos e,h j e]
 · rw [if_neg e,if_neg e]
theorem ex_litV {ks bs:Nat→Nat} {l:List Nat} {n m:Nat} {K T I O:List Nat} (hk:∀ j,j<32→ks j=litB K j) (hm:exL l n+1=m) (hq:((List.range m).all fun j=>cat 0 (fun _=>0) (cat (exL l n) (exT l n bs 32) (fun _=>1)) j == litB T j)=true) (h1:((List.range 32).all fun j=>padH (keyB 32 (litB K)) 54 m (litB T) j == litB I j)=true) (h2:((List.range 32).all fun j=>padH (keyB 32 (litB K)) 92 32 (litB I) j == litB O j)=true) (j:Nat) (hj:j<32):exN 32 ks l n bs 32 j=litB O j:=by
 subst hm
 unfold exN outF
 rw [if_pos hj,Nat.div_eq_of_lt hj,Nat.mod_eq_of_lt hj,keyB_like hk]
 have e:0+exL l n+1=exL l n+1:=by omega
 show tagH (keyB 32 (litB K)) (0+exL l n+1) (cat 0 (fun _=>0) (cat (exL l n) (exT l n bs 32) (fun _=>1))) j=_
 rw [e]
 exact tag_lit5 (fun q hq'=>all_at5 hq q hq') h1 h2 j hj
def d0C:CxD:=⟨0,lZ,0,0,lZ,0,lZ⟩
def i6m:List Nat:=[211,102,185,155,77,102,30,19,48,79,191,249,235,225,7,150,103,248,194,3,110,134,4,170,223,104,76,231,26,88,248,154]
def o6m:List Nat:=[51,173,10,28,96,126,192,59,9,230,205,152,147,104,12,226,16,173,243,0,170,31,38,96,225,178,46,16,241,112,249,42]
set_option maxRecDepth 20000 in
theorem p6m:((List.range 32).all fun j=>padH (keyB 32 lZ) 54 32 lZ j == litB i6m j)=true:=by kernel_rfl
set_option maxRecDepth 20000 in
theorem s6m:((List.range 32).all fun j=>padH (keyB 32 lZ) 92 32 (litB i6m) j == litB o6m j)=true:=by kernel_rfl
theorem x6m (j:Nat) (hj:j<32):xtN 32 lZ 32 lZ j=litB o6m j:=tag_lit5 (t':=lZ) (fun _ _=>rfl) p6m s6m j hj
def t6e:List Nat:=[0,32,13,77,76,83,32,49,46,48,32,101,112,111,99,104,16,0,1,0,1,0,0,0,0,0,0,0,0,0,0,0,0,1]
def i6e:List Nat:=[227,19,139,43,187,135,136,107,166,55,70,230,100,191,187,67,17,35,45,247,228,239,170,210,53,189,241,26,17,66,62,7]
def o6e:List Nat:=[178,211,221,236,68,20,75,212,140,97,22,236,82,85,12,185,162,239,229,77,214,215,131,176,105,59,108,106,29,4,143,15]
set_option maxRecDepth 20000 in
theorem q6e:((List.range 34).all fun j=>cat 0 (fun _=>0) (cat (exL lEpo (cxL d0C)) (exT lEpo (cxL d0C) (cxT d0C) 32) (fun _=>1)) j == litB t6e j)=true:=by kernel_rfl
set_option maxRecDepth 20000 in
theorem p6e:((List.range 32).all fun j=>padH (keyB 32 (litB o6m)) 54 34 (litB t6e) j == litB i6e j)=true:=by kernel_rfl
set_option maxRecDepth 20000 in
theorem s6e:((List.range 32).all fun j=>padH (keyB 32 (litB o6m)) 92 32 (litB i6e) j == litB o6e j)=true:=by kernel_rfl
theorem x6e (j:Nat) (hj:j<32):exN 32 (xtN 32 lZ 32 lZ) lEpo (cxL d0C) (cxT d0C) 32 j=litB o6e j:=ex_litV x6m (by kernel_rfl) q6e p6e s6e j hj
def t6i:List Nat:=[0,32,12,77,76,83,32,49,46,48,32,105,110,105,116,0,1]
def i6i:List Nat:=[216,24,4,181,3,30,115,51,231,226,14,165,81,43,182,237,227,39,30,226,218,135,5,120,158,36,169,192,143,45,41,204]
def o6i:List Nat:=[155,250,6,176,177,224,245,209,85,68,19,110,54,27,207,80,72,21,18,250,70,221,137,87,125,39,143,12,243,32,79,188]
set_option maxRecDepth 20000 in
theorem q6i:((List.range 17).all fun j=>cat 0 (fun _=>0) (cat (exL (labS 8) 0) (exT (labS 8) 0 lZ 32) (fun _=>1)) j == litB t6i j)=true:=by kernel_rfl
set_option maxRecDepth 20000 in
theorem p6i:((List.range 32).all fun j=>padH (keyB 32 (litB o6e)) 54 17 (litB t6i) j == litB i6i j)=true:=by kernel_rfl
set_option maxRecDepth 20000 in
theorem s6i:((List.range 32).all fun j=>padH (keyB 32 (litB o6e)) 92 32 (litB i6i) j == litB o6i j)=true:=by kernel_rfl
theorem x6i (j:Nat) (hj:j<32):exN 32 (exN 32 (xtN 32 lZ 32 lZ) lEpo (cxL d0C) (cxT d0C) 32) (labS 8) 0 lZ 32 j=litB o6i j:=ex_litV x6e (by kernel_rfl) q6i p6i s6i j hj
def t6c:List Nat:=[0,32,15,77,76,83,32,49,46,48,32,99,111,110,102,105,114,109,0,1]
def i6c:List Nat:=[232,30,14,71,14,161,242,117,14,162,187,240,177,89,81,221,180,254,247,13,146,184,133,194,115,61,164,36,222,46,126,150]
def o6c:List Nat:=[50,57,60,18,10,255,165,105,138,100,128,2,91,41,137,189,235,152,48,171,209,184,51,154,61,43,170,64,124,45,88,90]
set_option maxRecDepth 20000 in
theorem q6c:((List.range 20).all fun j=>cat 0 (fun _=>0) (cat (exL (labS 4) 0) (exT (labS 4) 0 lZ 32) (fun _=>1)) j == litB t6c j)=true:=by kernel_rfl
set_option maxRecDepth 20000 in
theorem p6c:((List.range 32).all fun j=>padH (keyB 32 (litB o6e)) 54 20 (litB t6c) j == litB i6c j)=true:=by kernel_rfl
set_option maxRecDepth 20000 in
theorem s6c:((List.range 32).all fun j=>padH (keyB 32 (litB o6e)) 92 32 (litB i6c) j == litB o6c j)=true:=by kernel_rfl
theorem x6c (j:Nat) (hj:j<32):exN 32 (exN 32 (xtN 32 lZ 32 lZ) lEpo (cxL d0C) (cxT d0C) 32) (labS 4) 0 lZ 32 j=litB o6c j:=ex_litV x6e (by kernel_rfl) q6c p6c s6c j hj
theorem ic_ne:exN 32 (exN 32 (xtN 32 lZ 32 lZ) lEpo (cxL d0C) (cxT d0C) 32) (labS 8) 0 lZ 32 0≠exN 32 (exN 32 (xtN 32 lZ 32 lZ) lEpo (cxL d0C) (cxT d0C) 32) (labS 4) 0 lZ 32 0:=by
 rw [x6i 0 (by decide),x6c 0 (by decide)]
 decide
end Go.Proofs.YtkoedfmdhdikaaaDoor
namespace Go.Proofs.YtkoedfmdhdikaaaDoor
open Go.RowKit
theorem tagS_any (cs:List Value) (N:Nat→Nat) (B:Nat→Nat→Nat) (lB:∀ i j,B i j<256) (v:Value) (m:Nat) (b:Nat→Nat) (lb:∀ j,b j<256) (hN:N 4<140737488355000) (hm:m<140737488355000) (w:World) (hT:TabAt w) (hs:TxRow w cs 11 N B) (hv:BytesIn w v m b) :
 Calls Tryd.prog 24 #[.agg cs.toArray,v] w fun e w'=>∃ x c,e = .returned (.slice x 32 c)∧BytesIn w' (.slice x 32 c) 32 (xtN (N 4) (B 4) m b)∧Below w.heap.size w w':=by
 obtain ⟨hl,hcs⟩:=hs
 obtain ⟨v0,v1,v2,v3,v4,v5,v6,v7,v8,v9,v10,rfl⟩:∃ v0 v1 v2 v3 v4 v5 v6 v7 v8 v9 v10,cs=[v0,v1,v2,v3,v4,v5,v6,v7,v8,v9,v10]:=by
  match cs,hl with
  | [v0,v1,v2,v3,v4,v5,v6,v7,v8,v9,v10],_=>exact ⟨_,_,_,_,_,_,_,_,_,_,_,rfl⟩
 have h4:=hcs 4 v4 rfl
 have b1:Below w.heap.size w (w.alloc (.cells #[v0,v1,v2,v3,v4,v5,v6,v7,v8,v9,v10] 43)):=(Below.refl _ _).alloc (Nat.le_refl _) _
 have hh:=cHm_any v4 v (N 4) m (B 4) b (lB 4) lb hN hm _ (hT.still b1) (h4.keep b1) (hv.keep b1)
 obtain ⟨E,hE⟩:∃ E,E=xtN (N 4) (B 4) m b:=⟨_,rfl⟩
 rw [←hE] at hh ⊢
 have B1:=Hid.mk' b1
 have h1:=hv.isSl
 clear hE b1 hcs hl h4 hv
 obtain ⟨xv,nv,cv,rfl⟩:=h1
 go_enter Tryd.func24,Tryd.ntmps24
 go_wp2_with (go_at_call 35;refine hh.mono ?_;clear hh;rintro e w3 ⟨x3,c3,rfl,B3,hb3⟩)
 go_ret
 exact ⟨_,_,rfl,B3,below_next B1.out hb3⟩
def lJoi:List Nat:=[106,111,105,110,101,114]
set_option maxRecDepth 20000 in
theorem joiner_good (u v:Value) (n m:Nat) (a b:Nat→Nat) (la:∀ j,a j<256) (lb:∀ j,b j<256) (hn:n<140737488355000) (hm:m<140737488355000) (cs:List Value) (d:CxD) (hB:cxB d) (ok:cxOk d=true) (w:World) (hT:TabAt w) (hu:BytesIn w u n a) (hv:BytesIn w v m b) (hc:CxIn w cs d) :
 Calls Tryd.prog 10 #[u,v,.agg cs.toArray] w fun e w'=>∃ x c,e = .returned (.tuple #[.slice x 32 c,.int .i64 0])∧BytesIn w' (.slice x 32 c) 32 (exN 32 (xtN n a m b) lJoi (cxL d) (cxT d) 32)∧Below w.heap.size w w':=by
 have h1:=fun (W:World) (hb:Below w.heap.size w W)=>cXt_any u v n m a b la lb hn hm W (hT.still hb) (hu.keep hb) (hv.keep hb)
 have hk:=fun (W:World) (x:Value) (hb:Below w.heap.size w W) (hx:BytesIn W x 32 (xtN n a m b))=>keyFor_good lJoi (by decide) (by decide) x 32 (xtN n a m b) (xtN_lt _ _ _ _) (by decide) cs d hB ok W (hT.still hb) hx (hc.keep hb)
 replace hk:∀ (W:World) (x:Value),Below w.heap.size w W→BytesIn W x 32 (xtN n a m b)→Calls Tryd.prog 25 #[x,.string { data:=#[106,111,105,110,101,114] },.agg cs.toArray] W _:=hk
 obtain ⟨X,hX⟩:∃ X,X=xtN n a m b:=⟨_,rfl⟩
 obtain ⟨E,hE⟩:∃ E,E=exN 32 X lJoi (cxL d) (cxT d) 32:=⟨_,rfl⟩
 rw [←hX] at h1 hk ⊢
 rw [←hE] at hk ⊢
 obtain ⟨v0,v1,v2,rfl,g0,g1,g2⟩:=hc
 obtain ⟨N,hN⟩:∃ N,N=d.e:=⟨_,rfl⟩
 rw [←hN] at hk ⊢
 obtain ⟨x0,c0,rfl,-⟩:=hu.src
 obtain ⟨x1,c1,rfl,-⟩:=hv.src
 clear hN g0 g1 g2 ok hX hE hT hu hv hB
 have b1:Below w.heap.size w (w.alloc (.cells #[v0,.int .i64 N,v1,v2] 40)):=(Below.refl _ _).alloc (Nat.le_refl _) _
 have k1:=RW.fresh w [v0,.int .i64 N,v1,v2] 40
 go_enter Tryd.func10,Tryd.ntmps10
 go_upto_region 1 with (fail)
 generalize w.alloc (.cells #[v0,.int .i64 N,v1,v2] 40)=W0 at *
 have hd:Below W0.heap.size W0 W0.drew:=(Below.refl _ _).drew
 replace b1:=below_next b1 hd
 replace k1:=k1.still hd
 clear hd
 refine wp_region_noPanic ?_
 refine wp_region_held_drew (S:=fun u=>Below W0.drew.heap.size W0.drew u) (by kernel_rfl) (Below.refl _ _) (fun hS => ?_)
 generalize W0.drew=V at *
 refine tg 0 hS ?_
 (try simp only [pS])
 refine tg 1 hS ?_
 (try simp only [pS])
 refine tl 3 k1 hS 40 Tryd.underlying40 (infoCx _ _ _ _) ?_
 (try simp only [pS])
 refine cn 2 (h1 V b1) ?_
 rintro e w2 ⟨x2,c2,rfl,X2,hb2⟩
 refine ⟨_,rfl,hb2,?_⟩
 replace b1:=below_next b1 hb2
 clear k1 h1 hS hb2
 (try simp only [pS])
 refine cn 4 (hk w2 _ b1 X2) ?_
 rintro e w3 ⟨x3,c3,rfl,E3,hb3⟩
 refine ⟨_,rfl,hb3,?_⟩
 replace b1:=below_next b1 hb3
 clear hk hb3
 (try simp only [pS])
 refine tg 5 (Below.refl _ _) ?_
 (try simp only [pS])
 refine tg 6 (Below.refl _ _) ?_
 (try simp only [pS])
 refine tg 7 (Below.refl _ _) ?_
 (try simp only [pS])
 refine tg 8 (Below.refl _ _) ?_
 (try simp only [pS])
 refine wpAnyH_done (by kernel_rfl) ?_ _
 refine NoPanic.normal ?_
 go_wp2
 go_ret2
 exact ⟨_,_,rfl,E3,b1⟩
set_option maxRecDepth 20000 in
theorem joiner_bad (u v:Value) (n m:Nat) (a b:Nat→Nat) (la:∀ j,a j<256) (lb:∀ j,b j<256) (hn:n<140737488355000) (hm:m<140737488355000) (cs:List Value) (d:CxD) (ok:cxOk d=false) (w:World) (hT:TabAt w) (hu:BytesIn w u n a) (hv:BytesIn w v m b) (hc:CxIn w cs d) :
 Calls Tryd.prog 10 #[u,v,.agg cs.toArray] w fun e w'=>e = .returned (.tuple #[.slice none 0 0,.int .i64 1])∧Below w.heap.size w w':=by
 have h1:=fun (W:World) (hb:Below w.heap.size w W)=>cXt_any u v n m a b la lb hn hm W (hT.still hb) (hu.keep hb) (hv.keep hb)
 have hk:=fun (W:World) (x:Value) (hb:Below w.heap.size w W)=>keyFor_bad { data:=#[106,111,105,110,101,114] } x cs d ok W (hc.keep hb)
 obtain ⟨X,hX⟩:∃ X,X=xtN n a m b:=⟨_,rfl⟩
 rw [←hX] at h1
 obtain ⟨v0,v1,v2,rfl,g0,g1,g2⟩:=hc
 obtain ⟨N,hN⟩:∃ N,N=d.e:=⟨_,rfl⟩
 rw [←hN] at hk ⊢
 obtain ⟨x0,c0,rfl,-⟩:=hu.src
 obtain ⟨x1,c1,rfl,-⟩:=hv.src
 clear hN g0 g1 g2 ok hX hT hu hv
 have b1:Below w.heap.size w (w.alloc (.cells #[v0,.int .i64 N,v1,v2] 40)):=(Below.refl _ _).alloc (Nat.le_refl _) _
 have k1:=RW.fresh w [v0,.int .i64 N,v1,v2] 40
 go_enter Tryd.func10,Tryd.ntmps10
 go_upto_region 1 with (fail)
 generalize w.alloc (.cells #[v0,.int .i64 N,v1,v2] 40)=W0 at *
 have hd:Below W0.heap.size W0 W0.drew:=(Below.refl _ _).drew
 replace b1:=below_next b1 hd
 replace k1:=k1.still hd
 clear hd
 refine wp_region_noPanic ?_
 refine wp_region_held_drew (S:=fun u=>Below W0.drew.heap.size W0.drew u) (by kernel_rfl) (Below.refl _ _) (fun hS => ?_)
 generalize W0.drew=V at *
 refine tg 0 hS ?_
 (try simp only [pS])
 refine tg 1 hS ?_
 (try simp only [pS])
 refine tl 3 k1 hS 40 Tryd.underlying40 (infoCx _ _ _ _) ?_
 (try simp only [pS])
 refine cn 2 (h1 V b1) ?_
 rintro e w2 ⟨x2,c2,rfl,X2,hb2⟩
 refine ⟨_,rfl,hb2,?_⟩
 replace b1:=below_next b1 hb2
 clear k1 h1 hS hb2
 (try simp only [pS])
 refine cn 4 (hk w2 (.slice x2 32 c2) b1) ?_
 rintro e w3 ⟨rfl,hb3⟩
 refine ⟨_,rfl,hb3,?_⟩
 replace b1:=below_next b1 hb3
 clear hk hb3
 (try simp only [pS])
 refine tg 5 (Below.refl _ _) ?_
 (try simp only [pS])
 refine tg 6 (Below.refl _ _) ?_
 (try simp only [pS])
 refine tg 7 (Below.refl _ _) ?_
 (try simp only [pS])
 refine tg 8 (Below.refl _ _) ?_
 (try simp only [pS])
 refine wpAnyH_done (by kernel_rfl) ?_ _
 refine NoPanic.normal ?_
 go_wp2
 go_ret2
 exact ⟨rfl,b1⟩
end Go.Proofs.YtkoedfmdhdikaaaDoor
namespace Go.Proofs.YtkoedfmdhdikaaaDoor
open Go.RowKit
theorem num16_any (n:Int) (w:World):Calls Tryd.prog 8 #[.int .i64 n] w fun e w'=>e = .returned (.int .i64 n)∧w'=w:=by
 go_enter Tryd.func8,Tryd.ntmps8
 go_wp2
 go_ret
 exact ⟨rfl,rfl⟩
abbrev fTl:Value := .func (.func 14) #[] #[]
theorem ixP_nil (w:World):Calls Tryd.prog 30 #[.slice none 0 0,fTl] w fun e w'=>e = .returned (.int .i64 (-1))∧w'=w:=by
 go_enter Tryd.func30,Tryd.ntmps30
 go_wp2
 go_loopw [5,8] (fun _ i wr=>i = .int .i64 0∧wr=w) (fun _ _ _=>0)
 case atStart=>exact ⟨rfl,rfl⟩
 case round =>
  obtain ⟨rfl,rfl⟩:=hrel
  go_wp2
  go_ret
  exact ⟨rfl,rfl⟩
theorem cfP_nil (w:World):Calls Tryd.prog 13 #[.slice none 0 0,fTl] w fun e w'=>e = .returned (.bool false)∧w'=w:=by
 have h:=ixP_nil w
 go_enter Tryd.func13,Tryd.ntmps13
 go_wp2_with (go_at_call 30;refine h.mono ?_;clear h;rintro e w1 ⟨rfl,rfl⟩)
 go_ret
 exact ⟨rfl,rfl⟩
theorem chP_nil (v f:Value) (w:World):Calls Tryd.prog 15 #[v,.slice none 0 0,f] w fun e w'=>e = .returned (.tuple #[v,.int .i64 0])∧w'=w:=by
 go_enter Tryd.func15,Tryd.ntmps15
 go_wp2
 go_loopw [0,8,9,10,13] (fun k _ _ _ i wr=>k=v∧i = .int .i64 0∧wr=w) (fun _ _ _ _ _ _=>0)
 case atStart=>exact ⟨rfl,rfl,rfl⟩
 case round =>
  obtain ⟨rfl,rfl,rfl⟩:=hrel
  go_wp2
  go_ret2
  exact ⟨rfl,rfl⟩
set_option maxRecDepth 20000 in
theorem psk_nil (w:World):Calls Tryd.prog 6 #[.slice none 0 0] w fun e w'=>∃ x c,e = .returned (.tuple #[.slice x 32 c,.int .i64 0])∧BytesIn w' (.slice x 32 c) 32 lZ∧Below w.heap.size w w':=by
 have b1:Below w.heap.size w (w.alloc (.cells #[.slice none 0 0] 23)):=(Below.refl _ _).alloc (Nat.le_refl _) _
 have k1:=RW.fresh w [.slice none 0 0] 23
 go_enter Tryd.func6,Tryd.ntmps6
 go_upto_region 3 with (go_at_call 13;refine (cfP_nil _).mono ?_;rintro e w1 ⟨rfl,hw⟩;obtain rfl:=hw.symm)
 generalize w.alloc (.cells #[.slice none 0 0] 23)=W at *
 have hd:Below W.heap.size W W.drew:=(Below.refl _ _).drew
 replace b1:=below_next b1 hd
 replace k1:=k1.still hd
 clear hd
 refine wp_region_noPanic ?_
 refine wp_region_held_drew (S:=fun u=>Below W.drew.heap.size W.drew u) (by kernel_rfl) (Below.refl _ _) (fun hS => ?_)
 generalize W.drew=V at *
 refine tc 1 hS (fun u hu=>by simpa using (k1.still hu).range 0 _ rfl) ?_
 (try simp only [pS])
 refine tg 2 hS ?_
 (try simp only [pS])
 refine wpAnyH_ready (rs:=[0]) (by kernel_rfl) (by simp) ?_
 have hm:=make_bytes V 32 32 rfl (by decide)
 have hba:Below V.heap.size V (V.alloc (.cells (zb 32) 5)):=(Below.refl _ _).alloc (Nat.le_refl _) _
 refine AllReadyH.cons (at_list (by rfl)) (fun K hK => ?_) AllReadyH.nil
 go_simp
 refine hK.out _ _ hba (fun _ => ?_)
 clear hK K hm
 (try simp only [pS])
 refine cl 3 (chP_nil (.slice (some ⟨V.heap.size,0,none⟩) 32 32) (.func (.func 16) #[] #[.pointer (some ⟨w.heap.size,0,none⟩)]) (V.alloc (.cells (zb 32) 5))) ?_
 rintro e w2 ⟨rfl,hw2⟩
 obtain rfl:=hw2.symm
 refine ⟨_,rfl,hba,?_⟩
 (try simp only [pS])
 refine tg 4 hba ?_
 (try simp only [pS])
 refine tg 5 hba ?_
 (try simp only [pS])
 refine tg 6 hba ?_
 (try simp only [pS])
 refine tg 7 hba ?_
 (try simp only [pS])
 refine wpAnyH_done (by kernel_rfl) ?_ _
 refine NoPanic.normal ?_
 go_wp2
 go_ret2
 exact ⟨_,_,rfl,(Own.made V.heap.size V 32 (by decide) (Nat.le_refl _)).bytesIn,below_next b1 hba⟩
end Go.Proofs.YtkoedfmdhdikaaaDoor
