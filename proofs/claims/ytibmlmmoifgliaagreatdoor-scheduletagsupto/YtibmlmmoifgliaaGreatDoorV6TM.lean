/- What the proof stands on: V6T, V6U, V6X. -/
import Derived.Test.YtibmlmmoifgliaaGreatDoorV6PM
namespace Go.Proofs.YtibmlmmoifgliaaGreatDoor
open Go.RowKit
structure SrAt (W:World) (g q:Nat) (N:Nat→Nat) (B:Nat→Nat→Nat) (cs:List Value):Prop where
 row:RW W g 0 cs
 len:cs.length=11
 low:∀ (i:Nat) (v:Value),i<q→cs[i]? = some v→BytesIn W v (N i) (B i)
 sls:∀ (i:Nat) (v:Value),cs[i]? = some v→∃ x n c,v = .slice x n c
theorem SrAt.still {W W':World} {g q:Nat} {N:Nat→Nat} {B:Nat→Nat→Nat} {cs:List Value} (h:SrAt W g q N B cs) (hb:Below W.heap.size W W'):SrAt W' g q N B cs :=
 ⟨h.row.still hb,h.len,fun i v hi hv=>(h.low i v hi hv).keep hb,h.sls⟩
theorem SrAt.cell {W:World} {g q:Nat} {N:Nat→Nat} {B:Nat→Nat→Nat} {cs:List Value} (h:SrAt W g q N B cs) (i:Nat) (hi:i<11):∃ u,W.cell? ⟨g,i,none⟩=some u∧W.frozen? ⟨g,i,none⟩=false∧(∀ z,u ≠ .int .u8 z):=by
 have hl:i<cs.length:=by rw [h.len];exact hi
 have hc:=h.row.range i _ (List.getElem?_eq_getElem hl)
 have hf:=(h.row.there i hl).2
 rw [Nat.zero_add] at hc hf
 obtain ⟨x,n,c,e⟩:=h.sls i _ (List.getElem?_eq_getElem hl)
 exact ⟨_,hc,hf,fun z ez=>by rw [e] at ez;cases ez⟩
theorem SrAt.put {W:World} {g q:Nat} {N:Nat→Nat} {B:Nat→Nat→Nat} {cs:List Value} (h:SrAt W g q N B cs) (hq:q<11) (v:Value) (hv:BytesIn W v (N q) (B q)):SrAt (W.setCell ⟨g,q,none⟩ v) g (q+1) N B (cs.set q v):=by
 obtain ⟨u,hc,-,hu⟩:=h.cell q hq
 have hl:q<cs.length:=by rw [h.len];exact hq
 refine ⟨h.row.put q hl v,by rw [List.length_set];exact h.len,fun i x hi hx => ?_,fun i x hx => ?_⟩
 · by_cases e:i=q
   · subst e
     rw [List.getElem?_set_self hl] at hx
     cases hx
     exact hv.setV hc hu v
   · rw [List.getElem?_set_ne (Ne.symm e)] at hx
     exact (h.low i x (by omega) hx).setV hc hu v
 · by_cases e:i=q
   · subst e
     rw [List.getElem?_set_self hl] at hx
     cases hx
     exact hv.isSl
   · rw [List.getElem?_set_ne (Ne.symm e)] at hx
     exact h.sls i x hx
structure SrS (w W:World) (g q:Nat) (N:Nat→Nat) (B:Nat→Nat→Nat) (m s:Value) (M S:Nat→Nat) (cs:List Value):Prop where
 sr:SrAt W g q N B cs
 hm:BytesIn W m 32 M
 hs:BytesIn W s 32 S
 kz:RW W (w.heap.size+1) 0 z11
 hb:Below w.heap.size w W
 gt:w.heap.size+1<g
theorem SrS.turn {w W W':World} {g q:Nat} {N:Nat→Nat} {B:Nat→Nat→Nat} {m s:Value} {M S:Nat→Nat} {cs:List Value} (h:SrS w W g q N B m s M S cs) (hb:Below W.heap.size W W'):SrS w W' g q N B m s M S cs :=
 ⟨h.sr.still hb,h.hm.keep hb,h.hs.keep hb,h.kz.still hb,below_next h.hb hb,h.gt⟩
theorem SrS.put {w W:World} {g q:Nat} {N:Nat→Nat} {B:Nat→Nat→Nat} {m s:Value} {M S:Nat→Nat} {cs:List Value} (h:SrS w W g q N B m s M S cs) (hq:q<11) (v:Value) (hv:BytesIn W v (N q) (B q)):SrS w (W.setCell ⟨g,q,none⟩ v) g (q+1) N B m s M S (cs.set q v):=by
 obtain ⟨u,hc,-,hu⟩:=h.sr.cell q hq
 exact ⟨h.sr.put hq v hv,h.hm.setV hc hu v,h.hs.setV hc hu v,h.kz.far g q [v] (.inl (Nat.ne_of_lt h.gt)),h.hb.setCell (show w.heap.size≤(⟨g,q,none⟩:Addr).block from Nat.le_of_lt (Nat.lt_of_succ_lt h.gt)) v,h.gt⟩
theorem fin11 {w W:World} {g:Nat} {N:Nat→Nat} {B:Nat→Nat→Nat} {m s:Value} {M S:Nat→Nat} {cs:List Value} (h:SrS w W g 11 N B m s M S cs):TxRow (W.setCells (w.heap.size+1) 0 cs) cs 11 N B∧Below w.heap.size w (W.setCells (w.heap.size+1) 0 cs)∧(W.setCells (w.heap.size+1) 0 cs).rangeAt (w.heap.size+1) 0 cs:=by
 have ho:Out (w.heap.size+1) 0 11 W (W.setCells (w.heap.size+1) 0 cs):=Out.setCells W cs (Nat.le_refl _) (by rw [h.sr.len];exact Nat.le_refl _)
 have hno:∀ i,i<11→∃ u,W.cell? ⟨w.heap.size+1,i,none⟩=some u∧∀ z,u ≠ .int .u8 z:=fun i hi=>by
  have hl:i<z11.length:=hi
  have hc:=h.kz.range i _ (List.getElem?_eq_getElem hl)
  rw [Nat.zero_add] at hc
  refine ⟨_,hc,fun z e => ?_⟩
  have hm:=List.getElem_mem hl
  rw [e] at hm
  simp [z11] at hm
 refine ⟨⟨h.sr.len,fun i v hv=>((h.sr.low i v ?_ hv).outV ho hno)⟩,below_setCells (Nat.le_succ _) cs 0 _ h.hb,(h.kz.stored cs (by rw [h.sr.len];rfl)).range⟩
 rw [←h.sr.len]
 exact (List.getElem?_eq_some_iff.1 hv).1
theorem zSecR (w:World):Sem.run Tryz.prog (zeroValue 48) w = .ok (.agg z11.toArray) w:=by kernel_rfl
theorem infoSecR {cs:List Value} (h:cs.length=11):(Tryz.prog.info? 48).map (·.size)=some cs.length:=by rw [h];kernel_rfl
theorem stSecR {ops:Array Oper} {rest:List Oper} {op:Oper} {a:Act} {w:World} {Q:Exit→Act→World→Prop} (x y:Operand) (ho:op.op = .store 48 x y) {g:Nat} {cs ds:List Value} (hx:a.eval x = .pointer (some ⟨g,0,none⟩)) (hy:a.eval y = .agg ds.toArray) (r:RW w g 0 cs) (hl:cs.length=11) (hd:ds.length=11) (h1:ds.toArray.all (·.oneCell')=true)
 (h:wpList Tryz.prog ops Q rest (a.put op.dst undef) (w.setCells g 0 ds)) (hgd:op.guard=none):wpList Tryz.prog ops Q (op :: rest) a w :=
 wpList_store_mid hgd 48 x y ho g 0 ds.toArray hx hy (by rw [List.size_toArray,hd,←hl];exact r.there) (by rw [List.size_toArray];exact infoSecR hd) h1 h
theorem ldSecR {ops:Array Oper} {rest:List Oper} {op:Oper} {a:Act} {w:World} {Q:Exit→Act→World→Prop} (x:Operand) (ho:op.op = .load 48 x) {g:Nat} {cs:List Value} (hx:a.eval x = .pointer (some ⟨g,0,none⟩)) (r:RW w g 0 cs) (hl:cs.length=11)
 (h:wpList Tryz.prog ops Q rest (a.put op.dst (.agg cs.toArray)) w) (hgd:op.guard=none):wpList Tryz.prog ops Q (op :: rest) a w :=
 wpList_load_mid hgd 48 x ho g 0 hx cs _ r.range Tryz.underlying48 rfl (infoSecR hl) h
theorem z11_sls (i:Nat) (v:Value) (h:z11[i]? = some v):∃ x n c,v = .slice x n c:=by
 have:=List.mem_of_getElem? h
 simp only [z11,List.mem_cons,List.not_mem_nil,or_false,or_self] at this
 exact ⟨_,_,_,this⟩
set_option maxRecDepth 20000 in
theorem rEpoch_bad (jv pv:Value) (cs:List Value) (d:CxD) (ok:cxOk d=false) (w:World) (hc:CxIn w cs d) :
 Calls Tryz.prog 19 #[jv,pv,.agg cs.toArray] w fun e w'=>e = .returned (.tuple #[.agg z11.toArray,.int .i64 1])∧Below w.heap.size w w':=by
 have hr:=fun (W:World) (hb:Below w.heap.size w W)=>rRight_any cs d W (hc.keep hb)
 rw [ok] at hr
 obtain ⟨v0,v1,v2,rfl,g0,g1,g2⟩:=hc
 obtain ⟨N,hN⟩:∃ N,N=d.e:=⟨_,rfl⟩
 rw [←hN] at hr ⊢
 clear hN g0 g1 g2 ok
 have b1:Below w.heap.size w (w.alloc (.cells #[v0,.int .i64 N,v1,v2] 24)):=(Below.refl _ _).alloc (Nat.le_refl _) _
 have b2:=b1.alloc b1.size (.cells z11.toArray 48)
 replace hr:=hr _ b2
 have k1:=RW.fresh w [v0,.int .i64 N,v1,v2] 24
 have k2:=k1.still ((Below.refl _ _).alloc (Nat.le_refl _) (.cells z11.toArray 48))
 have B2:=Hid.mk' b2
 have K2:=Hid.mk' k2
 have k9:=RW.fresh (w.alloc (.cells #[v0,.int .i64 N,v1,v2] 24)) z11 48
 rw [World.size_alloc] at k9
 have K9:=Hid.mk' k9
 clear b1 b2 k1 k2 k9
 go_enter Tryz.func19,Tryz.ntmps19
 go_wp2_with (first
  | rw [zSecR]
  | (refine wpList_load_mid rfl 24 _ rfl w.heap.size 0 rfl _ _ K2.out.range Tryz.underlying24 rfl (infoRx _ _ _ _) ?_;clear K2)
  | (go_at_call 37;refine hr.mono ?_;clear hr;rintro e w3 ⟨rfl,hb3⟩;have k4:=K9.out.still hb3;have b3:=below_next B2.out hb3)
  | (refine stSecR (.tmp 6) (.tmp 15) rfl (g:=w.heap.size+1) (cs:=z11) (ds:=z11) rfl rfl k4 z11_len z11_len z11_one ?_ rfl;have k5:=k4.stored z11 rfl;have b5:=below_setCells (Nat.le_succ _) z11 0 _ b3;clear k4))
 exact bodyPost_ret (res_cT Tryz.results19 _ _ (w.heap.size+1) 0 z11 _ rfl k5.range Tryz.underlying48 rfl (infoSecR z11_len)) rfl ⟨rfl,b5⟩
set_option maxRecDepth 20000 in
set_option maxHeartbeats 8000000 in
theorem rEpoch_good (jv pv:Value) (jn pn:Nat) (jb pb:Nat→Nat) (hjb:∀ j,jb j<256) (hpb:∀ j,pb j<256) (hjn:jn<140737488354000) (hpn:pn<140737488354000) (cs:List Value) (d:CxD) (hB:cxB d) (ok:cxOk d=true) (w:World) (hj:BytesIn w jv jn jb) (hp:BytesIn w pv pn pb) (hc:CxIn w cs d) :
 Calls Tryz.prog 19 #[jv,pv,.agg cs.toArray] w fun e w'=>∃ L:List Value,e = .returned (.tuple #[.agg L.toArray,.int .i64 0])∧TxRow w' L 11 (seL jn) (seB (xtN jn jb pn pb) (exN 32 (xtN jn jb pn pb) lEpo (cxL d) (cxT d) 32) jb)∧Below w.heap.size w w':=by
 have hr:=fun (W:World) (hb:Below w.heap.size w W)=>rRight_any cs d W (hc.keep hb)
 have hx:=fun (W:World) (hb:Below w.heap.size w W)=>rXt_any jv pv jn pn jb pb hjb hpb hjn hpn W (hj.keep hb) (hp.keep hb)
 have hy:=fun (W:World) (hb:Below w.heap.size w W)=>rBytes16_any cs d hB ok W (hc.keep hb)
 have hk:=fun (W:World) (x y:Value) (hx:BytesIn W x 32 (xtN jn jb pn pb)) (hy:BytesIn W y (cxL d) (cxT d))=>rExpand_good5 lEpo (by decide) (by decide) x y 32 (cxL d) (xtN jn jb pn pb) (cxT d) (xtN_lt _ _ _ _) (cxT_lt hB) (by decide) (cxD_long d ok) 32 (by decide) W hx hy
 replace hk:∀ (W:World) (x y:Value),BytesIn W x 32 (xtN jn jb pn pb)→BytesIn W y (cxL d) (cxT d)→Calls Tryz.prog 50 #[x,.string { data:=#[101,112,111,99,104] },y,.int .i64 32] W _:=hk
 rw [ok] at hr
 obtain ⟨CL,hCL⟩:∃ X,X=cxL d:=⟨_,rfl⟩
 obtain ⟨CT,hCT⟩:∃ X,X=cxT d:=⟨_,rfl⟩
 have lX:∀ j,xtN jn jb pn pb j<256:=xtN_lt _ _ _ _
 obtain ⟨X,hX⟩:∃ X,X=xtN jn jb pn pb:=⟨_,rfl⟩
 rw [←hX] at lX
 have lE:∀ j,exN 32 X lEpo CL CT 32 j<256:=exN_lt _ _ _ _ _ _
 obtain ⟨E,hE⟩:∃ E,E=exN 32 X lEpo CL CT 32:=⟨_,rfl⟩
 rw [←hCL,←hCT] at hy hk ⊢
 rw [←hX] at hx hk ⊢
 rw [←hE] at hk lE ⊢
 have d0:=fun (W:World) (x:Value) (hx:BytesIn W x 32 E)=>rDerive_good5 (labS 0) (labS_lt 0) (labS_len 0) x 32 E lE (by decide) W hx
 replace d0:∀ (W:World) (x:Value),BytesIn W x 32 E→Calls Tryz.prog 56 #[x,.string { data:=#[115,101,110,100,101,114,32,100,97,116,97] }] W fun e w'=>∃ s,e = .returned s∧BytesIn w' s (seL jn 0) (seB X E jb 0)∧Below W.heap.size W w':=d0
 have d1:=fun (W:World) (x:Value) (hx:BytesIn W x 32 E)=>rDerive_good5 (labS 1) (labS_lt 1) (labS_len 1) x 32 E lE (by decide) W hx
 replace d1:∀ (W:World) (x:Value),BytesIn W x 32 E→Calls Tryz.prog 56 #[x,.string { data:=#[101,110,99,114,121,112,116,105,111,110] }] W fun e w'=>∃ s,e = .returned s∧BytesIn w' s (seL jn 1) (seB X E jb 1)∧Below W.heap.size W w':=d1
 have d2:=fun (W:World) (x:Value) (hx:BytesIn W x 32 E)=>rDerive_good5 (labS 2) (labS_lt 2) (labS_len 2) x 32 E lE (by decide) W hx
 replace d2:∀ (W:World) (x:Value),BytesIn W x 32 E→Calls Tryz.prog 56 #[x,.string { data:=#[101,120,112,111,114,116,101,114] }] W fun e w'=>∃ s,e = .returned s∧BytesIn w' s (seL jn 2) (seB X E jb 2)∧Below W.heap.size W w':=d2
 have d3:=fun (W:World) (x:Value) (hx:BytesIn W x 32 E)=>rDerive_good5 (labS 3) (labS_lt 3) (labS_len 3) x 32 E lE (by decide) W hx
 replace d3:∀ (W:World) (x:Value),BytesIn W x 32 E→Calls Tryz.prog 56 #[x,.string { data:=#[101,120,116,101,114,110,97,108] }] W fun e w'=>∃ s,e = .returned s∧BytesIn w' s (seL jn 3) (seB X E jb 3)∧Below W.heap.size W w':=d3
 have d4:=fun (W:World) (x:Value) (hx:BytesIn W x 32 E)=>rDerive_good5 (labS 4) (labS_lt 4) (labS_len 4) x 32 E lE (by decide) W hx
 replace d4:∀ (W:World) (x:Value),BytesIn W x 32 E→Calls Tryz.prog 56 #[x,.string { data:=#[99,111,110,102,105,114,109] }] W fun e w'=>∃ s,e = .returned s∧BytesIn w' s (seL jn 4) (seB X E jb 4)∧Below W.heap.size W w':=d4
 have d5:=fun (W:World) (x:Value) (hx:BytesIn W x 32 E)=>rDerive_good5 (labS 5) (labS_lt 5) (labS_len 5) x 32 E lE (by decide) W hx
 replace d5:∀ (W:World) (x:Value),BytesIn W x 32 E→Calls Tryz.prog 56 #[x,.string { data:=#[109,101,109,98,101,114,115,104,105,112] }] W fun e w'=>∃ s,e = .returned s∧BytesIn w' s (seL jn 5) (seB X E jb 5)∧Below W.heap.size W w':=d5
 have d6:=fun (W:World) (x:Value) (hx:BytesIn W x 32 E)=>rDerive_good5 (labS 6) (labS_lt 6) (labS_len 6) x 32 E lE (by decide) W hx
 replace d6:∀ (W:World) (x:Value),BytesIn W x 32 E→Calls Tryz.prog 56 #[x,.string { data:=#[114,101,115,117,109,112,116,105,111,110] }] W fun e w'=>∃ s,e = .returned s∧BytesIn w' s (seL jn 6) (seB X E jb 6)∧Below W.heap.size W w':=d6
 have d7:=fun (W:World) (x:Value) (hx:BytesIn W x 32 E)=>rDerive_good5 (labS 7) (labS_lt 7) (labS_len 7) x 32 E lE (by decide) W hx
 replace d7:∀ (W:World) (x:Value),BytesIn W x 32 E→Calls Tryz.prog 56 #[x,.string { data:=#[97,117,116,104,101,110,116,105,99,97,116,105,111,110] }] W fun e w'=>∃ s,e = .returned s∧BytesIn w' s (seL jn 7) (seB X E jb 7)∧Below W.heap.size W w':=d7
 have d8:=fun (W:World) (x:Value) (hx:BytesIn W x 32 E)=>rDerive_good5 (labS 8) (labS_lt 8) (labS_len 8) x 32 E lE (by decide) W hx
 replace d8:∀ (W:World) (x:Value),BytesIn W x 32 E→Calls Tryz.prog 56 #[x,.string { data:=#[105,110,105,116] }] W fun e w'=>∃ s,e = .returned s∧BytesIn w' s (seL jn 8) (seB X E jb 8)∧Below W.heap.size W w':=d8
 have d9:=fun (W:World) (x:Value) (hx:BytesIn W x 32 X)=>rDerive_good5 lWel (by decide) (by decide) x 32 X lX (by decide) W hx
 replace d9:∀ (W:World) (x:Value),BytesIn W x 32 X→Calls Tryz.prog 56 #[x,.string { data:=#[119,101,108,99,111,109,101] }] W fun e w'=>∃ s,e = .returned s∧BytesIn w' s (seL jn 9) (seB X E jb 9)∧Below W.heap.size W w':=d9
 obtain ⟨SN,hSN⟩:∃ N,N=seL jn:=⟨_,rfl⟩
 obtain ⟨SB,hSB⟩:∃ N,N=seB X E jb:=⟨_,rfl⟩
 have n10:SN 10=jn:=by rw [hSN];rfl
 have b10:SB 10=jb:=by rw [hSB];rfl
 rw [←hSN,←hSB] at d0 d1 d2 d3 d4 d5 d6 d7 d8 d9 ⊢
 obtain ⟨v0,v1,v2,rfl,g0,g1,g2⟩:=hc
 obtain ⟨N,hN⟩:∃ N,N=d.e:=⟨_,rfl⟩
 rw [←hN] at hr hy ⊢
 have H10:=Hid.mk' (And.intro n10 b10)
 have HJ:=Hid.mk' hj
 have qj:jn≤140737488355328:=by omega
 obtain ⟨xj,cj,rfl,hxj,-,srcj⟩:=hj.src
 obtain ⟨xp,cp,rfl,-⟩:=hp.src
 have HS:=Hid.mk' srcj
 clear hN g0 g1 g2 ok hX hE hCL hCT hB lX lE hp n10 b10 hSN hSB srcj hj hjb hpb hjn hpn
 have b1:Below w.heap.size w (w.alloc (.cells #[v0,.int .i64 N,v1,v2] 24)):=(Below.refl _ _).alloc (Nat.le_refl _) _
 have b2:=b1.alloc b1.size (.cells z11.toArray 48)
 replace hr:=hr _ b2
 have k1:=RW.fresh w [v0,.int .i64 N,v1,v2] 24
 have k2:=k1.still ((Below.refl _ _).alloc (Nat.le_refl _) (.cells z11.toArray 48))
 have B2:=Hid.mk' b2
 have K2:=Hid.mk' k2
 have k9:=RW.fresh (w.alloc (.cells #[v0,.int .i64 N,v1,v2] 24)) z11 48
 rw [World.size_alloc] at k9
 have K9:=Hid.mk' k9
 clear b1 b2 k1 k2 k9
 go_enter Tryz.func19,Tryz.ntmps19
 go_upto_region 6 with (first
  | rw [zSecR]
  | (refine wpList_load_mid rfl 24 _ rfl w.heap.size 0 rfl _ _ K2.out.range Tryz.underlying24 rfl (infoRx _ _ _ _) ?_;have K22:=K2;clear K2)
  | (go_at_call 37;refine hr.mono ?_;clear hr;rintro e w3 ⟨rfl,hb3⟩;have k3:=K9.out.still hb3;have c3:=K22.out.still hb3;have b3:=below_next B2.out hb3;have hx3:=hx w3 b3;clear hx K9 K22 B2)
  | (go_at_call 51;refine hx3.mono ?_;clear hx3;rintro e w4 ⟨x4,e4,rfl,X4,hb4⟩;have k4:=k3.still hb4;have c4:=c3.still hb4;have b4:=below_next b3 hb4;have hy4:=hy w4 b4;clear hy k3 c3)
  | (refine wpList_load_mid rfl 24 _ rfl w.heap.size 0 rfl _ _ c4.range Tryz.underlying24 rfl (infoRx _ _ _ _) ?_;clear c4)
  | (go_at_call 38;refine hy4.mono ?_;clear hy4;rintro e w5 ⟨s5,rfl,o5,hb5⟩;(obtain ⟨x5,c5,e5⟩:=o5.slice);subst e5;have k5:=k4.still hb5;have b5:=below_next b4 hb5;have X5:=X4.keep hb5;have hk5:=hk w5 _ _ X5 o5.bytesIn;clear hk X4 k4 o5)
  | (go_at_call 50;refine hk5.mono ?_;clear hk5;rintro e w6 ⟨s6,rfl,E6,hb6⟩;(obtain ⟨x6,c6,e6,-⟩:=E6.src);subst e6;have k6:=k5.still hb6;have b6:=below_next b5 hb6;have X6:=X5.keep hb6;clear X5 k5 b5 b4 b3))
 have hb7:Below w6.heap.size w6 (w6.alloc (.cells z11.toArray 48)):=(Below.refl _ _).alloc (Nat.le_refl _) _
 have S0:SrS w (w6.alloc (.cells z11.toArray 48)) w6.heap.size 0 SN SB (.slice x4 32 e4) (.slice x6 32 c6) X E z11 :=
  ⟨⟨RW.fresh w6 z11 48,z11_len,fun i v hi=>absurd hi (Nat.not_lt_zero _),z11_sls⟩,X6.keep hb7,E6.keep hb7,k6.still hb7,below_next b6 hb7,k6.lt⟩
 have hb8:=b6.size
 clear X6 E6 k6 b6 hb7 hb8 hb3 hb4 hb5 hb6
 generalize w6.alloc (.cells z11.toArray 48)=W0 at *
 obtain ⟨g,hg⟩:∃ g,g=w6.heap.size:=⟨_,rfl⟩
 rw [←hg] at S0 ⊢
 clear hg
 go_wp2_with (first
  | (go_at_call 56;refine (d0 W0 _ S0.hs).mono ?_;clear d0;rintro e W1 ⟨s0,rfl,D0,hb⟩;(obtain ⟨yy0,mm0,kk0,ee0⟩:=D0.isSl);subst ee0;have R0:=S0.turn hb;(obtain ⟨u0,hc0,hf0,-⟩:=R0.sr.cell 0 (by decide));have S1:=R0.put (by decide) _ D0;clear S0 hb R0 D0)
  | (go_at_call 56;refine (d1 _ _ S1.hs).mono ?_;clear d1 hc0 hf0;rintro e W2 ⟨s1,rfl,D1,hb⟩;(obtain ⟨yy1,mm1,kk1,ee1⟩:=D1.isSl);subst ee1;have R1:=S1.turn hb;(obtain ⟨u1,hc1,hf1,-⟩:=R1.sr.cell 1 (by decide));have S2:=R1.put (by decide) _ D1;clear S1 hb R1 D1)
  | (go_at_call 56;refine (d2 _ _ S2.hs).mono ?_;clear d2 hc1 hf1;rintro e W3 ⟨s2,rfl,D2,hb⟩;(obtain ⟨yy2,mm2,kk2,ee2⟩:=D2.isSl);subst ee2;have R2:=S2.turn hb;(obtain ⟨u2,hc2,hf2,-⟩:=R2.sr.cell 2 (by decide));have S3:=R2.put (by decide) _ D2;clear S2 hb R2 D2)
  | (go_at_call 56;refine (d3 _ _ S3.hs).mono ?_;clear d3 hc2 hf2;rintro e W4 ⟨s3,rfl,D3,hb⟩;(obtain ⟨yy3,mm3,kk3,ee3⟩:=D3.isSl);subst ee3;have R3:=S3.turn hb;(obtain ⟨u3,hc3,hf3,-⟩:=R3.sr.cell 3 (by decide));have S4:=R3.put (by decide) _ D3;clear S3 hb R3 D3)
  | (go_at_call 56;refine (d4 _ _ S4.hs).mono ?_;clear d4 hc3 hf3;rintro e W5 ⟨s4,rfl,D4,hb⟩;(obtain ⟨yy4,mm4,kk4,ee4⟩:=D4.isSl);subst ee4;have R4:=S4.turn hb;(obtain ⟨u4,hc4,hf4,-⟩:=R4.sr.cell 4 (by decide));have S5:=R4.put (by decide) _ D4;clear S4 hb R4 D4)
  | (go_at_call 56;refine (d5 _ _ S5.hs).mono ?_;clear d5 hc4 hf4;rintro e W6 ⟨s5,rfl,D5,hb⟩;(obtain ⟨yy5,mm5,kk5,ee5⟩:=D5.isSl);subst ee5;have R5:=S5.turn hb;(obtain ⟨u5,hc5,hf5,-⟩:=R5.sr.cell 5 (by decide));have S6:=R5.put (by decide) _ D5;clear S5 hb R5 D5)
  | (go_at_call 56;refine (d6 _ _ S6.hs).mono ?_;clear d6 hc5 hf5;rintro e W7 ⟨s6,rfl,D6,hb⟩;(obtain ⟨yy6,mm6,kk6,ee6⟩:=D6.isSl);subst ee6;have R6:=S6.turn hb;(obtain ⟨u6,hc6,hf6,-⟩:=R6.sr.cell 6 (by decide));have S7:=R6.put (by decide) _ D6;clear S6 hb R6 D6)
  | (go_at_call 56;refine (d7 _ _ S7.hs).mono ?_;clear d7 hc6 hf6;rintro e W8 ⟨s7,rfl,D7,hb⟩;(obtain ⟨yy7,mm7,kk7,ee7⟩:=D7.isSl);subst ee7;have R7:=S7.turn hb;(obtain ⟨u7,hc7,hf7,-⟩:=R7.sr.cell 7 (by decide));have S8:=R7.put (by decide) _ D7;clear S7 hb R7 D7)
  | (go_at_call 56;refine (d8 _ _ S8.hs).mono ?_;clear d8 hc7 hf7;rintro e W9 ⟨s8,rfl,D8,hb⟩;(obtain ⟨yy8,mm8,kk8,ee8⟩:=D8.isSl);subst ee8;have R8:=S8.turn hb;(obtain ⟨u8,hc8,hf8,-⟩:=R8.sr.cell 8 (by decide));have S9:=R8.put (by decide) _ D8;clear S8 hb R8 D8)
  | (go_at_call 56;refine (d9 _ _ S9.hm).mono ?_;clear d9 hc8 hf8;rintro e W10 ⟨s9,rfl,D9,hb⟩;(obtain ⟨yy9,mm9,kk9,ee9⟩:=D9.isSl);subst ee9;have R9:=S9.turn hb;(obtain ⟨u9,hc9,hf9,-⟩:=R9.sr.cell 9 (by decide));have S10:=R9.put (by decide) _ D9;clear S9 hb R9 D9)
  | (at_builtin;go_loud (have rj:=HS.out _ (below_next S10.hb ((Below.refl _ _).alloc (Nat.le_refl _) (.cells #[] 5)));refine wpList_append_empty rfl (.tmp 56) (.tmp 57) rfl _ jb W10.heap.size (by simp) rfl xj jn cj rfl rj hxj qj (Nat.le_refl _) ?_;intro v11 W11 o11 hb;have R10:=S10.turn hb;(obtain ⟨y10,c10,e10⟩:=o11.slice);subst e10;(obtain ⟨u10,hc10,hf10,-⟩:=R10.sr.cell 10 (by decide));have D10:=o11.bytesIn;(rw [←H10.out.1,←H10.out.2] at D10);have S11:=R10.put (by decide) _ D10;(rw [H10.out.1] at S11);clear S10 hb R10 D10 o11 hc9 hf9))
  | (refine ldSecR (.tmp 11) rfl rfl S11.sr.row S11.sr.len ?_ rfl)
  | (refine stSecR (.tmp 6) (.tmp 60) rfl (g:=w.heap.size+1) (cs:=z11) rfl rfl S11.kz z11_len S11.sr.len (sls_one S11.sr.sls) ?_ rfl))
 obtain ⟨t1,t2,t3⟩:=fin11 S11
 exact bodyPost_ret (res_cT Tryz.results19 _ _ (w.heap.size+1) 0 _ _ rfl t3 Tryz.underlying48 rfl (infoSecR S11.sr.len)) rfl ⟨_,rfl,t1,t2⟩
end Go.Proofs.YtibmlmmoifgliaaGreatDoor
namespace Go.Proofs.YtibmlmmoifgliaaGreatDoor
open Go.RowKit
structure GrS (w W:World) (lo hi g c L:Nat) (B:Nat→Nat) (p:Rd) (vs:List Value):Prop where
 rd:RdB lo hi W g L B p
 kc:RW W c 0 vs
 kr:RW W w.heap.size 0 z4C
 hb:Below w.heap.size w W
 low:w.heap.size+1≤lo
 hic:hi≤c
theorem GrS.turn {w W W':World} {lo hi g c L:Nat} {B:Nat→Nat} {p p':Rd} {vs:List Value} (h:GrS w W lo hi g c L B p vs) (o:Out g 1 2 W W') (r:RdB lo hi W' g L B p'):GrS w W' lo hi g c L B p' vs:=by
 have hg:=h.rd.ge
 have hl:=h.low
 have hh:=h.rd.lt
 have hc:=h.hic
 exact ⟨r,h.kc.out o (by omega),h.kr.out o (by omega),h.hb.trans (o.below (by omega) h.hb.size),h.low,h.hic⟩
theorem GrS.put {w W:World} {lo hi g c L:Nat} {B:Nat→Nat} {p:Rd} {vs:List Value} (h:GrS w W lo hi g c L B p vs) (i:Nat) (hiv:i<vs.length) (v:Value):GrS w (W.setCell ⟨c,i,none⟩ v) lo hi g c L B p (vs.set i v):=by
 have hl:=h.low
 have hg:=h.rd.ge
 have hh:=h.rd.lt
 have hc:=h.hic
 exact ⟨h.rd.same (SameIn.of_out (Out.setCell (n:=1) W v (Nat.le_refl i) (Nat.lt_succ_self i)) (.inr hc) h.rd.size),h.kc.put i hiv v,h.kr.far c i [v] (.inl (by omega)),h.hb.setCell (show w.heap.size≤(⟨c,i,none⟩:Addr).block from by show w.heap.size≤c;omega) v,h.low,h.hic⟩
theorem GrS.cell {w W:World} {lo hi g c L:Nat} {B:Nat→Nat} {p:Rd} {vs:List Value} (h:GrS w W lo hi g c L B p vs) (i:Nat) (v:Value) (hv:vs[i]? = some v):W.cell? ⟨c,i,none⟩=some v∧W.frozen? ⟨c,i,none⟩=false:=by
 have h1:=h.kc.range i v hv
 have h2:=(h.kc.there i (List.getElem?_eq_some_iff.1 hv).1).2
 rw [Nat.zero_add] at h1 h2
 exact ⟨h1,h2⟩
end Go.Proofs.YtibmlmmoifgliaaGreatDoor
namespace Go.Proofs.YtibmlmmoifgliaaGreatDoor
open Go.RowKit
theorem exStep (key v:Value) (S:ByteArray) (n i:Int) (E:Int) (Q:Value→World→Prop) (w:World) (hE:∀ W,Below w.heap.size w W→Calls Tryz.prog 57 #[key,.string S,v,.int .i64 n] W fun e w'=>∃ x m c,e = .returned (.tuple #[.slice x m c,.int .i64 E])∧Q (.slice x m c) w'∧Below W.heap.size W w') :
 Calls Tryz.prog 60 #[key,.int .i64 i,.agg #[.string S,v,.int .i64 n]] w fun e w'=>∃ x m c,e = .returned (.tuple #[.slice x m c,.int .i64 E])∧Q (.slice x m c) w'∧Below w.heap.size w w':=by
 have b1:Below w.heap.size w (w.alloc (.cells #[.string S,v,.int .i64 n] 87)):=(Below.refl _ _).alloc (Nat.le_refl _) _
 have h1:=hE _ b1
 have HB:=Hid.mk' b1
 clear hE b1
 go_enter Tryz.func60,Tryz.ntmps60
 go_wp2_with (go_at_call 57;refine h1.mono ?_;clear h1;rintro e w2 ⟨x2,m2,c2,rfl,q2,hb2⟩)
 go_ret2
 exact ⟨_,_,_,rfl,q2,below_next HB.out hb2⟩
abbrev fEx:Value := .func (.func 60) #[] #[]
set_option maxRecDepth 20000 in
set_option maxHeartbeats 4000000 in
theorem chain_bad (key v0 v1:Value) (S0 S1:ByteArray) (n0 n1:Int) (h:Nat) (w:World) (r:RW w h 0 [.string S0,v0,.int .i64 n0,.string S1,v1,.int .i64 n1]) (hv0:∃ x m c,v0 = .slice x m c)
 (h0:∀ W,Below w.heap.size w W→Calls Tryz.prog 60 #[key,.int .i64 0,.agg #[.string S0,v0,.int .i64 n0]] W fun e w'=>∃ x m c,e = .returned (.tuple #[.slice x m c,.int .i64 6])∧True∧Below W.heap.size W w') :
 Calls Tryz.prog 59 #[key,.slice (some ⟨h,0,none⟩) 2 2,fEx] w fun e w'=>e = .returned (.tuple #[.slice none 0 0,.int .i64 6])∧Below w.heap.size w w':=by
 obtain ⟨x0,m0,k0,rfl⟩:=hv0
 have c0:w.cell? ⟨h,0,none⟩=some (.string S0):=by simpa using r.range 0 _ rfl
 have c1:w.cell? ⟨h,1,none⟩=some (.slice x0 m0 k0):=by simpa using r.range 1 _ rfl
 have c2:w.cell? ⟨h,2,none⟩=some (.int .i64 n0):=by simpa using r.range 2 _ rfl
 have b1:Below w.heap.size w (w.alloc (.cells #[.string S0,.slice x0 m0 k0,.int .i64 n0] 87)):=(Below.refl _ _).alloc (Nat.le_refl _) _
 have h1:=h0 _ b1
 have HB:=Hid.mk' b1
 clear r h0 b1
 go_enter Tryz.func59,Tryz.ntmps59
 go_wp2
 go_loopw [0,8,9,10,13] (fun k _ _ _ i wr=>k=key∧i = .int .i64 0∧wr=w) (fun _ _ _ _ _ _=>0)
 case atStart=>exact ⟨rfl,rfl,rfl⟩
 case round =>
  obtain ⟨rfl,rfl,rfl⟩:=hrel
  go_wp2_with (go_at_call 60;refine h1.mono ?_;clear h1;rintro e w2 ⟨x2,m2,c2,rfl,-,hb2⟩)
  go_ret2
  exact ⟨rfl,below_next HB.out hb2⟩
set_option maxRecDepth 20000 in
set_option maxHeartbeats 4000000 in
theorem chain_two (key v0 v1:Value) (S0 S1:ByteArray) (n0 n1:Int) (h:Nat) (w:World) (r:RW w h 0 [.string S0,v0,.int .i64 n0,.string S1,v1,.int .i64 n1]) (hv0:∃ x m c,v0 = .slice x m c) (hv1:∃ x m c,v1 = .slice x m c) (E:Int) (hE:E=0∨E=6) (Q0 Q1:Value→World→Prop) (q0:∀ v W W',Q0 v W→Below W.heap.size W W'→Q0 v W') (qn:E=6→∀ W,Q1 (.slice none 0 0) W)
 (h0:∀ W,Below w.heap.size w W→Calls Tryz.prog 60 #[key,.int .i64 0,.agg #[.string S0,v0,.int .i64 n0]] W fun e w'=>∃ x m c,e = .returned (.tuple #[.slice x m c,.int .i64 0])∧Q0 (.slice x m c) w'∧Below W.heap.size W w')
 (h1:∀ W u,Below w.heap.size w W→Q0 u W→Calls Tryz.prog 60 #[u,.int .i64 1,.agg #[.string S1,v1,.int .i64 n1]] W fun e w'=>∃ x m c,e = .returned (.tuple #[.slice x m c,.int .i64 E])∧Q1 (.slice x m c) w'∧Below W.heap.size W w') :
 Calls Tryz.prog 59 #[key,.slice (some ⟨h,0,none⟩) 2 2,fEx] w fun e w'=>∃ x m c,e = .returned (.tuple #[.slice x m c,.int .i64 E])∧Q1 (.slice x m c) w'∧Below w.heap.size w w':=by
 obtain ⟨x0,m0,k0,rfl⟩:=hv0
 obtain ⟨x1,m1,k1,rfl⟩:=hv1
 have R:=Hid.mk' r
 clear r
 go_enter Tryz.func59,Tryz.ntmps59
 go_wp2
 go_loopw [0,8,9,10,13] (fun k _ _ _ i wr=>Below w.heap.size w wr∧((k=key∧i = .int .i64 0)∨((∃ x m c,k = .slice x m c)∧i = .int .i64 1∧Q0 k wr)∨(E=0∧(∃ x m c,k = .slice x m c)∧i = .int .i64 2∧Q1 k wr))) (fun _ _ _ _ i _=>2 - (intOf i).toNat)
 case atStart=>exact ⟨Below.refl _ _,.inl ⟨rfl,rfl⟩⟩
 case round =>
  obtain ⟨hb,⟨rfl,rfl⟩ | ⟨⟨xk,mk,ck,rfl⟩,rfl,hq⟩ | ⟨rfl,⟨xk,mk,ck,rfl⟩,rfl,hq⟩⟩:=hrel
  · have r:=R.out.below hb R.out.lt
    have c0:wr.cell? ⟨h,0,none⟩=some (.string S0):=by simpa using r.range 0 _ rfl
    have c1:wr.cell? ⟨h,1,none⟩=some (.slice x0 m0 k0):=by simpa using r.range 1 _ rfl
    have c2:wr.cell? ⟨h,2,none⟩=some (.int .i64 n0):=by simpa using r.range 2 _ rfl
    have ba:=hb.alloc hb.size (.cells #[.string S0,.slice x0 m0 k0,.int .i64 n0] 87)
    have h2:=h0 _ ba
    have HB:=Hid.mk' ba
    clear r ba hb h0
    go_wp2_with (go_at_call 60;refine h2.mono ?_;clear h2;rintro e w2 ⟨x2,m2,d2,rfl,q2,hb2⟩)
    go_roundw
    case rel=>exact ⟨below_next HB.out hb2,.inr (.inl ⟨⟨_,_,_,rfl⟩,by go_num,q2⟩)⟩
    case measure=>simp [intOf]
  · have r:=R.out.below hb R.out.lt
    have c0:wr.cell? ⟨h,3,none⟩=some (.string S1):=by simpa using r.range 3 _ rfl
    have c1:wr.cell? ⟨h,4,none⟩=some (.slice x1 m1 k1):=by simpa using r.range 4 _ rfl
    have c2:wr.cell? ⟨h,5,none⟩=some (.int .i64 n1):=by simpa using r.range 5 _ rfl
    have bb:Below wr.heap.size wr (wr.alloc (.cells #[.string S1,.slice x1 m1 k1,.int .i64 n1] 87)):=(Below.refl _ _).alloc (Nat.le_refl _) _
    have ba:=below_next hb bb
    have h2:=h1 _ _ ba (q0 _ _ _ hq bb)
    have HB:=Hid.mk' ba
    clear r ba hb h1 bb hq
    rcases hE with rfl | rfl
    · go_wp2_with (go_at_call 60;refine h2.mono ?_;clear h2;rintro e w2 ⟨x2,m2,d2,rfl,q2,hb2⟩)
      go_roundw
      case rel=>exact ⟨below_next HB.out hb2,.inr (.inr ⟨by first | rfl | trivial,⟨_,_,_,rfl⟩,by go_num,q2⟩)⟩
      case measure=>simp [intOf]
    · go_wp2_with (go_at_call 60;refine h2.mono ?_;clear h2;rintro e w2 ⟨x2,m2,d2,rfl,q2,hb2⟩)
      go_ret2
      exact ⟨_,_,_,rfl,qn (by first | rfl | trivial) _,below_next HB.out hb2⟩
  · go_wp2
    go_ret2
    exact ⟨_,_,_,rfl,hq,hb⟩
def lXpd:List Nat:=[101,120,112,111,114,116,101,100]
set_option maxRecDepth 20000 in
set_option maxHeartbeats 4000000 in
theorem export_any (cs:List Value) (N:Nat→Nat) (B:Nat→Nat→Nat) (lB:∀ i j,B i j<256) (l:List Nat) (hl:∀ x,x∈l→x<256) (v:Value) (m:Nat) (b:Nat→Nat) (lb:∀ j,b j<256) (hN:N 2<140737488355000) (hm:m<140737488355000) (n:Int) (E:Int) (hE:E=0∨E=6) (Q1:Value→World→Prop) (qn:E=6→∀ W,Q1 (.slice none 0 0) W) (hll:l.length≤65528)
 (h1:∀ W u y,TabAt W→BytesIn W u 32 (exN (N 2) (B 2) l 0 lZ 32)→BytesIn W y 32 (smN m b)→Calls Tryz.prog 57 #[u,.string (strL lXpd),y,.int .i64 n] W fun e w'=>∃ x m c,e = .returned (.tuple #[.slice x m c,.int .i64 E])∧Q1 (.slice x m c) w'∧Below W.heap.size W w')
 (w:World) (hT:TabAt w) (hs:TxRow w cs 11 N B) (hv:BytesIn w v m b) :
 Calls Tryz.prog 23 #[.agg cs.toArray,.string (strL l),v,.int .i64 n] w fun e w'=>∃ x m c,e = .returned (.tuple #[.slice x m c,.int .i64 E])∧Q1 (.slice x m c) w'∧Below w.heap.size w w':=by
 obtain ⟨hlen,hcs⟩:=hs
 obtain ⟨v0,v1,v2,v3,v4,v5,v6,v7,v8,v9,v10,rfl⟩:∃ v0 v1 v2 v3 v4 v5 v6 v7 v8 v9 v10,cs=[v0,v1,v2,v3,v4,v5,v6,v7,v8,v9,v10]:=by
  match cs,hlen with
  | [v0,v1,v2,v3,v4,v5,v6,v7,v8,v9,v10],_=>exact ⟨_,_,_,_,_,_,_,_,_,_,_,rfl⟩
 have h2:=hcs 2 v2 rfl
 clear hcs hlen
 have hsm:=fun (W:World) (hb:Below w.heap.size w W)=>cSm_any v m b lb hm W (hT.still hb) (hv.keep hb)
 have hx0:=fun (W:World) (hb:Below w.heap.size w W)=>cExpand_good l hl hll v2 (.slice none 0 0) (N 2) 0 (B 2) lZ (lB 2) (fun _=>by show 0<256;decide) hN (by decide) 32 (by decide) W (hT.still hb).h (h2.keep hb) (nil_bytes W lZ)
 have hch:=fun (W:World) (h:Nat) (y:Value) (hb:Below w.heap.size w W) (hy:BytesIn W y 32 (smN m b)) (r:RW W h 0 [.string (strL l),.slice none 0 0,.int .i64 32,.string (strL lXpd),y,.int .i64 n]) =>
  chain_two v2 (.slice none 0 0) y (strL l) (strL lXpd) 32 n h W r ⟨_,_,_,rfl⟩ hy.isSl E hE (fun u V=>BytesIn V u 32 (exN (N 2) (B 2) l 0 lZ 32)) Q1 (fun u V V' q hb=>q.keep hb) qn
   (fun V hV=>exStep v2 (.slice none 0 0) (strL l) 32 0 0 (fun u V=>BytesIn V u 32 (exN (N 2) (B 2) l 0 lZ 32)) V (fun X hX=>(hx0 X (below_next hb (below_next hV hX))).mono fun e w' ⟨s,p1,p2,p3⟩=>by
     obtain ⟨x,c,rfl,-⟩:=p2.src
     exact ⟨x,32,c,p1,p2,p3⟩))
   (fun V u hV hu=>exStep u y (strL lXpd) n 1 E Q1 V (fun X hX=>h1 X u y (hT.still (below_next hb (below_next hV hX))) (hu.keep hX) (hy.keep (below_next hV hX))))
 obtain ⟨SL,hSL⟩:∃ S,S=strL l:=⟨_,rfl⟩
 replace hch:∀ (W:World) (h:Nat) (y:Value),Below w.heap.size w W→BytesIn W y 32 (smN m b)→RW W h 0 [.string SL,.slice none 0 0,.int .i64 32,.string { data:=#[101,120,112,111,114,116,101,100] },y,.int .i64 n]→Calls Tryz.prog 59 #[v2,.slice (some ⟨h,0,none⟩) 2 2,fEx] W fun e w'=>∃ x m c,e = .returned (.tuple #[.slice x m c,.int .i64 E])∧Q1 (.slice x m c) w'∧Below W.heap.size W w':=by rw [hSL];exact hch
 rw [←hSL]
 obtain ⟨F,hF⟩:∃ F,F=smN m b:=⟨_,rfl⟩
 rw [←hF] at hsm hch
 have b1:Below w.heap.size w (w.alloc (.cells #[v0,v1,v2,v3,v4,v5,v6,v7,v8,v9,v10] 45)):=(Below.refl _ _).alloc (Nat.le_refl _) _
 have k1:=RW.fresh w [v0,v1,v2,v3,v4,v5,v6,v7,v8,v9,v10] 45
 have hs1:=hsm _ b1
 have HB:=Hid.mk' b1
 have HK:=Hid.mk' k1
 have hiv:=hv.isSl
 have hi2:=h2.isSl
 clear hSL hF hsm hx0 h1 hT hv h2 b1 k1 lB hl lb hN hm hE qn hll
 obtain ⟨xv,nv,cv,rfl⟩:=hiv
 obtain ⟨x2,n2,c2,rfl⟩:=hi2
 go_enter Tryz.func23,Tryz.ntmps23
 go_wp2_with (first
  | (go_at_call 58;refine hs1.mono ?_;clear hs1;rintro e w3 ⟨x3,c3,rfl,F3,hb3⟩;have k3:=HK.out.still hb3;have b3:=below_next HB.out hb3;have hba:Below w3.heap.size w3 (w3.alloc (.cells #[.string SL,.slice none 0 0,.int .i64 32,.string { data:=#[101,120,112,111,114,116,101,100] },.slice x3 32 c3,.int .i64 n] 87)):=(Below.refl _ _).alloc (Nat.le_refl _) _;have r4:=RW.fresh w3 [.string SL,.slice none 0 0,.int .i64 32,.string { data:=#[101,120,112,111,114,116,101,100] },.slice x3 32 c3,.int .i64 n] 87;have b4:=below_next b3 hba;have hc4:=hch _ _ _ b4 (F3.keep hba) r4;have B4:=Hid.mk' b4;have hk2:w3.cell? ⟨w.heap.size,2,none⟩=some (.slice x2 n2 c2):=(by simpa using k3.range 2 _ rfl);have hlt2:=k3.lt;clear hch HK HB F3 k3 b3 hba r4 b4 hb3)
  | (go_at_call 59;refine hc4.mono ?_;clear hc4;rintro e w5 ⟨x5,m5,c5,rfl,q5,hb5⟩))
 go_ret2
 exact ⟨_,_,_,rfl,q5,below_next B4.out hb5⟩
set_option maxRecDepth 20000 in
set_option maxHeartbeats 4000000 in
theorem export_long (cs:List Value) (N:Nat→Nat) (B:Nat→Nat→Nat) (l:List Nat) (v:Value) (m:Nat) (b:Nat→Nat) (lb:∀ j,b j<256) (hm:m<140737488355000) (n:Int) (hll:65528<l.length) (w:World) (hT:TabAt w) (hs:TxRow w cs 11 N B) (hv:BytesIn w v m b) :
 Calls Tryz.prog 23 #[.agg cs.toArray,.string (strL l),v,.int .i64 n] w fun e w'=>e = .returned (.tuple #[.slice none 0 0,.int .i64 6])∧Below w.heap.size w w':=by
 obtain ⟨hlen,hcs⟩:=hs
 obtain ⟨v0,v1,v2,v3,v4,v5,v6,v7,v8,v9,v10,rfl⟩:∃ v0 v1 v2 v3 v4 v5 v6 v7 v8 v9 v10,cs=[v0,v1,v2,v3,v4,v5,v6,v7,v8,v9,v10]:=by
  match cs,hlen with
  | [v0,v1,v2,v3,v4,v5,v6,v7,v8,v9,v10],_=>exact ⟨_,_,_,_,_,_,_,_,_,_,_,rfl⟩
 have h2:=hcs 2 v2 rfl
 clear hcs hlen
 have hsm:=fun (W:World) (hb:Below w.heap.size w W)=>cSm_any v m b lb hm W (hT.still hb) (hv.keep hb)
 have hch:=fun (W:World) (h:Nat) (y:Value) (r:RW W h 0 [.string (strL l),.slice none 0 0,.int .i64 32,.string (strL lXpd),y,.int .i64 n]) =>
  chain_bad v2 (.slice none 0 0) y (strL l) (strL lXpd) 32 n h W r ⟨_,_,_,rfl⟩
   (fun V _=>exStep v2 (.slice none 0 0) (strL l) 32 0 6 (fun _ _=>True) V (fun X _=>(cExpand_long l v2 (.slice none 0 0) 0 lZ (.inl hll) 32 X (nil_bytes X lZ)).mono fun e w' ⟨p1,p2⟩=>⟨_,_,_,p1,trivial,p2 ▸ Below.refl _ _⟩))
 obtain ⟨SL,hSL⟩:∃ S,S=strL l:=⟨_,rfl⟩
 replace hch:∀ (W:World) (h:Nat) (y:Value),RW W h 0 [.string SL,.slice none 0 0,.int .i64 32,.string { data:=#[101,120,112,111,114,116,101,100] },y,.int .i64 n]→Calls Tryz.prog 59 #[v2,.slice (some ⟨h,0,none⟩) 2 2,fEx] W fun e w'=>e = .returned (.tuple #[.slice none 0 0,.int .i64 6])∧Below W.heap.size W w':=by rw [hSL];exact hch
 rw [←hSL]
 have b1:Below w.heap.size w (w.alloc (.cells #[v0,v1,v2,v3,v4,v5,v6,v7,v8,v9,v10] 45)):=(Below.refl _ _).alloc (Nat.le_refl _) _
 have k1:=RW.fresh w [v0,v1,v2,v3,v4,v5,v6,v7,v8,v9,v10] 45
 have hs1:=hsm _ b1
 have HB:=Hid.mk' b1
 have HK:=Hid.mk' k1
 have hiv:=hv.isSl
 have hi2:=h2.isSl
 generalize smN m b=F at *
 clear hSL hsm hT hv h2 b1 k1 lb hm hll
 obtain ⟨xv,nv,cv,rfl⟩:=hiv
 obtain ⟨x2,n2,c2,rfl⟩:=hi2
 go_enter Tryz.func23,Tryz.ntmps23
 go_wp2_with (first
  | (go_at_call 58;refine hs1.mono ?_;clear hs1;rintro e w3 ⟨x3,c3,rfl,F3,hb3⟩;have k3:=HK.out.still hb3;have b3:=below_next HB.out hb3;have hba:Below w3.heap.size w3 (w3.alloc (.cells #[.string SL,.slice none 0 0,.int .i64 32,.string { data:=#[101,120,112,111,114,116,101,100] },.slice x3 32 c3,.int .i64 n] 87)):=(Below.refl _ _).alloc (Nat.le_refl _) _;have r4:=RW.fresh w3 [.string SL,.slice none 0 0,.int .i64 32,.string { data:=#[101,120,112,111,114,116,101,100] },.slice x3 32 c3,.int .i64 n] 87;have hc4:=hch _ _ _ r4;have B4:=Hid.mk' (below_next b3 hba);have hk2:w3.cell? ⟨w.heap.size,2,none⟩=some (.slice x2 n2 c2):=(by simpa using k3.range 2 _ rfl);have hlt2:=k3.lt;clear hch HK HB F3 k3 b3 hba r4 hb3)
  | (go_at_call 59;refine hc4.mono ?_;clear hc4;rintro e w5 ⟨rfl,hb5⟩))
 go_ret2
 exact ⟨rfl,below_next B4.out hb5⟩
theorem rExport_long (cs:List Value) (N:Nat→Nat) (B:Nat→Nat→Nat) (l:List Nat) (v:Value) (hv:∃ x m c,v = .slice x m c) (n:Int) (hll:65528<l.length) (w:World) (hs:TxRow w cs 11 N B) :
 Calls Tryz.prog 25 #[.agg cs.toArray,.string (strL l),v,.int .i64 n] w fun e w'=>e = .returned (.tuple #[.slice none 0 0,.int .i64 6])∧Below w.heap.size w w':=by
 obtain ⟨hlen,hcs⟩:=hs
 obtain ⟨v0,v1,v2,v3,v4,v5,v6,v7,v8,v9,v10,rfl⟩:∃ v0 v1 v2 v3 v4 v5 v6 v7 v8 v9 v10,cs=[v0,v1,v2,v3,v4,v5,v6,v7,v8,v9,v10]:=by
  match cs,hlen with
  | [v0,v1,v2,v3,v4,v5,v6,v7,v8,v9,v10],_=>exact ⟨_,_,_,_,_,_,_,_,_,_,_,rfl⟩
 have h2:=hcs 2 v2 rfl
 clear hcs hlen
 have hx:=fun (W:World)=>rExpand_bad5 l v2 (.slice none 0 0) 0 lZ 32 (.inl (.inl hll)) W (nil_bytes W lZ)
 obtain ⟨SL,hSL⟩:∃ S,S=strL l:=⟨_,rfl⟩
 rw [←hSL] at hx ⊢
 have b1:Below w.heap.size w (w.alloc (.cells #[v0,v1,v2,v3,v4,v5,v6,v7,v8,v9,v10] 48)):=(Below.refl _ _).alloc (Nat.le_refl _) _
 have HB:=Hid.mk' b1
 have hi2:=h2.isSl
 clear hSL b1 hll h2
 obtain ⟨x2,n2,c2,rfl⟩:=hi2
 obtain ⟨xv,nv,cv,rfl⟩:=hv
 go_enter Tryz.func25,Tryz.ntmps25
 go_wp2_with (go_at_call 50;refine (hx _).mono ?_;clear hx;rintro e w3 ⟨rfl,hw3⟩;obtain rfl:=hw3.symm)
 go_ret2
 exact ⟨rfl,HB.out⟩
set_option maxRecDepth 20000 in
theorem rExport_any (cs:List Value) (N:Nat→Nat) (B:Nat→Nat→Nat) (lB:∀ i j,B i j<256) (l:List Nat) (hl:∀ x,x∈l→x<256) (v:Value) (m:Nat) (b:Nat→Nat) (lb:∀ j,b j<256) (hN:N 2<140737488355000) (hm:m<140737488355000) (n:Int) (E:Int) (Q1:Value→World→Prop) (hll:l.length≤65528)
 (h1:∀ W u y,BytesIn W u 32 (exN (N 2) (B 2) l 0 lZ 32)→BytesIn W y 32 (smN m b)→Calls Tryz.prog 50 #[u,.string (strL lXpd),y,.int .i64 n] W fun e w'=>∃ x m c,e = .returned (.tuple #[.slice x m c,.int .i64 E])∧Q1 (.slice x m c) w'∧Below W.heap.size W w')
 (w:World) (hs:TxRow w cs 11 N B) (hv:BytesIn w v m b) :
 Calls Tryz.prog 25 #[.agg cs.toArray,.string (strL l),v,.int .i64 n] w fun e w'=>∃ x m c,e = .returned (.tuple #[.slice x m c,.int .i64 E])∧Q1 (.slice x m c) w'∧Below w.heap.size w w':=by
 obtain ⟨hlen,hcs⟩:=hs
 obtain ⟨v0,v1,v2,v3,v4,v5,v6,v7,v8,v9,v10,rfl⟩:∃ v0 v1 v2 v3 v4 v5 v6 v7 v8 v9 v10,cs=[v0,v1,v2,v3,v4,v5,v6,v7,v8,v9,v10]:=by
  match cs,hlen with
  | [v0,v1,v2,v3,v4,v5,v6,v7,v8,v9,v10],_=>exact ⟨_,_,_,_,_,_,_,_,_,_,_,rfl⟩
 have h2:=hcs 2 v2 rfl
 clear hcs hlen
 have b1:Below w.heap.size w (w.alloc (.cells #[v0,v1,v2,v3,v4,v5,v6,v7,v8,v9,v10] 48)):=(Below.refl _ _).alloc (Nat.le_refl _) _
 have hx:=rExpand_good5 l hl hll v2 (.slice none 0 0) (N 2) 0 (B 2) lZ (lB 2) (fun _=>by show 0<256;decide) hN (by decide) 32 (by decide) _ (h2.keep b1) (nil_bytes _ lZ)
 have hsm:=fun (W:World) (hb:Below w.heap.size w W)=>rSm_any v m b lb hm W (hv.keep hb)
 replace h1:∀ W u y,BytesIn W u 32 (exN (N 2) (B 2) l 0 lZ 32)→BytesIn W y 32 (smN m b)→Calls Tryz.prog 50 #[u,.string { data:=#[101,120,112,111,114,116,101,100] },y,.int .i64 n] W fun e w'=>∃ x m c,e = .returned (.tuple #[.slice x m c,.int .i64 E])∧Q1 (.slice x m c) w'∧Below W.heap.size W w':=h1
 obtain ⟨SL,hSL⟩:∃ S,S=strL l:=⟨_,rfl⟩
 obtain ⟨F,hF⟩:∃ F,F=smN m b:=⟨_,rfl⟩
 obtain ⟨G,hG⟩:∃ F,F=exN (N 2) (B 2) l 0 lZ 32:=⟨_,rfl⟩
 rw [←hSL] at hx ⊢
 rw [←hG] at hx h1
 rw [←hF] at hsm h1
 replace hx:Calls Tryz.prog 50 #[v2,.string SL,.slice none 0 0,.int .i64 32] _ _:=hx
 have HB:=Hid.mk' b1
 have hiv:=hv.isSl
 have hi2:=h2.isSl
 clear hSL hF hG hv h2 b1 lB hl lb hN hm hll
 obtain ⟨xv,nv,cv,rfl⟩:=hiv
 obtain ⟨x2,n2,c2,rfl⟩:=hi2
 go_enter Tryz.func25,Tryz.ntmps25
 go_wp2_with (first
  | (go_at_call 50;refine hx.mono ?_;clear hx;rintro e w3 ⟨s3,rfl,G3,hb3⟩;(obtain ⟨x3,c3,e3,-⟩:=G3.src);subst e3;have b3:=below_next HB.out hb3;have hs3:=hsm w3 b3;clear hsm HB)
  | (go_at_call 61;refine hs3.mono ?_;clear hs3;rintro e w4 ⟨x4,c4,rfl,F4,hb4⟩;have b4:=below_next b3 hb4;have h14:=h1 w4 _ _ (G3.keep hb4) F4;clear h1)
  | (go_at_call 50;refine h14.mono ?_;clear h14;rintro e w5 ⟨x5,m5,c5,rfl,q5,hb5⟩))
 go_ret2
 exact ⟨_,_,_,rfl,q5,below_next b4 hb5⟩
end Go.Proofs.YtibmlmmoifgliaaGreatDoor
