/- What the proof stands on: D1BR, V6G, V6P. -/
import Derived.Test.YtibmlmmoifgliaaGreatDoorD1CCM
import Derived.Test.YtibmlmmoifgliaaGreatDoorD1CDM
import Derived.Test.YtibmlmmoifgliaaGreatDoorD1RLM
import Derived.Test.YtibmlmmoifgliaaGreatDoorQAppM
import Derived.Test.YtibmlmmoifgliaaGreatDoorV6EM
namespace Go.Proofs.YtibmlmmoifgliaaGreatDoor
open Go.RowKit
structure SameIn (lo hi:Nat) (w w':World):Prop where
 size:w.heap.size≤w'.heap.size
 block:∀ k,lo≤k→k<hi→w'.heap[k]? = w.heap[k]?
theorem SameIn.cell {lo hi:Nat} {w w':World} (h:SameIn lo hi w w') {k o:Nat} (h1:lo≤k) (h2:k<hi):w'.cell? ⟨k,o,none⟩=w.cell? ⟨k,o,none⟩:=World.cell?_of_block (w:=w) (h.block k h1 h2)
theorem SameIn.frozen {lo hi:Nat} {w w':World} (h:SameIn lo hi w w') {k o:Nat} (h1:lo≤k) (h2:k<hi):w'.frozen? ⟨k,o,none⟩=w.frozen? ⟨k,o,none⟩:=World.frozen?_of_block (w:=w) (h.block k h1 h2)
theorem SameIn.of_below {lo hi M:Nat} {w w':World} (h:Below M w w') (hM:hi≤M):SameIn lo hi w w':=⟨h.size,fun k _ h2=>h.block k (by omega)⟩
theorem SameIn.of_out {lo hi b o n:Nat} {w w':World} (h:Out b o n w w') (hb:b<lo∨hi≤b) (hh:hi≤w.heap.size):SameIn lo hi w w':=⟨h.size,fun k h1 h2=>h.block k (by omega) (by omega)⟩
theorem RW.same {lo hi:Nat} {w w':World} (s:SameIn lo hi w w') {g:Nat} {vs:List Value} (r:RW w g 0 vs) (h1:lo≤g) (h2:g<hi):RW w' g 0 vs :=
 ⟨fun j v hv=>(s.cell h1 h2).trans (r.range j v hv),fun j hj=>by rw [s.cell h1 h2,s.frozen h1 h2];exact r.there j hj,Nat.lt_of_lt_of_le r.lt s.size⟩
theorem RdC.same {lo hi:Nat} {w w':World} {g L:Nat} {B:Nat→Nat} {r:Rd} (h:RdC lo hi w g L B r) (s:SameIn lo hi w w'):RdC lo hi w' g L B r:=by
 obtain ⟨v,rr,hv,ha,hg,hh⟩:=h
 exact ⟨v,RW.same s rr hg.1 hg.2,BI.same hv fun b o z h1 h2 hc=>(s.cell h1 h2).trans hc,ha,hg,Nat.le_trans hh s.size⟩
def RdB (lo hi:Nat) (w:World) (g L:Nat) (B:Nat→Nat) (r:Rd):Prop:=∃ v,RW w g 0 [v,.int .i64 (r.at_:Int),.int .i64 r.e]∧BI lo hi w v L B∧r.at_≤L∧(lo≤g∧g<hi)∧hi≤w.heap.size
theorem RdB.same {lo hi:Nat} {w w':World} {g L:Nat} {B:Nat→Nat} {r:Rd} (h:RdB lo hi w g L B r) (s:SameIn lo hi w w'):RdB lo hi w' g L B r:=by
 obtain ⟨v,rr,hv,ha,hg,hh⟩:=h
 exact ⟨v,RW.same s rr hg.1 hg.2,BI.same hv fun b o z h1 h2 hc=>(s.cell h1 h2).trans hc,ha,hg,Nat.le_trans hh s.size⟩
theorem RdB.size {lo hi:Nat} {w:World} {g L:Nat} {B:Nat→Nat} {r:Rd} (h:RdB lo hi w g L B r):hi≤w.heap.size:=h.choose_spec.2.2.2.2
theorem RdB.ge {lo hi:Nat} {w:World} {g L:Nat} {B:Nat→Nat} {r:Rd} (h:RdB lo hi w g L B r):lo≤g:=h.choose_spec.2.2.2.1.1
theorem RdB.lt {lo hi:Nat} {w:World} {g L:Nat} {B:Nat→Nat} {r:Rd} (h:RdB lo hi w g L B r):g<hi:=h.choose_spec.2.2.2.1.2
theorem RdB.of {lo hi:Nat} {w:World} {g L:Nat} {B:Nat→Nat} {r:Rd} (h:RdB lo hi w g L B r):RdR w g L B r:=by
 obtain ⟨v,rr,hv,ha,hg,hh⟩:=h
 exact ⟨v,rr,hv.of hh,ha⟩
theorem RdB.turn {lo hi:Nat} {w w':World} {g L:Nat} {B:Nat→Nat} {r r':Rd} (h:RdB lo hi w g L B r) (h':RdR w' g L B r') (o:Out g 1 2 w w'):RdB lo hi w' g L B r':=by
 obtain ⟨v,rr,hv,ha,hg,hh⟩:=h
 obtain ⟨v',rr',-,ha'⟩:=h'
 have e0:w'.cell? ⟨g,0,none⟩=some v:=(o.cell 0 (by omega)).trans (rr.range 0 _ rfl)
 have e1:w'.cell? ⟨g,0,none⟩=some v':=rr'.range 0 _ rfl
 obtain rfl:v=v':=Option.some.inj (e0.symm.trans e1)
 refine ⟨v,rr',BI.same hv fun b p z h1 h2 hc => ?_,ha',hg,Nat.le_trans hh o.size⟩
 by_cases e:b=g
 · subst e
   by_cases e2:p=1∨p=2
   · have c1:w.cell? ⟨b,1,none⟩=some (.int .i64 (r.at_:Int)):=rr.range 1 _ rfl
     have c2:w.cell? ⟨b,2,none⟩=some (.int .i64 r.e):=rr.range 2 _ rfl
     rcases e2 with rfl | rfl
     · rw [c1] at hc;cases hc
     · rw [c2] at hc;cases hc
   · exact (o.cell p (by omega)).trans hc
 · exact (o.cell' (by omega) e).trans hc
set_option maxRecDepth 20000 in
set_option maxHeartbeats 2000000 in
theorem rNewB_any (v:Value) (n:Nat) (b:Nat→Nat) (hn:n<140737488355000) (w:World) (hv:BytesIn w v n b):Calls Tryz.prog 43 #[v] w fun e w'=>∃ g,e = .returned (.pointer (some ⟨g,0,none⟩))∧RdB w.heap.size w'.heap.size w' g n b ⟨0,0⟩∧Below w.heap.size w w':=by
 obtain ⟨x1,c1,rfl,hxn,-,hsrc⟩:=hv.src
 have hsu:=hsrc _ ((Below.refl w.heap.size w).alloc (Nat.le_refl _) (.cells #[] 5))
 clear hv hsrc
 go_enter Tryz.func43,Tryz.ntmps43
 go_wp2_with (at_builtin;refine wpList_append_empty rfl (.tmp 3) (.tmp 4) rfl w.heap.size b w.heap.size rfl rfl x1 n c1 rfl hsu hxn (by omega) (Nat.le_refl _) ?_;intro v3 w3 own3 hb3;(obtain ⟨y3,d3,e3⟩:=own3.slice);subst e3)
 go_ret
 have hb:=(Below.refl w3.heap.size w3).alloc (Nat.le_refl _) (.cells #[.slice y3 n d3,.int .i64 0,.int .i64 0] 105)
 exact ⟨w3.heap.size,rfl,⟨_,RW.fresh w3 [_,_,_] _,(BI.own own3).below hb (Nat.le_refl _) |>.wide (Nat.le_refl _) hb.size,Nat.zero_le _,⟨hb3.size,by simp⟩,Nat.le_refl _⟩,below_next hb3 hb⟩
theorem rNumB_any (lo hi g L:Nat) (B:Nat→Nat) (lB:∀ j,B j<256) (r:Rd) (s:Int) (hL:L<140737488355000) (w:World) (h:RdB lo hi w g L B r):Calls Tryz.prog 44 #[.pointer (some ⟨g,0,none⟩),.int .i64 s] w fun e w'=>e = .returned (.int .i64 (((numD L B s r).1:Nat):Int))∧RdB lo hi w' g L B (numD L B s r).2∧Out g 1 2 w w' :=
 (rNumR_any g L B lB r s hL w h.of).mono fun _ _ ⟨h1,h2,h3⟩=>⟨h1,h.turn h2 h3,h3⟩
theorem rVecB_any (lo hi g L:Nat) (B:Nat→Nat) (lB:∀ j,B j<256) (r:Rd) (hL:L<140737488355000) (w:World) (h:RdB lo hi w g L B r):Calls Tryz.prog 45 #[.pointer (some ⟨g,0,none⟩)] w fun e w'=>∃ v,e = .returned v∧Own w.heap.size w' v (vecD L B r).1 (fun j=>B ((lenD L B r).2.at_+j))∧RdB lo hi w' g L B (vecD L B r).2∧Out g 1 2 w w' :=
 (rVecR_any g L B lB r hL w h.of).mono fun _ _ ⟨v,h1,h2,h3,h4⟩=>⟨v,h1,h2,h.turn h3 h4,h4⟩
structure Two (m lo hi hj:Nat) (w:World) (g k L:Nat) (B:Nat→Nat) (r:Rd):Prop where
 code:RdC lo hi w g L B r
 ref:RdB hi hj w k L B r
 low:m≤lo
theorem Two.same {m lo hi hj:Nat} {w w':World} {g k L:Nat} {B:Nat→Nat} {r:Rd} (h:Two m lo hi hj w g k L B r) (s:SameIn lo hj w w'):Two m lo hi hj w' g k L B r :=
 ⟨h.code.same ⟨s.size,fun c h1 h2=>s.block c h1 (Nat.lt_of_lt_of_le h2 (Nat.le_of_lt (Nat.lt_of_le_of_lt h.ref.ge h.ref.lt)))⟩,h.ref.same ⟨s.size,fun c h1 h2=>s.block c (Nat.le_trans (Nat.le_of_lt (Nat.lt_of_le_of_lt h.code.ge h.code.choose_spec.2.2.2.1.2)) h1) h2⟩,h.low⟩
theorem Two.still {m lo hi hj:Nat} {w w':World} {g k L:Nat} {B:Nat→Nat} {r:Rd} (h:Two m lo hi hj w g k L B r) (hb:Below w.heap.size w w'):Two m lo hi hj w' g k L B r:=h.same (SameIn.of_below hb h.ref.size)
theorem Two.whole {m lo hi hj:Nat} {w w':World} {g k L:Nat} {B:Nat→Nat} {r:Rd} (hl:m≤lo) (h:RdC lo hi w g L B r) (h':RdB hi hj w' k L B r) (o:Out k 1 2 w w'):Two m lo hi hj w' g k L B r∧Below m w w' :=
 ⟨⟨h.same (SameIn.of_out o (.inr h'.ge) h.size),h',hl⟩,o.below (Nat.le_trans (Nat.le_trans hl h.ge) (Nat.le_trans (Nat.le_of_lt h.choose_spec.2.2.2.1.2) h'.ge)) (Nat.le_trans (Nat.le_trans hl h.ge) (Nat.le_of_lt h.lt))⟩
end Go.Proofs.YtibmlmmoifgliaaGreatDoor
namespace Go.Proofs.YtibmlmmoifgliaaGreatDoor
open Go.RowKit
def gcT (L:Nat) (B:Nat→Nat) (r:Rd):Nat→Rd
 | 0=>r
 | 1=>(vecD L B r).2
 | 2=>(numD L B 8 (vecD L B r).2).2
 | 3=>(vecD L B (numD L B 8 (vecD L B r).2).2).2
 | 4=>(vecD L B (vecD L B (numD L B 8 (vecD L B r).2).2).2).2
 | _=>(vecD L B (vecD L B (vecD L B (numD L B 8 (vecD L B r).2).2).2).2).2
def gcX (L:Nat) (B:Nat→Nat) (r:Rd):CxD:=⟨(vecD L B r).1,fun j=>B ((lenD L B r).2.at_+j),(((numD L B 8 (gcT L B r 1)).1:Nat):Int),(vecD L B (gcT L B r 2)).1,fun j=>B ((lenD L B (gcT L B r 2)).2.at_+j),(vecD L B (gcT L B r 3)).1,fun j=>B ((lenD L B (gcT L B r 3)).2.at_+j)⟩
def gcE (L:Nat) (B:Nat→Nat) (r:Rd):Bool:=decide (endD L (gcT L B r 5)=0) && (decide ((vecD L B (gcT L B r 4)).1=0) && cxOk (gcX L B r))
def gcH (L:Nat) (B:Nat→Nat):Rd:=(numD L B 2 (numD L B 2 ⟨0,0⟩).2).2
def gcK (L:Nat) (B:Nat→Nat):Bool:=decide ((numD L B 2 ⟨0,0⟩).1=1) && decide ((numD L B 2 (numD L B 2 ⟨0,0⟩).2).1=1)
def gcD (L:Nat) (B:Nat→Nat):CxD:=gcX L B (gcH L B)
def gcOk (L:Nat) (B:Nat→Nat):Bool:=gcK L B && gcE L B (gcH L B)
theorem RdC.two {lo hi:Nat} {w:World} {g L:Nat} {B:Nat→Nat} {r:Rd} (h:RdC lo hi w g L B r):∀ i,i<2→∃ u,w.cell? ⟨g,i,none⟩=some u∧∀ z,u ≠ .int .u8 z:=by
 obtain ⟨v,⟨c0,-⟩,⟨c1,-⟩,-,hv⟩:=h.cells
 intro i hi
 match i,hi with
 | 0,_ =>
  refine ⟨_,c0,fun z e => ?_⟩
  rcases hv with ⟨x,rfl,_⟩ | ⟨bb,ob,cap,rfl,_⟩
  · cases e
  · cases e
 | 1,_=>exact ⟨_,c1,fun z e=>by cases e⟩
theorem RdC.putC {lo hi:Nat} {w:World} {g L:Nat} {B:Nat→Nat} {r:Rd} (h:RdC lo hi w g L B r) {c:Nat} (hc:c<lo) (o:Nat) (v:Value):RdC lo hi (w.setCell ⟨c,o,none⟩ v) g L B r :=
 h.same (SameIn.of_out (Out.setCell (n:=1) w v (Nat.le_refl o) (Nat.lt_succ_self o)) (.inl hc) h.size)
abbrev z4C:List Value:=[.slice none 0 0,.int .i64 0,.slice none 0 0,.slice none 0 0]
theorem zCx (w:World):Sem.run Tryz.prog (zeroValue 26) w = .ok (.agg z4C.toArray) w:=by kernel_rfl
theorem one4 {a b c:Value} {e:Int} (h1:∃ x n k,a = .slice x n k) (h2:∃ x n k,b = .slice x n k) (h3:∃ x n k,c = .slice x n k):[a,.int .i64 e,b,c].toArray.all (·.oneCell')=true:=by
 obtain ⟨_,_,_,rfl⟩:=h1
 obtain ⟨_,_,_,rfl⟩:=h2
 obtain ⟨_,_,_,rfl⟩:=h3
 simp [Value.oneCell']
theorem stCx {ops:Array Oper} {rest:List Oper} {op:Oper} {a:Act} {w:World} {Q:Exit→Act→World→Prop} (x y:Operand) (ho:op.op = .store 26 x y) {g:Nat} {c0 c1 c2 c3 d0 d1 d2 d3:Value} (hx:a.eval x = .pointer (some ⟨g,0,none⟩)) (hy:a.eval y = .agg #[d0,d1,d2,d3]) (r:RW w g 0 [c0,c1,c2,c3]) (h1:#[d0,d1,d2,d3].all (·.oneCell')=true)
 (h:wpList Tryz.prog ops Q rest (a.put op.dst undef) (w.setCells g 0 [d0,d1,d2,d3])) (hgd:op.guard=none):wpList Tryz.prog ops Q (op :: rest) a w :=
 wpList_store_mid hgd 26 x y ho g 0 #[d0,d1,d2,d3] hx hy r.there (infoCx _ _ _ _) h1 h
structure GcS (w W:World) (lo hi g L:Nat) (B:Nat→Nat) (p:Rd) (vs:List Value):Prop where
 rd:RdC lo hi W g L B p
 kc:RW W (w.heap.size+1) 0 vs
 kr:RW W w.heap.size 0 z4C
 hb:Below w.heap.size w W
 low:w.heap.size+2≤lo
theorem GcS.turn {w W W':World} {lo hi g L:Nat} {B:Nat→Nat} {p p':Rd} {vs:List Value} (h:GcS w W lo hi g L B p vs) (o:Out g 0 2 W W') (r:RdC lo hi W' g L B p'):GcS w W' lo hi g L B p' vs:=by
 have hg:=h.rd.ge
 have hl:=h.low
 exact ⟨r,h.kc.out o (by omega),h.kr.out o (by omega),h.hb.trans (o.below (by omega) h.hb.size),h.low⟩
theorem GcS.put {w W:World} {lo hi g L:Nat} {B:Nat→Nat} {p:Rd} {vs:List Value} (h:GcS w W lo hi g L B p vs) (i:Nat) (hiv:i<vs.length) (v:Value):GcS w (W.setCell ⟨w.heap.size+1,i,none⟩ v) lo hi g L B p (vs.set i v):=by
 have hl:=h.low
 exact ⟨h.rd.putC (by omega) _ _,h.kc.put i hiv v,h.kr.far (w.heap.size+1) i [v] (.inl (by omega)),h.hb.setCell (show w.heap.size≤(⟨w.heap.size+1,i,none⟩:Addr).block from Nat.le_succ _) v,h.low⟩
theorem GcS.cell {w W:World} {lo hi g L:Nat} {B:Nat→Nat} {p:Rd} {vs:List Value} (h:GcS w W lo hi g L B p vs) (i:Nat) (v:Value) (hv:vs[i]? = some v):W.cell? ⟨w.heap.size+1,i,none⟩=some v∧W.frozen? ⟨w.heap.size+1,i,none⟩=false:=by
 have h1:=h.kc.range i v hv
 have h2:=(h.kc.there i (List.getElem?_eq_some_iff.1 hv).1).2
 rw [Nat.zero_add] at h1 h2
 exact ⟨h1,h2⟩
set_option maxRecDepth 20000 in
set_option maxHeartbeats 8000000 in
theorem getCtx_any (v:Value) (L:Nat) (B:Nat→Nat) (lB:∀ j,B j<256) (hL:L<140737488355000) (w:World) (hv:BytesIn w v L B) :
 Calls Tryz.prog 10 #[v] w fun e w'=>((gcOk L B=true∧∃ cs:List Value,e = .returned (.tuple #[.agg cs.toArray,.int .i64 0])∧CxIn w' cs (gcD L B))∨(gcOk L B=false∧e = .returned (.tuple #[.agg z4C.toArray,.int .i64 21])))∧Below w.heap.size w w':=by
 have cN:=fun (W:World) (hb:Below w.heap.size w W)=>cNew_any v L B hL W (hv.keep hb)
 have c1:=fun (lo hi g:Nat) (W:World) (h:RdC lo hi W g L B ⟨0,0⟩)=>cNumR_any lo hi g L B lB ⟨0,0⟩ 2 W h
 have c2:=fun (lo hi g:Nat) (W:World) (h:RdC lo hi W g L B (numD L B 2 ⟨0,0⟩).2)=>cNumR_any lo hi g L B lB _ 2 W h
 have c3:=fun (lo hi g:Nat) (W:World) (h:RdC lo hi W g L B (gcH L B))=>cVecR_any lo hi g L B lB _ hL W h
 have c4:=fun (lo hi g:Nat) (W:World) (h:RdC lo hi W g L B (gcT L B (gcH L B) 1))=>cNumR_any lo hi g L B lB _ 8 W h
 have c5:=fun (lo hi g:Nat) (W:World) (h:RdC lo hi W g L B (gcT L B (gcH L B) 2))=>cVecR_any lo hi g L B lB _ hL W h
 have c6:=fun (lo hi g:Nat) (W:World) (h:RdC lo hi W g L B (gcT L B (gcH L B) 3))=>cVecR_any lo hi g L B lB _ hL W h
 have c7:=fun (lo hi g:Nat) (W:World) (h:RdC lo hi W g L B (gcT L B (gcH L B) 4))=>cVecR_any lo hi g L B lB _ hL W h
 have c8:=fun (lo hi g:Nat) (W:World) (h:RdC lo hi W g L B (gcT L B (gcH L B) 5))=>cEnd_any lo hi g L B _ W h
 have cm:=fun (cs:List Value) (W:World) (h:CxIn W cs (gcD L B))=>mayBe_any cs (gcD L B) W h
 have hOk:gcOk L B=(decide ((numD L B 2 ⟨0,0⟩).1=1) && decide ((numD L B 2 (numD L B 2 ⟨0,0⟩).2).1=1) && (decide (endD L (gcT L B (gcH L B) 5)=0) && (decide ((vecD L B (gcT L B (gcH L B) 4)).1=0) && cxOk (gcD L B)))):=rfl
 have hcx:=fun (W:World) (a b c:Value) (g0:BytesIn W a (vecD L B (gcH L B)).1 (fun j=>B ((lenD L B (gcH L B)).2.at_+j))) (g1:BytesIn W b (vecD L B (gcT L B (gcH L B) 2)).1 (fun j=>B ((lenD L B (gcT L B (gcH L B) 2)).2.at_+j))) (g2:BytesIn W c (vecD L B (gcT L B (gcH L B) 3)).1 (fun j=>B ((lenD L B (gcT L B (gcH L B) 3)).2.at_+j))) =>
  (⟨a,b,c,rfl,g0,g1,g2⟩:CxIn W [a,.int .i64 (((numD L B 8 (gcT L B (gcH L B) 1)).1:Nat):Int),b,c] (gcD L B))
 obtain ⟨OK,hOK⟩:∃ X,X=gcOk L B:=⟨_,rfl⟩
 obtain ⟨CO,hCO⟩:∃ X,X=cxOk (gcD L B):=⟨_,rfl⟩
 obtain ⟨D,hD⟩:∃ X,X=gcD L B:=⟨_,rfl⟩
 rw [←hOK,←hCO] at hOk
 rw [←hOK,←hD]
 rw [←hCO,←hD] at cm
 rw [←hD] at hcx
 replace c2:∀ (lo hi g:Nat) (W:World),RdC lo hi W g L B (numD L B 2 ⟨0,0⟩).2→Calls Tryz.prog 40 #[.pointer (some ⟨g,0,none⟩),.int .i64 2] W fun e w'=>e = .returned (.int .i64 (((numD L B 2 (numD L B 2 ⟨0,0⟩).2).1:Nat):Int))∧RdC lo hi w' g L B (gcH L B)∧Out g 0 2 W w':=c2
 replace c3:∀ (lo hi g:Nat) (W:World),RdC lo hi W g L B (gcH L B)→Calls Tryz.prog 41 #[.pointer (some ⟨g,0,none⟩)] W fun e w'=>∃ v,e = .returned v∧Own W.heap.size w' v (vecD L B (gcH L B)).1 (fun j=>B ((lenD L B (gcH L B)).2.at_+j))∧RdC lo hi w' g L B (gcT L B (gcH L B) 1)∧Out g 0 2 W w':=c3
 replace c4:∀ (lo hi g:Nat) (W:World),RdC lo hi W g L B (gcT L B (gcH L B) 1)→Calls Tryz.prog 40 #[.pointer (some ⟨g,0,none⟩),.int .i64 8] W fun e w'=>e = .returned (.int .i64 (((numD L B 8 (gcT L B (gcH L B) 1)).1:Nat):Int))∧RdC lo hi w' g L B (gcT L B (gcH L B) 2)∧Out g 0 2 W w':=c4
 replace c5:∀ (lo hi g:Nat) (W:World),RdC lo hi W g L B (gcT L B (gcH L B) 2)→Calls Tryz.prog 41 #[.pointer (some ⟨g,0,none⟩)] W fun e w'=>∃ v,e = .returned v∧Own W.heap.size w' v (vecD L B (gcT L B (gcH L B) 2)).1 (fun j=>B ((lenD L B (gcT L B (gcH L B) 2)).2.at_+j))∧RdC lo hi w' g L B (gcT L B (gcH L B) 3)∧Out g 0 2 W w':=c5
 replace c6:∀ (lo hi g:Nat) (W:World),RdC lo hi W g L B (gcT L B (gcH L B) 3)→Calls Tryz.prog 41 #[.pointer (some ⟨g,0,none⟩)] W fun e w'=>∃ v,e = .returned v∧Own W.heap.size w' v (vecD L B (gcT L B (gcH L B) 3)).1 (fun j=>B ((lenD L B (gcT L B (gcH L B) 3)).2.at_+j))∧RdC lo hi w' g L B (gcT L B (gcH L B) 4)∧Out g 0 2 W w':=c6
 replace c7:∀ (lo hi g:Nat) (W:World),RdC lo hi W g L B (gcT L B (gcH L B) 4)→Calls Tryz.prog 41 #[.pointer (some ⟨g,0,none⟩)] W fun e w'=>∃ v,e = .returned v∧Own W.heap.size w' v (vecD L B (gcT L B (gcH L B) 4)).1 (fun j=>B ((lenD L B (gcT L B (gcH L B) 4)).2.at_+j))∧RdC lo hi w' g L B (gcT L B (gcH L B) 5)∧Out g 0 2 W w':=c7
 generalize endD L (gcT L B (gcH L B) 5)=EE at *
 generalize gcT L B (gcH L B) 5=p7 at *
 generalize (vecD L B (gcT L B (gcH L B) 4)).1=n4 at *
 generalize (fun j=>B ((lenD L B (gcT L B (gcH L B) 4)).2.at_+j))=b4 at *
 generalize gcT L B (gcH L B) 4=p6 at *
 generalize (vecD L B (gcT L B (gcH L B) 3)).1=n3 at *
 generalize (fun j=>B ((lenD L B (gcT L B (gcH L B) 3)).2.at_+j))=b3 at *
 generalize gcT L B (gcH L B) 3=p5 at *
 generalize (vecD L B (gcT L B (gcH L B) 2)).1=n2 at *
 generalize (fun j=>B ((lenD L B (gcT L B (gcH L B) 2)).2.at_+j))=b2 at *
 generalize gcT L B (gcH L B) 2=p4 at *
 generalize (numD L B 8 (gcT L B (gcH L B) 1)).1=e8 at *
 generalize gcT L B (gcH L B) 1=p3 at *
 generalize (vecD L B (gcH L B)).1=n1 at *
 generalize (fun j=>B ((lenD L B (gcH L B)).2.at_+j))=b1 at *
 generalize gcH L B=p2 at *
 generalize (numD L B 2 (numD L B 2 ⟨0,0⟩).2).1=k2 at *
 generalize (numD L B 2 ⟨0,0⟩).2=p1 at *
 generalize (numD L B 2 ⟨0,0⟩).1=k1 at *
 have HOk:=Hid.mk' hOk
 obtain ⟨xv,cv,rfl,-⟩:=hv.src
 clear hOk hOK hCO hD hv lB hL
 replace hcx:∀ (W:World) (a b c:Value),BytesIn W a n1 b1→BytesIn W b n2 b2→BytesIn W c n3 b3→CxIn W [a,.int .i64 (e8:Int),b,c] D:=hcx
 have B1:Below w.heap.size w (w.alloc (.cells z4C.toArray 26)):=(Below.refl _ _).alloc (Nat.le_refl _) _
 have B2:=B1.alloc B1.size (.cells z4C.toArray 26)
 have k1_:=(RW.fresh w z4C 26).still ((Below.refl _ _).alloc (Nat.le_refl _) (.cells z4C.toArray 26))
 have k2_:=RW.fresh (w.alloc (.cells z4C.toArray 26)) z4C 26
 rw [World.size_alloc] at k2_
 have HB:=Hid.mk' B2
 have H1:=Hid.mk' k1_
 have H2:=Hid.mk' k2_
 have hz0:((w.alloc (.cells z4C.toArray 26)).alloc (.cells z4C.toArray 26)).heap.size=w.heap.size+2:=by rw [World.size_alloc,World.size_alloc]
 have HZ:=Hid.mk' hz0
 replace cN:=cN _ B2
 clear B1 B2 k1_ k2_ hz0
 go_enter Tryz.func10,Tryz.ntmps10
 go_upto_region 8 with (first
  | rw [zCx]
  | (go_at_call 39;refine cN.mono ?_;clear cN;rintro e w1 ⟨g,rfl,R1,hb1⟩;have S1:GcS w w1 _ _ g L B ⟨0,0⟩ z4C:=⟨R1,H2.out.still hb1,H1.out.still hb1,below_next HB.out hb1,Nat.le_of_eq HZ.out.symm⟩;clear R1 hb1 HB H1 H2 HZ)
  | (go_at_call 40;refine (c1 _ _ g w1 S1.rd).mono ?_;clear c1;rintro e w2 ⟨rfl,R2,o2⟩;have S2:=S1.turn o2 R2;clear S1 o2 R2)
  | (go_at_call 40;refine (c2 _ _ g w2 S2.rd).mono ?_;clear c2;rintro e w3 ⟨rfl,R3,o3⟩;have S3:=S2.turn o3 R3;clear S2 o3 R3)
  | (go_at_call 41;refine (c3 _ _ g w3 S3.rd).mono ?_;clear c3;rintro e w4 ⟨v4,rfl,ow4,R4,o4⟩;(obtain ⟨x1,d1,hs4⟩:=ow4.slice);subst hs4;have S4:=S3.turn o4 R4;have X4:=ow4.bytesIn;(obtain ⟨hc0,hf0⟩:=S4.cell 0 _ rfl);have S5:=S4.put 0 (by decide) (.slice x1 n1 d1);have X5:=X4.setV hc0 (fun z e=>by cases e) (.slice x1 n1 d1);clear S3 o4 R4 ow4 X4 S4)
  | (go_at_call 40;go_loud (refine (c4 _ _ g _ S5.rd).mono ?_;clear c4;rintro e w6 ⟨rfl,R6,o6⟩;have S6:=S5.turn o6 R6;have X6:=X5.outV o6 S5.rd.two;(obtain ⟨hc1,hf1⟩:=S6.cell 1 _ rfl);have S7:=S6.put 1 (show 1<4 by decide) (.int .i64 e8);have X7:=X6.setV hc1 (fun z e=>by cases e) (.int .i64 e8);clear S5 o6 R6 X5 X6 S6 hc0 hf0))
  | (go_at_call 41;refine (c5 _ _ g _ S7.rd).mono ?_;clear c5;rintro e w8 ⟨v8,rfl,ow8,R8,o8⟩;(obtain ⟨x2,d2,hs8⟩:=ow8.slice);subst hs8;have S8:=S7.turn o8 R8;have X8:=X7.outV o8 S7.rd.two;have Y8:=ow8.bytesIn;clear S7 o8 R8 X7 ow8 hc1 hf1)
  | (go_at_call 41;refine (c6 _ _ g _ S8.rd).mono ?_;clear c6;rintro e w9 ⟨v9,rfl,ow9,R9,o9⟩;(obtain ⟨x3,d3,hs9⟩:=ow9.slice);subst hs9;have S9:=S8.turn o9 R9;have X9:=X8.outV o9 S8.rd.two;have Y9:=Y8.outV o9 S8.rd.two;have Z9:=ow9.bytesIn;(obtain ⟨hc2,hf2⟩:=S9.cell 2 _ rfl);have S10:=S9.put 2 (show 2<4 by decide) (.slice x2 n2 d2);have X10:=X9.setV hc2 (fun z e=>by cases e) (.slice x2 n2 d2);have Y10:=Y9.setV hc2 (fun z e=>by cases e) (.slice x2 n2 d2);have Z10:=Z9.setV hc2 (fun z e=>by cases e) (.slice x2 n2 d2);(obtain ⟨hc3,hf3⟩:=S10.cell 3 _ rfl);have S11:=S10.put 3 (show 3<4 by decide) (.slice x3 n3 d3);have X11:=X10.setV hc3 (fun z e=>by cases e) (.slice x3 n3 d3);have Y11:=Y10.setV hc3 (fun z e=>by cases e) (.slice x3 n3 d3);have Z11:=Z10.setV hc3 (fun z e=>by cases e) (.slice x3 n3 d3);clear S8 o9 R9 X8 Y8 ow9 X9 Y9 Z9 X10 Y10 Z10 S9 S10)
  | (go_at_call 41;refine (c7 _ _ g _ S11.rd).mono ?_;clear c7;rintro e w12 ⟨v12,rfl,ow12,R12,o12⟩;(obtain ⟨x4,d4,hs12⟩:=ow12.slice);subst hs12;have S12:=S11.turn o12 R12;have X12:=X11.outV o12 S11.rd.two;have Y12:=Y11.outV o12 S11.rd.two;have Z12:=Z11.outV o12 S11.rd.two;clear S11 o12 R12 X11 Y11 Z11 ow12 hc2 hf2 hc3 hf3))
 have S:GcS w w12 _ _ g L B p7 [.slice x1 n1 d1,.int .i64 e8,.slice x2 n2 d2,.slice x3 n3 d3]:=S12
 have hC:CxIn w12 [.slice x1 n1 d1,.int .i64 e8,.slice x2 n2 d2,.slice x3 n3 d3] D:=hcx w12 _ _ _ X12 Y12 Z12
 have HKC:=Hid.mk' S.kc
 have HKR:=Hid.mk' S.kr
 have HHB:=Hid.mk' S.hb
 have c9:=c8 _ _ g w12 S.rd
 have cm1:=cm _ w12 hC
 clear c8 cm hcx S S12 X12 Y12 Z12
 have key:(EE=0∧k1=1∧k2=1∧n4=0∧CO=true∧OK=true)∨(OK=false∧(¬EE=0∨(EE=0∧¬k1=1)∨(EE=0∧k1=1∧¬k2=1)∨(EE=0∧k1=1∧k2=1∧¬n4=0)∨(EE=0∧k1=1∧k2=1∧n4=0∧CO=false))):=by
  rw [HOk.out]
  by_cases h1:EE=0
  · by_cases h2:k1=1
    · by_cases h3:k2=1
      · by_cases h4:n4=0
        · cases CO
          · exact .inr ⟨by simp,.inr (.inr (.inr (.inr ⟨h1,h2,h3,h4,rfl⟩)))⟩
          · exact .inl ⟨h1,h2,h3,h4,rfl,by simp [h1,h2,h3,h4]⟩
        · exact .inr ⟨by simp [h4],.inr (.inr (.inr (.inl ⟨h1,h2,h3,h4⟩)))⟩
      · exact .inr ⟨by simp [h3],.inr (.inr (.inl ⟨h1,h2,h3⟩))⟩
    · exact .inr ⟨by simp [h2],.inr (.inl ⟨h1,h2⟩)⟩
  · exact .inr ⟨by simp [h1],.inl h1⟩
 clear HOk
 have one:[(.slice x1 n1 d1:Value),.int .i64 e8,.slice x2 n2 d2,.slice x3 n3 d3].toArray.all (·.oneCell')=true:=one4 ⟨_,_,_,rfl⟩ ⟨_,_,_,rfl⟩ ⟨_,_,_,rfl⟩
 have zone:z4C.toArray.all (·.oneCell')=true:=by kernel_rfl
 rcases key with ⟨rfl,rfl,rfl,rfl,rfl,rfl⟩ | ⟨rfl,hk⟩
 · go_wp2_with (first
    | (go_at_call 42;refine c9.mono ?_;clear c9;rintro e w13 ⟨rfl,hw⟩;obtain rfl:=hw.symm)
    | (refine wpList_load_on (by rfl) 26 (.tmp 4) rfl (w.heap.size+1) 0 rfl [.slice x1 n1 d1,.int .i64 e8,.slice x2 n2 d2,.slice x3 n3 d3] _ HKC.out.range Tryz.underlying26 rfl (infoCx _ _ _ _) ?_)
    | (go_at_call 33;refine cm1.mono ?_;clear cm1;rintro e w14 ⟨rfl,hb14⟩;have kc:=HKC.out.still hb14;have kr:=HKR.out.still hb14;have hb:=below_next HHB.out hb14;have hC14:=hC.keep hb14;clear hC HKC HKR HHB)
    | (refine wpList_load_on (by rfl) 26 (.tmp 4) rfl (w.heap.size+1) 0 rfl [.slice x1 n1 d1,.int .i64 e8,.slice x2 n2 d2,.slice x3 n3 d3] _ kc.range Tryz.underlying26 rfl (infoCx _ _ _ _) ?_)
    | (refine stCx (.tmp 2) (.tmp 51) rfl (g:=w.heap.size) rfl rfl kr one ?_ rfl))
   have kz:=kr.stored [.slice x1 n1 d1,.int .i64 e8,.slice x2 n2 d2,.slice x3 n3 d3] rfl
   have ho:Out w.heap.size 0 4 w14 (w14.setCells w.heap.size 0 [.slice x1 n1 d1,.int .i64 e8,.slice x2 n2 d2,.slice x3 n3 d3]):=Out.setCells w14 _ (Nat.le_refl _) (Nat.le_refl _)
   have hno:∀ i,i<4→∃ u,w14.cell? ⟨w.heap.size,i,none⟩=some u∧∀ z,u ≠ .int .u8 z:=fun i hi=>by
    have hr:=kr.range
    match i,hi with
    | 0,_=>exact ⟨_,by simpa using hr 0 _ rfl,fun z e=>by cases e⟩
    | 1,_=>exact ⟨_,by simpa using hr 1 _ rfl,fun z e=>by cases e⟩
    | 2,_=>exact ⟨_,by simpa using hr 2 _ rfl,fun z e=>by cases e⟩
    | 3,_=>exact ⟨_,by simpa using hr 3 _ rfl,fun z e=>by cases e⟩
   obtain ⟨a0,a1,a2,ea,f0,f1,f2⟩:=hC14
   exact bodyPost_ret (res_cT Tryz.results10 _ _ w.heap.size 0 [.slice x1 n1 d1,.int .i64 e8,.slice x2 n2 d2,.slice x3 n3 d3] _ rfl kz.range Tryz.underlying26 rfl (infoCx _ _ _ _)) rfl ⟨⟨_,rfl,a0,a1,a2,ea,f0.outV ho hno,f1.outV ho hno,f2.outV ho hno⟩,below_setCells (Nat.le_refl _) _ 0 _ hb⟩
 · rcases hk with h1 | ⟨rfl,h2⟩ | ⟨rfl,rfl,h3⟩ | ⟨rfl,rfl,rfl,h4⟩ | ⟨rfl,rfl,rfl,rfl,rfl⟩
   · clear cm1 hC HKC
     go_wp2_with (first
      | (go_at_call 42;refine c9.mono ?_;clear c9;rintro e w13 ⟨rfl,hw⟩;obtain rfl:=hw.symm)
      | (refine stCx (.tmp 2) (.tmp 50) rfl (g:=w.heap.size) rfl rfl HKR.out zone ?_ rfl))
     have kz:=HKR.out.stored z4C rfl
     exact bodyPost_ret (res_cT Tryz.results10 _ _ w.heap.size 0 z4C _ rfl kz.range Tryz.underlying26 rfl (infoCx _ _ _ _)) rfl ⟨rfl,below_setCells (Nat.le_refl _) z4C 0 _ HHB.out⟩
   · have h2':¬(k1:Int)=1:=by omega
     clear cm1 hC HKC
     go_wp2_with (first
      | (go_at_call 42;refine c9.mono ?_;clear c9;rintro e w13 ⟨rfl,hw⟩;obtain rfl:=hw.symm)
      | (refine stCx (.tmp 2) (.tmp 50) rfl (g:=w.heap.size) rfl rfl HKR.out zone ?_ rfl))
     have kz:=HKR.out.stored z4C rfl
     exact bodyPost_ret (res_cT Tryz.results10 _ _ w.heap.size 0 z4C _ rfl kz.range Tryz.underlying26 rfl (infoCx _ _ _ _)) rfl ⟨rfl,below_setCells (Nat.le_refl _) z4C 0 _ HHB.out⟩
   · have h3':¬(k2:Int)=1:=by omega
     clear cm1 hC HKC
     go_wp2_with (first
      | (go_at_call 42;refine c9.mono ?_;clear c9;rintro e w13 ⟨rfl,hw⟩;obtain rfl:=hw.symm)
      | (refine stCx (.tmp 2) (.tmp 50) rfl (g:=w.heap.size) rfl rfl HKR.out zone ?_ rfl))
     have kz:=HKR.out.stored z4C rfl
     exact bodyPost_ret (res_cT Tryz.results10 _ _ w.heap.size 0 z4C _ rfl kz.range Tryz.underlying26 rfl (infoCx _ _ _ _)) rfl ⟨rfl,below_setCells (Nat.le_refl _) z4C 0 _ HHB.out⟩
   · have h4':¬(n4:Int)=0:=by omega
     clear cm1 hC HKC
     go_wp2_with (first
      | (go_at_call 42;refine c9.mono ?_;clear c9;rintro e w13 ⟨rfl,hw⟩;obtain rfl:=hw.symm)
      | (refine stCx (.tmp 2) (.tmp 50) rfl (g:=w.heap.size) rfl rfl HKR.out zone ?_ rfl))
     have kz:=HKR.out.stored z4C rfl
     exact bodyPost_ret (res_cT Tryz.results10 _ _ w.heap.size 0 z4C _ rfl kz.range Tryz.underlying26 rfl (infoCx _ _ _ _)) rfl ⟨rfl,below_setCells (Nat.le_refl _) z4C 0 _ HHB.out⟩
   · go_wp2_with (first
      | (go_at_call 42;refine c9.mono ?_;clear c9;rintro e w13 ⟨rfl,hw⟩;obtain rfl:=hw.symm)
      | (refine wpList_load_on (by rfl) 26 (.tmp 4) rfl (w.heap.size+1) 0 rfl [.slice x1 n1 d1,.int .i64 e8,.slice x2 n2 d2,.slice x3 n3 d3] _ HKC.out.range Tryz.underlying26 rfl (infoCx _ _ _ _) ?_)
      | (go_at_call 33;refine cm1.mono ?_;clear cm1;rintro e w14 ⟨rfl,hb14⟩;have kr:=HKR.out.still hb14;have hb:=below_next HHB.out hb14;clear hC HKC HKR HHB)
      | (refine stCx (.tmp 2) (.tmp 50) rfl (g:=w.heap.size) rfl rfl kr zone ?_ rfl))
     have kz:=kr.stored z4C rfl
     exact bodyPost_ret (res_cT Tryz.results10 _ _ w.heap.size 0 z4C _ rfl kz.range Tryz.underlying26 rfl (infoCx _ _ _ _)) rfl ⟨rfl,below_setCells (Nat.le_refl _) z4C 0 _ hb⟩
end Go.Proofs.YtibmlmmoifgliaaGreatDoor
namespace Go.Proofs.YtibmlmmoifgliaaGreatDoor
open Go.RowKit
theorem copied16_any (v:Value) (n:Nat) (b:Nat→Nat) (hn:n<140737488355000) (w:World) (hv:BytesIn w v n b):Calls Tryz.prog 32 #[v] w fun e w'=>∃ x c,e = .returned (.slice x n c)∧BytesIn w' (.slice x n c) n b∧Below w.heap.size w w':=by
 obtain ⟨x1,c1,rfl,hxn,-,hsrc⟩:=hv.src
 have hsu:=hsrc _ ((Below.refl w.heap.size w).alloc (Nat.le_refl _) (.cells #[] 5))
 clear hv hsrc
 go_enter Tryz.func32,Tryz.ntmps32
 go_wp2_with (at_builtin;refine wpList_append_empty rfl (.tmp 3) (.tmp 4) rfl w.heap.size b w.heap.size rfl rfl x1 n c1 rfl hsu hxn (by omega) (Nat.le_refl _) ?_;intro v3 w3 own3 hb3;(obtain ⟨y3,d3,e3⟩:=own3.slice);subst e3)
 go_ret
 exact ⟨_,_,rfl,own3.bytesIn,hb3⟩
theorem lawCx_any (cs:List Value) (d:CxD) (hl:d.gn<140737488355000∧d.tn<140737488355000∧d.rn<140737488355000) (w:World) (h:CxIn w cs d) :
 Calls Tryz.prog 7 #[.agg cs.toArray] w fun e w'=>∃ ds:List Value,e = .returned (.agg ds.toArray)∧CxIn w' ds d∧Below w.heap.size w w':=by
 obtain ⟨v0,v1,v2,rfl,h0,h1,h2⟩:=h
 obtain ⟨gn,gB,E,tn,tB,rn,rB⟩:=d
 obtain ⟨l0,l1,l2⟩:=hl
 dsimp only at l0 l1 l2 h0 h1 h2 ⊢
 obtain ⟨x0,c0,rfl,-⟩:=h0.src
 obtain ⟨x1,c1,rfl,-⟩:=h1.src
 obtain ⟨x2,c2,rfl,-⟩:=h2.src
 have b1:Below w.heap.size w (w.alloc (.cells #[.slice x0 gn c0,.int .i64 E,.slice x1 tn c1,.slice x2 rn c2] 24)):=(Below.refl _ _).alloc (Nat.le_refl _) _
 have k1:=RW.fresh w [.slice x0 gn c0,.int .i64 E,.slice x1 tn c1,.slice x2 rn c2] 24
 have b2:Below (w.alloc (.cells #[.slice x0 gn c0,.int .i64 E,.slice x1 tn c1,.slice x2 rn c2] 24)).heap.size _ ((w.alloc (.cells #[.slice x0 gn c0,.int .i64 E,.slice x1 tn c1,.slice x2 rn c2] 24)).alloc (.cells z4C.toArray 26)):=(Below.refl _ _).alloc (Nat.le_refl _) _
 have kz:=RW.fresh (w.alloc (.cells #[.slice x0 gn c0,.int .i64 E,.slice x1 tn c1,.slice x2 rn c2] 24)) z4C 26
 rw [World.size_alloc] at kz
 have k:=k1.still b2
 have hw:=below_next b1 b2
 replace h0:=h0.keep hw
 replace h1:=h1.keep hw
 replace h2:=h2.keep hw
 clear b1 b2 k1
 go_enter Tryz.func7,Tryz.ntmps7
 go_upto_region 1 with (rw [zCx])
 generalize (w.alloc (.cells #[.slice x0 gn c0,.int .i64 E,.slice x1 tn c1,.slice x2 rn c2] 24)).alloc (.cells z4C.toArray 26)=W0 at *
 have hdr:Below W0.heap.size W0 W0.drew:=(Below.refl _ _).drew
 replace k:=k.still hdr
 replace kz:=kz.still hdr
 replace h0:=h0.keep hdr
 replace h1:=h1.keep hdr
 replace h2:=h2.keep hdr
 replace hw:=below_next hw hdr
 clear hdr
 refine wp_last 12 (S:=fun u=>Below W0.drew.heap.size W0.drew u) (by kernel_rfl) (by kernel_rfl) (by kernel_rfl) (by kernel_rfl) (Below.refl _ _) (fun hS => ?_)
 generalize W0.drew=V at *
 refine tg 0 hS ?_
 (try simp only [pS])
 refine tc 1 hS (fun u hu=>by simpa using (k.still hu).range 0 _ rfl) ?_
 (try simp only [pS])
 refine tg 3 hS ?_
 (try simp only [pS])
 refine tc 4 hS (fun u hu=>by simpa using (k.still hu).range 1 _ rfl) ?_
 (try simp only [pS])
 refine tg 5 hS ?_
 (try simp only [pS])
 refine tc 6 hS (fun u hu=>by simpa using (k.still hu).range 2 _ rfl) ?_
 (try simp only [pS])
 refine tg 8 hS ?_
 (try simp only [pS])
 refine tc 9 hS (fun u hu=>by simpa using (k.still hu).range 3 _ rfl) ?_
 (try simp only [pS])
 refine cn 2 (copied16_any (.slice x0 gn c0) gn gB l0 V h0) ?_
 rintro e u1 ⟨y0,m0,rfl,Y0,hb⟩
 refine ⟨_,rfl,hb,?_⟩
 replace k:=k.still hb
 replace kz:=kz.still hb
 replace h0:=h0.keep hb
 replace h1:=h1.keep hb
 replace h2:=h2.keep hb
 replace hw:=below_next hw hb
 clear hS hb
 have hS:=Below.refl u1.heap.size u1
 (try simp only [pS])
 refine cn 7 (copied16_any (.slice x1 tn c1) tn tB l1 u1 h1) ?_
 rintro e u2 ⟨y1,m1,rfl,Y1,hb⟩
 refine ⟨_,rfl,hb,?_⟩
 replace k:=k.still hb
 replace kz:=kz.still hb
 replace h0:=h0.keep hb
 replace h1:=h1.keep hb
 replace h2:=h2.keep hb
 replace Y0:=Y0.keep hb
 replace hw:=below_next hw hb
 clear hS hb
 have hS:=Below.refl u2.heap.size u2
 (try simp only [pS])
 refine cn 10 (copied16_any (.slice x2 rn c2) rn rB l2 u2 h2) ?_
 rintro e u3 ⟨y2,m2,rfl,Y2,hb⟩
 refine ⟨_,rfl,hb,?_⟩
 replace k:=k.still hb
 replace kz:=kz.still hb
 replace h0:=h0.keep hb
 replace h1:=h1.keep hb
 replace h2:=h2.keep hb
 replace Y0:=Y0.keep hb
 replace Y1:=Y1.keep hb
 replace hw:=below_next hw hb
 clear hS hb
 have hS:=Below.refl u3.heap.size u3
 (try simp only [pS])
 refine tg 11 hS ?_
 (try simp only [pS])
 refine wpAnyH_done (by kernel_rfl) ?_ _
 refine lastRow 12 26 2 14 [.slice y0 gn m0,.int .i64 E,.slice y1 tn m1,.slice y2 rn m2] kz rfl (infoCx _ _ _ _) (one4 ⟨_,_,_,rfl⟩ ⟨_,_,_,rfl⟩ ⟨_,_,_,rfl⟩) (fun rz => ?_)
 refine NoPanic.normal ?_
 go_wp2
 have ho:Out (w.heap.size+1) 0 4 u3 (u3.setCells (w.heap.size+1) 0 [.slice y0 gn m0,.int .i64 E,.slice y1 tn m1,.slice y2 rn m2]):=Out.setCells u3 _ (Nat.le_refl _) (Nat.le_refl _)
 have hno:∀ i,i<4→∃ u,u3.cell? ⟨w.heap.size+1,i,none⟩=some u∧∀ z,u ≠ .int .u8 z:=fun i hi=>by
  have hr:=kz.range
  match i,hi with
  | 0,_=>exact ⟨_,by simpa using hr 0 _ rfl,fun z e=>by cases e⟩
  | 1,_=>exact ⟨_,by simpa using hr 1 _ rfl,fun z e=>by cases e⟩
  | 2,_=>exact ⟨_,by simpa using hr 2 _ rfl,fun z e=>by cases e⟩
  | 3,_=>exact ⟨_,by simpa using hr 3 _ rfl,fun z e=>by cases e⟩
 exact bodyPost_ret (results_cell_mid Tryz.results7 _ _ (w.heap.size+1) 0 [.slice y0 gn m0,.int .i64 E,.slice y1 tn m1,.slice y2 rn m2] _ rfl rz.range Tryz.underlying26 rfl (infoCx _ _ _ _)) rfl ⟨_,rfl,⟨_,_,_,rfl,Y0.outV ho hno,Y1.outV ho hno,Y2.outV ho hno⟩,below_setCells (Nat.le_succ _) _ 0 _ hw⟩
end Go.Proofs.YtibmlmmoifgliaaGreatDoor
