/- What the proof stands on: ZAb2, IRow, Words, ICar. -/
import Derived.Test.YtcgkajlehdgpoaaGreatDoorLentM
namespace Go.Proofs.YtcgkajlehdgpoaaGreatDoor
open Go.RowKit
abbrev jD (n:Nat):Edge:={ on:=n,ground:=Ground.data }
abbrev jC (n:Nat):Edge:={ on:=n,ground:=Ground.chain }
abbrev jP (n:Nat):Edge:={ on:=n,ground:=Ground.phase }
abbrev jT (n:Nat):Edge:={ on:=n,ground:=Ground.textOnly Departure.lateStores }
abbrev jO (n:Nat):Edge:={ on:=n,ground:=Ground.gcOnly Departure.lateStores }
abbrev jU (n:Nat):Edge:={ on:=n,ground:=Ground.textOnly Departure.lateStoresUnsure }
abbrev oN (d:Nat) (o:Op) (t:TypeId) (p:String) (a:Array Edge):Oper:={ dst:=some d,op:=o,type:=t,pos:=p,after:=a,guard:=none }
abbrev oS (o:Op) (p:String) (a:Array Edge):Oper:={ dst:=none,op:=o,type:=0,pos:=p,after:=a,guard:=none }
abbrev cF1 (f:FuncId) (a:Array Operand) (t:Array TypeId):Op:=Op.call { callee:=Callee.value (Operand.func f),args:=a,argTypes:=t }
abbrev oT (k:Nat):Operand:=Operand.tmp k
abbrev pA (g o:Nat):Value := .pointer (some ⟨g,o,none⟩)
theorem pS:(∀ (a:Act) (d:Nat) (v:Value),a.put (some d) v={ a with tmps:=a.tmps.setIfInBounds d v })∧(∀ (l:List Value) (i:Nat) (v:Value),l.toArray.setIfInBounds i v=(l.set i v).toArray)∧(∀ (x:Value) (l:List Value) (v:Value),(x :: l).set 0 v=v :: l)∧(∀ (x:Value) (l:List Value) (n:Nat) (v:Value),(x :: l).set (n+1) v=x :: l.set n v) :=
 ⟨fun _ _ _=>rfl,fun _ _ _=>List.setIfInBounds_toArray ..,fun _ _ _=>rfl,fun _ _ _ _=>rfl⟩
section
variable {P:Program} {md:Region.Mode} {ops:Array Oper} {Q:Exit→Act→World→Prop} {S:World→Prop} {fuel:Nat} {listed:Array Bool} {a:Act} {w:World}
theorem tkH (i:Nat) (oi:Oper) (v:Value) (hS:S w) (hy:YieldsIf P ops S oi v a)
 (h:wpAnyH P md ops Q S fuel (listed.setIfInBounds i true) (a.put oi.dst v) w) (hQ:∀ c a w,Q (.panic c) (a.put oi.dst v) w→Q (.panic c) a w:=by exact fun _ _ _ h=>h) (hi:ops[i]? = some oi:=by rfl) (hs:Region.noSelect ops=true:=by kernel_rfl) (hf:Region.free md ops listed i=true:=by kernel_rfl) (hr:(Region.ready md ops listed).contains i=true:=by kernel_rfl):wpAnyH P md ops Q S (fuel+1) listed a w :=
 wpAnyH_take hi hs hf hr hQ hy hS h
theorem bR {w:World}:Below w.heap.size w w:=Below.refl _ _
theorem yR {o:Oper} {v:Value} (hw:Region.wanted o (yielded ops a.tmps)=true:=by rfl) (hr:∀ w,(execOp a.eval o).run P w = .ok (.value v) w:=by intro _;kernel_rfl):YieldsIf P ops S o v a := .inl ⟨hw,fun w _=>hr w⟩
theorem ne_l {g o k:Nat} {cs:List Value} (r:RW w g o cs) (h:w.heap.size≤k):g≠k:=Nat.ne_of_lt (Nat.lt_of_lt_of_le r.lt h)
theorem ne_r {g o k:Nat} {cs:List Value} (r:RW w g o cs) (h:w.heap.size≤k):k≠g:=(ne_l r h).symm
theorem ldH {V:World} {o:Oper} {g off:Nat} {cs:List Value} (h:RW V g off cs) (ty k:Nat) {d:TypeDesc} (hu:P.underlying ty=some d) (hi:(P.info? ty).map (·.size)=some cs.length) (hd:d.isRow=true:=by rfl) (hw:Region.wanted o (yielded ops a.tmps)=true:=by rfl) (ho:o.op = .load ty (.tmp k):=by rfl) (hx:a.eval (.tmp k) = .pointer (some ⟨g,off,none⟩):=by rfl):YieldsIf P ops (fun w'=>Below V.heap.size V w') o (.agg cs.toArray) a :=
 yieldsIf_load_mid hw ty _ ho g off hx cs d (fun _ hb=>(h.still hb).range) hu hd hi
theorem ldO {V:World} {o:Oper} {g off b p n:Nat} {cs:List Value} (h:RW V g off cs) (hne:g≠b) (ty k:Nat) {d:TypeDesc} (hu:P.underlying ty=some d) (hi:(P.info? ty).map (·.size)=some cs.length) (hd:d.isRow=true:=by rfl) (hw:Region.wanted o (yielded ops a.tmps)=true:=by rfl) (ho:o.op = .load ty (.tmp k):=by rfl) (hx:a.eval (.tmp k) = .pointer (some ⟨g,off,none⟩):=by rfl):YieldsIf P ops (fun w'=>Out b p n V w') o (.agg cs.toArray) a :=
 yieldsIf_load_mid hw ty _ ho g off hx cs d (fun _ hb=>(h.out hb hne).range) hu hd hi
theorem arC {i:Nat} {rs:List Nat} (oi:Oper) {f:FuncId} {args:Array Value} {R:Ending→World→Prop} (c:Calls P f args w R) (h:∀ e w',R e w'→∃ r,e = .returned r∧S w'∧wpAnyH P md ops Q S fuel (listed.setIfInBounds i true) (a.put oi.dst r) w') (hs:AllReadyH P md ops Q S fuel listed a w rs)
 (hi:ops[i]? = some oi:=by rfl) (hw:Region.wanted oi (yielded ops a.tmps)=true:=by rfl) (hrun:(execOp a.eval oi).run P w = .ok (.enter f args) w:=by kernel_rfl):AllReadyH P md ops Q S fuel listed a w (i :: rs):=by
 refine AllReadyH.cons hi (fun K hK => ?_) hs
 rw [if_pos hw]
 unfold Oper.wp
 rw [hrun,Oper.upon_enter]
 refine c.mono fun e w' hR => ?_
 obtain ⟨r,rfl,hS,hk⟩:=h e w' hR
 exact hK.out _ _ hS (fun _=>hk)
theorem callH (i:Nat) (oi:Oper) {f:FuncId} {args:Array Value} {R:Ending→World→Prop} (c:Calls P f args w R) (h:∀ e w',R e w'→∃ r,e = .returned r∧S w'∧wpAnyH P md ops Q S fuel (listed.setIfInBounds i true) (a.put oi.dst r) w')
 (hr:Region.ready md ops listed=[i]:=by kernel_rfl) (hi:ops[i]? = some oi:=by rfl) (hw:Region.wanted oi (yielded ops a.tmps)=true:=by rfl) (hrun:(execOp a.eval oi).run P w = .ok (.enter f args) w:=by kernel_rfl):wpAnyH P md ops Q S (fuel+1) listed a w :=
 wpAnyH_ready hr (by simp) (arC oi c h AllReadyH.nil hi hw hrun)
theorem callN (i:Nat) (oi:Oper) {f:FuncId} {args:Array Value} {R:Ending→World→Prop} (c:Calls P f args w R) (h:∀ e w',R e w'→∃ r,e = .returned r∧Below w.heap.size w w'∧wpAnyH P md ops Q (fun u=>Below w'.heap.size w' u) fuel (listed.setIfInBounds i true) (a.put oi.dst r) w')
 (hr:Region.ready md ops listed=[i]:=by kernel_rfl) (hi:ops[i]? = some oi:=by rfl) (hw:Region.wanted oi (yielded ops a.tmps)=true:=by rfl) (hrun:(execOp a.eval oi).run P w = .ok (.enter f args) w:=by kernel_rfl):wpAnyH P md ops Q (fun u=>Below w.heap.size w u) (fuel+1) listed a w :=
 callH i oi c (fun e w' hR=>by
  obtain ⟨r,he,hb,hk⟩:=h e w' hR
  exact ⟨r,he,hb,wpAnyH_narrow (fun _ hu=>below_next hb hu) _ _ _ _ hk⟩) hr hi hw hrun
theorem arA {i:Nat} {rs:List Nat} (oi:Oper) {cs:Array Value} {t:TypeId} (h:S (w.alloc (.cells cs t))∧wpAnyH P md ops Q S fuel (listed.setIfInBounds i true) (a.put oi.dst (pA w.heap.size 0)) (w.alloc (.cells cs t))) (hs:AllReadyH P md ops Q S fuel listed a w rs)
 (hrun:(execOp a.eval oi).run P w = .ok (.value (pA w.heap.size 0)) (w.alloc (.cells cs t)):=by kernel_rfl) (hi:ops[i]? = some oi:=by rfl) (hw:Region.wanted oi (yielded ops a.tmps)=true:=by rfl):AllReadyH P md ops Q S fuel listed a w (i :: rs):=by
 refine AllReadyH.cons hi (fun K hK => ?_) hs
 rw [if_pos hw]
 unfold Oper.wp
 rw [hrun,Oper.upon_value]
 exact hK.out _ _ h.1 (fun _=>h.2)
theorem dag_root (h:∀ G:Nat→Array Bool→Act→World→Prop,G=wpAnyH P md ops Q S→G fuel listed a w):wpAnyH P md ops Q S fuel listed a w:=h _ rfl
theorem dagW {G:Nat→Array Bool→Act→World→Prop} (hG:Hid (G=wpAnyH P md ops Q S)) {f:Nat} {l:Array Bool} {b:Act} (h:G f l b w) (hb:b=a) (hf:f=fuel:=by kernel_rfl) (hl:l=listed:=by kernel_rfl):wpAnyH P md ops Q S fuel listed a w:=by
 subst hf;subst hl;subst hb;rw [←hG.out];exact h
theorem at_list {i:Nat} {oi:Oper} (hi:ops.toList[i]? = some oi):ops[i]? = some oi:=by rw [←Array.getElem?_toList];exact hi
theorem tg (i:Nat) (hS:S w) {oi:Oper} {v:Value} (h:wpAnyH P md ops Q S fuel (listed.setIfInBounds i true) (a.put oi.dst v) w) (hi:ops.toList[i]? = some oi:=by rfl)
 (hy:∀ w,S w→(execOp a.eval oi).run P w = .ok (.value v) w:=by intro w hSw;go_simp;try with_reducible rfl) (hw:Region.wanted oi (yielded ops a.tmps)=true:=by rfl)
 (hQ:∀ c b w,Q (.panic c) (b.put oi.dst v) w→Q (.panic c) b w:=by exact fun _ _ _ h=>h) (hs:Region.noSelect ops=true:=by kernel_rfl) (hf:Region.free md ops listed i=true:=by kernel_rfl) (hr:(Region.ready md ops listed).contains i=true:=by kernel_rfl):wpAnyH P md ops Q S (fuel+1) listed a w :=
 tkH i oi v hS (.inl ⟨hw,hy⟩) h hQ (at_list hi) hs hf hr
theorem tc (i:Nat) (hS:S w) {oi:Oper} {g o:Nat} {v:Value} (hc:∀ u,S u→u.cell? ⟨g,o,none⟩=some v) (h:wpAnyH P md ops Q S fuel (listed.setIfInBounds i true) (a.put oi.dst v) w) (hi:ops.toList[i]? = some oi:=by rfl)
 (hy:∀ w,w.cell? ⟨g,o,none⟩=some v→(execOp a.eval oi).run P w = .ok (.value v) w:=by intro w hc;go_simp;try with_reducible rfl) (hw:Region.wanted oi (yielded ops a.tmps)=true:=by rfl)
 (hQ:∀ c b w,Q (.panic c) (b.put oi.dst v) w→Q (.panic c) b w:=by exact fun _ _ _ h=>h) (hs:Region.noSelect ops=true:=by kernel_rfl) (hf:Region.free md ops listed i=true:=by kernel_rfl) (hr:(Region.ready md ops listed).contains i=true:=by kernel_rfl):wpAnyH P md ops Q S (fuel+1) listed a w :=
 tkH i oi v hS (.inl ⟨hw,fun u hu=>hy u (hc u hu)⟩) h hQ (at_list hi) hs hf hr
theorem tl (i:Nat) {V:World} {oi:Oper} {g off k:Nat} {cs:List Value} (r:RW V g off cs) (hS:Below V.heap.size V w) (ty:Nat) {d:TypeDesc} (hu:P.underlying ty=some d) (hin:(P.info? ty).map (·.size)=some cs.length)
 (h:wpAnyH P md ops Q (fun u=>Below V.heap.size V u) fuel (listed.setIfInBounds i true) (a.put oi.dst (.agg cs.toArray)) w) (hi:ops.toList[i]? = some oi:=by rfl) (ho:oi.op = .load ty (.tmp k):=by rfl)
 (hd:d.isRow=true:=by rfl) (hw:Region.wanted oi (yielded ops a.tmps)=true:=by rfl) (hx:a.eval (.tmp k) = .pointer (some ⟨g,off,none⟩):=by rfl)
 (hQ:∀ c b w,Q (.panic c) (b.put oi.dst (.agg cs.toArray)) w→Q (.panic c) b w:=by exact fun _ _ _ h=>h) (hs:Region.noSelect ops=true:=by kernel_rfl) (hf:Region.free md ops listed i=true:=by kernel_rfl) (hr:(Region.ready md ops listed).contains i=true:=by kernel_rfl):wpAnyH P md ops Q (fun u=>Below V.heap.size V u) (fuel+1) listed a w :=
 tkH i oi _ hS (ldH r ty k hu hin hd hw ho hx) h hQ (at_list hi) hs hf hr
theorem cl (i:Nat) {oi:Oper} {f:FuncId} {args:Array Value} {R:Ending→World→Prop} (c:Calls P f args w R) (h:∀ e w',R e w'→∃ r,e = .returned r∧S w'∧wpAnyH P md ops Q S fuel (listed.setIfInBounds i true) (a.put oi.dst r) w')
 (hi:ops.toList[i]? = some oi:=by rfl) (hr:Region.ready md ops listed=[i]:=by kernel_rfl) (hw:Region.wanted oi (yielded ops a.tmps)=true:=by rfl) (hrun:(execOp a.eval oi).run P w = .ok (.enter f args) w:=by kernel_rfl):wpAnyH P md ops Q S (fuel+1) listed a w :=
 callH i oi c h hr (at_list hi) hw hrun
theorem cn (i:Nat) {oi:Oper} {f:FuncId} {args:Array Value} {R:Ending→World→Prop} (c:Calls P f args w R) (h:∀ e w',R e w'→∃ r,e = .returned r∧Below w.heap.size w w'∧wpAnyH P md ops Q (fun u=>Below w'.heap.size w' u) fuel (listed.setIfInBounds i true) (a.put oi.dst r) w')
 (hi:ops.toList[i]? = some oi:=by rfl) (hr:Region.ready md ops listed=[i]:=by kernel_rfl) (hw:Region.wanted oi (yielded ops a.tmps)=true:=by rfl) (hrun:(execOp a.eval oi).run P w = .ok (.enter f args) w:=by kernel_rfl):wpAnyH P md ops Q (fun u=>Below w.heap.size w u) (fuel+1) listed a w :=
 callN i oi c h hr (at_list hi) hw hrun
theorem tk (i:Nat) (v:Value) (hS:S w) {oi:Oper} (hi:ops.toList[i]? = some oi:=by rfl) (hy:YieldsIf P ops S oi v a) (h:wpAnyH P md ops Q S fuel (listed.setIfInBounds i true) (a.put oi.dst v) w)
 (hQ:∀ c b w,Q (.panic c) (b.put oi.dst v) w→Q (.panic c) b w:=by exact fun _ _ _ h=>h) (hs:Region.noSelect ops=true:=by kernel_rfl) (hf:Region.free md ops listed i=true:=by kernel_rfl) (hr:(Region.ready md ops listed).contains i=true:=by kernel_rfl):wpAnyH P md ops Q S (fuel+1) listed a w :=
 tkH i oi v hS hy h hQ (at_list hi) hs hf hr
end
end Go.Proofs.YtcgkajlehdgpoaaGreatDoor
namespace Go.Proofs.YtcgkajlehdgpoaaGreatDoor
open Go.RowKit
def IRow (w:World) (g n:Nat) (L:Nat→Int):Prop:=∀ j,j<n→w.cell? ⟨g,j,none⟩=some (.int .i64 (L j))∧w.frozen? ⟨g,j,none⟩=false
def intsI (n:Nat) (L:Nat→Int):List Value:=(List.range n).map fun j => .int .i64 (L j)
theorem intsI_len (n:Nat) (L:Nat→Int):(intsI n L).length=n:=by simp [intsI]
theorem intsI_at (n:Nat) (L:Nat→Int) (j:Nat) (h:j<n):(intsI n L)[j]? = some (.int .i64 (L j)):=by simp [intsI,h]
theorem IRow.below {B:Nat} {w w':World} {g n:Nat} {L:Nat→Int} (h:IRow w g n L) (hb:Below B w w') (hB:g<B):IRow w' g n L:=fun j hj =>
 ⟨(hb.cell (p:=⟨g,j,none⟩) hB).trans (h j hj).1,(hb.frozen (p:=⟨g,j,none⟩) hB).trans (h j hj).2⟩
theorem IRow.congr {w:World} {g n:Nat} {L M:Nat→Int} (h:IRow w g n L) (e:∀ j,j<n→L j=M j):IRow w g n M:=fun j hj=>by rw [←e j hj];exact h j hj
theorem IRow.drew {w:World} {g n:Nat} {L:Nat→Int} (h:IRow w g n L):IRow w.drew g n L:=fun j hj=>h j hj
def updI (L:Nat→Int) (i:Nat) (v:Int):Nat→Int:=fun j=>if j=i then v else L j
theorem IRow.set {w:World} {g n:Nat} {L:Nat→Int} (h:IRow w g n L) {i:Nat} (hi:i<n) (v:Int):IRow (w.setCell ⟨g,i,none⟩ (.int .i64 v)) g n (updI L i v):=fun j hj=>by
 obtain ⟨h1,h2⟩:=h j hj
 by_cases e:j=i
 · subst e
   refine ⟨?_,?_⟩
   · have:=World.rangeAt_setCells_same w g j [.int .i64 v] (fun k hk=>by
      have:k=0:=by simpa using hk
      subst this
      rw [Nat.add_zero,h1];exact ⟨rfl,h2⟩) 0 _ rfl
     simp only [updI,if_true]
     exact this
   · exact (World.frozen?_setCells g [.int .i64 v] j w _).trans h2
 · refine ⟨?_,(World.frozen?_setCells g [.int .i64 v] i w _).trans h2⟩
   simp only [updI,if_neg e]
   rw [←h1]
   exact World.cell?_setCells_out g [.int .i64 v] i w _ (fun _ _=>by show j<i∨i+1≤j;omega)
theorem IRow.far {w:World} {g n:Nat} {L:Nat→Int} (h:IRow w g n L) {a:Addr} (ha:a.block≠g) (v:Value):IRow (w.setCell a v) g n L:=fun j hj=>by
 have hk:(w.setCell a v).heap[g]? = w.heap[g]?:=Below.heap_setCell w a v g (Ne.symm ha)
 exact ⟨(World.cell?_of_block (w:=w) hk).trans (h j hj).1,(World.frozen?_of_block (w:=w) hk).trans (h j hj).2⟩
theorem IRow.range {w:World} {g n:Nat} {L:Nat→Int} (h:IRow w g n L):w.rangeAt g 0 (intsI n L):=fun j v hv=>by
 have hj:j<n:=by have:=(List.getElem?_eq_some_iff.1 hv).1;rwa [intsI_len] at this
 rw [intsI_at _ _ j hj] at hv
 cases hv
 rw [Nat.zero_add];exact (h j hj).1
theorem IRow.there {w:World} {g n:Nat} {L:Nat→Int} (h:IRow w g n L):w.there g 0 n:=fun j hj=>by
 rw [Nat.zero_add,(h j hj).1];exact ⟨rfl,(h j hj).2⟩
theorem IRow.fresh (w:World) (cs:Array Value) (t:TypeId) {n:Nat} {L:Nat→Int} (h:∀ j,j<n→cs[j]? = some (.int .i64 (L j))):IRow (w.alloc (.cells cs t)) w.heap.size n L:=fun j hj=>by
 refine ⟨?_,by simp⟩
 have:=h j hj
 simp [this]
theorem IRow.box (w:World) (n:Nat) (L:Nat→Int) (t:TypeId):IRow (w.alloc (.cells (intsI n L).toArray t)) w.heap.size n L:=IRow.fresh w _ t (fun j hj=>by rw [List.getElem?_toArray];exact intsI_at n L j hj)
theorem IRow.stored {w:World} {g n:Nat} {M L:Nat→Int} (h:IRow w g n M):IRow (w.setCells g 0 (intsI n L)) g n L:=fun j hj=>by
 have hr:=World.rangeAt_setCells_same w g 0 (intsI n L) (by rw [intsI_len];exact h.there)
 refine ⟨?_,(World.frozen?_setCells g (intsI n L) 0 w _).trans (h j hj).2⟩
 have:=hr j _ (intsI_at n L j hj)
 rwa [Nat.zero_add] at this
theorem IRow.farCells {w:World} {g n:Nat} {L:Nat→Int} (h:IRow w g n L) {k:Nat} (hk:g≠k) (o:Nat) (vs:List Value):IRow (w.setCells k o vs) g n L:=fun j hj=>by
 have hb:(w.setCells k o vs).heap[g]? = w.heap[g]?:=heap_setCells_other k vs o w g hk
 exact ⟨(World.cell?_of_block (w:=w) hb).trans (h j hj).1,(World.frozen?_of_block (w:=w) hb).trans (h j hj).2⟩
end Go.Proofs.YtcgkajlehdgpoaaGreatDoor
namespace Go.Proofs.YtcgkajlehdgpoaaGreatDoor
open Go.RowKit Go.Lib
def pF:Nat:=57896044618658097711785492504343953926634992332820282019728792003956564819949
set_option maxHeartbeats 1000000 in
theorem addProduct_any (t x y c:Nat) (ht:t<18446744073709551616) (hx:x<18446744073709551616) (hy:y<18446744073709551616) (hc:c<18446744073709551616) :
 ∃ l h:Nat,l<18446744073709551616∧h<18446744073709551616∧l+18446744073709551616*h=t+x*y+c∧∀ w,Calls Tryz.prog 179 #[.int .u64 t,.int .u64 x,.int .u64 y,.int .u64 c] w fun e w'=>e = .returned (.tuple #[.int .u64 l,.int .u64 h])∧w'=w:=by
 obtain ⟨h0,l0,hh0,hl0,e0,r0⟩:=mul64_ex x y hx hy
 obtain ⟨l1,k1,hl1,hk1,e1,r1⟩:=add64_ex0 l0 t hl0 ht
 obtain ⟨l2,k2,hl2,hk2,e2,r2⟩:=add64_ex0 l1 c hl1 hc
 have hxy:x*y≤18446744073709551615*18446744073709551615:=Nat.mul_le_mul (by omega) (by omega)
 obtain ⟨P,hP⟩:∃ P,P=x*y:=⟨_,rfl⟩
 rw [←hP] at e0 hxy ⊢
 clear hP
 refine ⟨l2,h0+k1+k2,hl2,by omega,by omega,fun w => ?_⟩
 have r0':=r0 w
 have b1:h0+k1<18446744073709551616:=by omega
 have b2:h0+k1+k2<18446744073709551616:=by omega
 clear e0 e1 e2 r0 hxy
 go_enter Tryz.func179,Tryz.ntmps179
 go_wp2_with (first
  | (go_at_call 187;refine r0'.mono ?_;rintro e w' ⟨rfl,rfl⟩)
  | rw [r1] | rw [r2])
 go_ret2
 exact ⟨rfl,rfl⟩
set_option maxHeartbeats 1000000 in
theorem addSmall_any (a b c d x:Nat) (ha:a<18446744073709551616) (hb:b<18446744073709551616) (hc:c<18446744073709551616) (hd:d<18446744073709551615) (hx:x<18446744073709551616) :
 ∃ s0 s1 s2 s3:Nat,s0<18446744073709551616∧s1<18446744073709551616∧s2<18446744073709551616∧s3<18446744073709551616∧val4 s0 s1 s2 s3=val4 a b c d+x∧∀ w,Calls Tryz.prog 151 #[.int .u64 a,.int .u64 b,.int .u64 c,.int .u64 d,.int .u64 x] w fun e w'=>e = .returned (.tuple #[.int .u64 s0,.int .u64 s1,.int .u64 s2,.int .u64 s3])∧w'=w:=by
 obtain ⟨s0,k0,hs0,hk0,e0,r0⟩:=add64_ex0 a x ha hx
 obtain ⟨s1,k1,hs1,hk1,e1,r1⟩:=add64_exz b k0 hb hk0
 obtain ⟨s2,k2,hs2,hk2,e2,r2⟩:=add64_exz c k1 hc hk1
 have b3:d+k2<18446744073709551616:=by omega
 refine ⟨s0,s1,s2,d+k2,hs0,hs1,hs2,b3,by unfold val4;omega,fun w => ?_⟩
 clear e0 e1 e2
 go_enter Tryz.func151,Tryz.ntmps151
 go_wp2_with (first | rw [r0] | rw [r1] | rw [r2])
 (try simp only [Exit.inBlock,Exit.then])
 refine bodyPost_ret (results_tmp4 rfl _ _ _) rfl ?_
 exact ⟨rfl,rfl⟩
theorem over_bits (top d:Nat) (ht:top≤38) (hd:d<18446744073709551616):bits .or .u64 ((top:Int)*2) ((d:Int) / 9223372036854775808)=((top*2+d / 9223372036854775808:Nat):Int):=by
 have e1:(top:Int)*2=((top*2:Nat):Int):=by omega
 have e2:(d:Int) / 9223372036854775808=((d / 9223372036854775808:Nat):Int):=by omega
 rw [e1,e2,bits_or_u64_nat _ _ (by omega) (by omega)]
 have h1:d / 9223372036854775808=0∨d / 9223372036854775808=1:=by omega
 congr 1
 rcases h1 with h | h <;> rw [h]
 · simp
 · have key:∀ k,k<39→k*2 ||| 1=k*2+1:=by decide
   exact key top (by omega)
theorem settle_val (V V' S M T o:Nat) (hV:V=V'+57896044618658097711785492504343953926634992332820282019728792003956564819968*o) (hS:S=V'+(T*2+o)*19) (hV':V'<57896044618658097711785492504343953926634992332820282019728792003956564819968) (hT:T≤38) (ho:o≤1) (hM:M=S+19) :
 (M<57896044618658097711785492504343953926634992332820282019728792003956564819968→(V+115792089237316195423570985008687907853269984665640564039457584007913129639936*T)%pF=S)∧(57896044618658097711785492504343953926634992332820282019728792003956564819968≤M→(V+115792089237316195423570985008687907853269984665640564039457584007913129639936*T)%pF=M - 57896044618658097711785492504343953926634992332820282019728792003956564819968):=by
 have key:V+115792089237316195423570985008687907853269984665640564039457584007913129639936*T=S+pF*(T*2+o):=by unfold pF;omega
 rw [key,Nat.add_mul_mod_self_left]
 unfold pF
 constructor <;> intro h <;> omega
theorem rm19 {f:FuncId} {a b c d:Value} {Q:Ending→World→Prop} {w:World} (h:Calls Tryz.prog f #[a,b,c,d,.int .u64 ((19:Nat):Int)] w Q):Calls Tryz.prog f #[a,b,c,d,.int .u64 19] w Q:=h
set_option maxRecDepth 20000 in
set_option maxHeartbeats 1000000 in
theorem settle_any (a b c d t:Nat) (ha:a<18446744073709551616) (hb:b<18446744073709551616) (hc:c<18446744073709551616) (hd:d<18446744073709551616) (ht:t≤38) (w:World) :
 Calls Tryz.prog 122 #[.int .u64 a,.int .u64 b,.int .u64 c,.int .u64 d,.int .u64 t] w fun e w'=>e = .returned (numV ((val4 a b c d+115792089237316195423570985008687907853269984665640564039457584007913129639936*t)%pF))∧Below w.heap.size w w':=by
 obtain ⟨s0,s1,s2,s3,h0,h1,h2,h3,es,rs⟩:=addSmall_any a b c (d%9223372036854775808) ((t*2+d / 9223372036854775808)*19) ha hb hc (by omega) (by omega)
 have hs3:s3<9223372036854775809:=by unfold val4 at es;omega
 obtain ⟨m0,m1,m2,m3,g0,g1,g2,g3,em,rm⟩:=addSmall_any s0 s1 s2 s3 19 h0 h1 h2 (by omega) (by decide)
 obtain ⟨f1,f2⟩:=settle_val (val4 a b c d) (val4 a b c (d%9223372036854775808)) (val4 s0 s1 s2 s3) (val4 m0 m1 m2 m3) t (d / 9223372036854775808) (by unfold val4;omega) es (by unfold val4;omega) ht (by omega) em
 obtain ⟨N,hN⟩:∃ N,N=(val4 a b c d+115792089237316195423570985008687907853269984665640564039457584007913129639936*t)%pF:=⟨_,rfl⟩
 rw [←hN] at f1 f2 ⊢
 have o1:=over_bits t d ht hd
 obtain ⟨ox,hox⟩:∃ ox,ox=t*2+d / 9223372036854775808:=⟨_,rfl⟩
 obtain ⟨dl,hdl⟩:∃ dl,dl=d%9223372036854775808:=⟨_,rfl⟩
 obtain ⟨ml,hml⟩:∃ ml,ml=m3%9223372036854775808:=⟨_,rfl⟩
 have hox77:ox≤77:=by omega
 rw [←hox,←hdl] at rs
 rw [←hox] at o1
 have o2:=mask63 d hd
 have o3:=mask63 m3 g3
 rw [←hdl] at o2
 rw [←hml] at o3
 obtain ⟨ov,hov⟩:∃ ov,ov=ox*19:=⟨_,rfl⟩
 rw [←hov] at rs
 have o4:(ox:Int)*19=(ov:Int):=by omega
 have hmll:ml<18446744073709551616:=by omega
 have fin1:m3 > 9223372036854775807→(Value.agg #[.int .u64 m0,.int .u64 m1,.int .u64 m2,.int .u64 ml]:Value)=numV N:=fun hm=>numV_of N m0 m1 m2 ml g0 g1 g2 (by omega) (by rw [f2 (by unfold val4;omega)];unfold val4;omega)
 have fin2:¬m3 > 9223372036854775807→(Value.agg #[.int .u64 s0,.int .u64 s1,.int .u64 s2,.int .u64 s3]:Value)=numV N:=fun hm=>numV_of N s0 s1 s2 s3 h0 h1 h2 (by omega) (by rw [f1 (by unfold val4;omega)])
 clear es em hN f1 f2 hox hdl hml hov
 by_cases hm:m3 > 9223372036854775807
 · have fin:=Hid.mk' (fin1 hm)
   have hm':(9223372036854775807:Int)<(m3:Int):=by omega
   clear fin1 fin2
   go_enter Tryz.func122,Tryz.ntmps122
   go_wp2_with (first
    | (go_at_call 151;refine (rs _).mono ?_;clear rs;rintro e w' ⟨rfl,hw⟩;subst hw)
    | (go_at_call 151;refine (rm19 (rm _)).mono ?_;rintro e w' ⟨rfl,hw⟩;subst hw))
   (try simp only [Exit.inBlock,Exit.then])
   exact bodyPost_ret (results_fresh4 Tryz.results122 _ _ _ _ _ _ _ rfl Tryz.underlying86 rfl (by kernel_rfl)) rfl ⟨by rw [fin.out],(Below.refl _ _).alloc (Nat.le_refl _) _⟩
 · have fin:=Hid.mk' (fin2 hm)
   have hm':¬(9223372036854775807:Int)<(m3:Int):=by omega
   clear fin1 fin2
   go_enter Tryz.func122,Tryz.ntmps122
   go_wp2_with (first
    | (go_at_call 151;refine (rs _).mono ?_;clear rs;rintro e w' ⟨rfl,hw⟩;subst hw)
    | (go_at_call 151;refine (rm19 (rm _)).mono ?_;rintro e w' ⟨rfl,hw⟩;subst hw))
   (try simp only [Exit.inBlock,Exit.then])
   exact bodyPost_ret (results_fresh4 Tryz.results122 _ _ _ _ _ _ _ rfl Tryz.underlying86 rfl (by kernel_rfl)) rfl ⟨by rw [fin.out],(Below.refl _ _).alloc (Nat.le_refl _) _⟩
end Go.Proofs.YtcgkajlehdgpoaaGreatDoor
namespace Go.Proofs.YtcgkajlehdgpoaaGreatDoor
open Go.RowKit
def cr (L:Nat→Int):Nat→Int
 | 0=>0
 | i+1=>(L i+cr L i) / 65536
def valR (L:Nat→Int):Nat→Int
 | 0=>0
 | n+1=>valR L n+L n*65536 ^ n
structure Dig (R:Int) (L:Nat→Int):Prop where
 low:-R≤L 0∧L 0≤R
 dig:∀ j,0<j→j<16→0≤L j∧L j≤65535
theorem Dig.all {R:Int} {L:Nat→Int} (h:Dig R L) (hR:65535≤R):∀ j,j<16→-R≤L j∧L j≤R:=fun j hj=>by
 by_cases e:j=0
 · rw [e];exact h.low
 · have:=h.dig j (by omega) hj;omega
end Go.Proofs.YtcgkajlehdgpoaaGreatDoor
