/- What the proof stands on: ZAb2, IRow, Words, ICar, RefCarry. -/
import Derived.Test.YtcgkajlehdgpoaaGreatDoorHRefPadM
import Derived.Test.YtcgkajlehdgpoaaGreatDoorLentM
namespace Go.Proofs.YtcgkajlehdgpoaaGreatDoor
open Go.RowKit
abbrev jD (n:Nat):Edge:={ on:=n,ground:=Ground.data }
abbrev jC (n:Nat):Edge:={ on:=n,ground:=Ground.chain }
abbrev jP (n:Nat):Edge:={ on:=n,ground:=Ground.phase }
abbrev jT (n:Nat):Edge:={ on:=n,ground:=Ground.textOnly Departure.lateStores }
abbrev jO (n:Nat):Edge:={ on:=n,ground:=Ground.gcOnly Departure.lateStores }
abbrev jU (n:Nat):Edge:={ on:=n,ground:=Ground.textOnly Departure.lateStoresUnsure }
abbrev oN (d:Nat) (o:Op) (t:TypeId) (p:String) (a:Array Edge):Oper:={ dst:=some d,op:=o,type:=t,pos:=p,after:=a,guard:=none }
abbrev oS (o:Op) (p:String) (a:Array Edge):Oper:={ dst:=none,op:=o,type:=0,pos:=p,after:=a,guard:=none }
abbrev cF1 (f:FuncId) (a:Array Operand) (t:Array TypeId):Op:=Op.call { callee:=Callee.value (Operand.func f),args:=a,argTypes:=t }
abbrev oT (k:Nat):Operand:=Operand.tmp k
abbrev pA (g o:Nat):Value := .pointer (some ⟨g,o,none⟩)
theorem pS:(∀ (a:Act) (d:Nat) (v:Value),a.put (some d) v={ a with tmps:=a.tmps.setIfInBounds d v })∧(∀ (l:List Value) (i:Nat) (v:Value),l.toArray.setIfInBounds i v=(l.set i v).toArray)∧(∀ (x:Value) (l:List Value) (v:Value),(x :: l).set 0 v=v :: l)∧(∀ (x:Value) (l:List Value) (n:Nat) (v:Value),(x :: l).set (n+1) v=x :: l.set n v) :=
 ⟨fun _ _ _=>rfl,fun _ _ _=>List.setIfInBounds_toArray ..,fun _ _ _=>rfl,fun _ _ _ _=>rfl⟩
section
variable {P:Program} {md:Region.Mode} {ops:Array Oper} {Q:Exit→Act→World→Prop} {S:World→Prop} {fuel:Nat} {listed:Array Bool} {a:Act} {w:World}
theorem tkH (i:Nat) (oi:Oper) (v:Value) (hS:S w) (hy:YieldsIf P ops S oi v a)
 (h:wpAnyH P md ops Q S fuel (listed.setIfInBounds i true) (a.put oi.dst v) w) (hQ:∀ c a w,Q (.panic c) (a.put oi.dst v) w→Q (.panic c) a w:=by exact fun _ _ _ h=>h) (hi:ops[i]? = some oi:=by rfl) (hs:Region.noSelect ops=true:=by kernel_rfl) (hf:Region.free md ops listed i=true:=by kernel_rfl) (hr:(Region.ready md ops listed).contains i=true:=by kernel_rfl):wpAnyH P md ops Q S (fuel+1) listed a w :=
 wpAnyH_take hi hs hf hr hQ hy hS h
theorem bR {w:World}:Below w.heap.size w w:=Below.refl _ _
theorem yR {o:Oper} {v:Value} (hw:Region.wanted o (yielded ops a.tmps)=true:=by rfl) (hr:∀ w,(execOp a.eval o).run P w = .ok (.value v) w:=by intro _;kernel_rfl):YieldsIf P ops S o v a := .inl ⟨hw,fun w _=>hr w⟩
theorem ne_l {g o k:Nat} {cs:List Value} (r:RW w g o cs) (h:w.heap.size≤k):g≠k:=Nat.ne_of_lt (Nat.lt_of_lt_of_le r.lt h)
theorem ne_r {g o k:Nat} {cs:List Value} (r:RW w g o cs) (h:w.heap.size≤k):k≠g:=(ne_l r h).symm
theorem ldH {V:World} {o:Oper} {g off:Nat} {cs:List Value} (h:RW V g off cs) (ty k:Nat) {d:TypeDesc} (hu:P.underlying ty=some d) (hi:(P.info? ty).map (·.size)=some cs.length) (hd:d.isRow=true:=by rfl) (hw:Region.wanted o (yielded ops a.tmps)=true:=by rfl) (ho:o.op = .load ty (.tmp k):=by rfl) (hx:a.eval (.tmp k) = .pointer (some ⟨g,off,none⟩):=by rfl):YieldsIf P ops (fun w'=>Below V.heap.size V w') o (.agg cs.toArray) a :=
 yieldsIf_load_mid hw ty _ ho g off hx cs d (fun _ hb=>(h.still hb).range) hu hd hi
theorem ldO {V:World} {o:Oper} {g off b p n:Nat} {cs:List Value} (h:RW V g off cs) (hne:g≠b) (ty k:Nat) {d:TypeDesc} (hu:P.underlying ty=some d) (hi:(P.info? ty).map (·.size)=some cs.length) (hd:d.isRow=true:=by rfl) (hw:Region.wanted o (yielded ops a.tmps)=true:=by rfl) (ho:o.op = .load ty (.tmp k):=by rfl) (hx:a.eval (.tmp k) = .pointer (some ⟨g,off,none⟩):=by rfl):YieldsIf P ops (fun w'=>Out b p n V w') o (.agg cs.toArray) a :=
 yieldsIf_load_mid hw ty _ ho g off hx cs d (fun _ hb=>(h.out hb hne).range) hu hd hi
theorem arC {i:Nat} {rs:List Nat} (oi:Oper) {f:FuncId} {args:Array Value} {R:Ending→World→Prop} (c:Calls P f args w R) (h:∀ e w',R e w'→∃ r,e = .returned r∧S w'∧wpAnyH P md ops Q S fuel (listed.setIfInBounds i true) (a.put oi.dst r) w') (hs:AllReadyH P md ops Q S fuel listed a w rs)
 (hi:ops[i]? = some oi:=by rfl) (hw:Region.wanted oi (yielded ops a.tmps)=true:=by rfl) (hrun:(execOp a.eval oi).run P w = .ok (.enter f args) w:=by kernel_rfl):AllReadyH P md ops Q S fuel listed a w (i :: rs):=by
 refine AllReadyH.cons hi (fun K hK => ?_) hs
 rw [if_pos hw]
 unfold Oper.wp
 rw [hrun,Oper.upon_enter]
 refine c.mono fun e w' hR => ?_
 obtain ⟨r,rfl,hS,hk⟩:=h e w' hR
 exact hK.out _ _ hS (fun _=>hk)
theorem callH (i:Nat) (oi:Oper) {f:FuncId} {args:Array Value} {R:Ending→World→Prop} (c:Calls P f args w R) (h:∀ e w',R e w'→∃ r,e = .returned r∧S w'∧wpAnyH P md ops Q S fuel (listed.setIfInBounds i true) (a.put oi.dst r) w')
 (hr:Region.ready md ops listed=[i]:=by kernel_rfl) (hi:ops[i]? = some oi:=by rfl) (hw:Region.wanted oi (yielded ops a.tmps)=true:=by rfl) (hrun:(execOp a.eval oi).run P w = .ok (.enter f args) w:=by kernel_rfl):wpAnyH P md ops Q S (fuel+1) listed a w :=
 wpAnyH_ready hr (by simp) (arC oi c h AllReadyH.nil hi hw hrun)
theorem callN (i:Nat) (oi:Oper) {f:FuncId} {args:Array Value} {R:Ending→World→Prop} (c:Calls P f args w R) (h:∀ e w',R e w'→∃ r,e = .returned r∧Below w.heap.size w w'∧wpAnyH P md ops Q (fun u=>Below w'.heap.size w' u) fuel (listed.setIfInBounds i true) (a.put oi.dst r) w')
 (hr:Region.ready md ops listed=[i]:=by kernel_rfl) (hi:ops[i]? = some oi:=by rfl) (hw:Region.wanted oi (yielded ops a.tmps)=true:=by rfl) (hrun:(execOp a.eval oi).run P w = .ok (.enter f args) w:=by kernel_rfl):wpAnyH P md ops Q (fun u=>Below w.heap.size w u) (fuel+1) listed a w :=
 callH i oi c (fun e w' hR=>by
  obtain ⟨r,he,hb,hk⟩:=h e w' hR
  exact ⟨r,he,hb,wpAnyH_narrow (fun _ hu=>below_next hb hu) _ _ _ _ hk⟩) hr hi hw hrun
theorem arA {i:Nat} {rs:List Nat} (oi:Oper) {cs:Array Value} {t:TypeId} (h:S (w.alloc (.cells cs t))∧wpAnyH P md ops Q S fuel (listed.setIfInBounds i true) (a.put oi.dst (pA w.heap.size 0)) (w.alloc (.cells cs t))) (hs:AllReadyH P md ops Q S fuel listed a w rs)
 (hrun:(execOp a.eval oi).run P w = .ok (.value (pA w.heap.size 0)) (w.alloc (.cells cs t)):=by kernel_rfl) (hi:ops[i]? = some oi:=by rfl) (hw:Region.wanted oi (yielded ops a.tmps)=true:=by rfl):AllReadyH P md ops Q S fuel listed a w (i :: rs):=by
 refine AllReadyH.cons hi (fun K hK => ?_) hs
 rw [if_pos hw]
 unfold Oper.wp
 rw [hrun,Oper.upon_value]
 exact hK.out _ _ h.1 (fun _=>h.2)
theorem dag_root (h:∀ G:Nat→Array Bool→Act→World→Prop,G=wpAnyH P md ops Q S→G fuel listed a w):wpAnyH P md ops Q S fuel listed a w:=h _ rfl
theorem dagW {G:Nat→Array Bool→Act→World→Prop} (hG:Hid (G=wpAnyH P md ops Q S)) {f:Nat} {l:Array Bool} {b:Act} (h:G f l b w) (hb:b=a) (hf:f=fuel:=by kernel_rfl) (hl:l=listed:=by kernel_rfl):wpAnyH P md ops Q S fuel listed a w:=by
 subst hf;subst hl;subst hb;rw [←hG.out];exact h
theorem at_list {i:Nat} {oi:Oper} (hi:ops.toList[i]? = some oi):ops[i]? = some oi:=by rw [←Array.getElem?_toList];exact hi
theorem tg (i:Nat) (hS:S w) {oi:Oper} {v:Value} (h:wpAnyH P md ops Q S fuel (listed.setIfInBounds i true) (a.put oi.dst v) w) (hi:ops.toList[i]? = some oi:=by rfl)
 (hy:∀ w,S w→(execOp a.eval oi).run P w = .ok (.value v) w:=by intro w hSw;go_simp;try with_reducible rfl) (hw:Region.wanted oi (yielded ops a.tmps)=true:=by rfl)
 (hQ:∀ c b w,Q (.panic c) (b.put oi.dst v) w→Q (.panic c) b w:=by exact fun _ _ _ h=>h) (hs:Region.noSelect ops=true:=by kernel_rfl) (hf:Region.free md ops listed i=true:=by kernel_rfl) (hr:(Region.ready md ops listed).contains i=true:=by kernel_rfl):wpAnyH P md ops Q S (fuel+1) listed a w :=
 tkH i oi v hS (.inl ⟨hw,hy⟩) h hQ (at_list hi) hs hf hr
theorem tc (i:Nat) (hS:S w) {oi:Oper} {g o:Nat} {v:Value} (hc:∀ u,S u→u.cell? ⟨g,o,none⟩=some v) (h:wpAnyH P md ops Q S fuel (listed.setIfInBounds i true) (a.put oi.dst v) w) (hi:ops.toList[i]? = some oi:=by rfl)
 (hy:∀ w,w.cell? ⟨g,o,none⟩=some v→(execOp a.eval oi).run P w = .ok (.value v) w:=by intro w hc;go_simp;try with_reducible rfl) (hw:Region.wanted oi (yielded ops a.tmps)=true:=by rfl)
 (hQ:∀ c b w,Q (.panic c) (b.put oi.dst v) w→Q (.panic c) b w:=by exact fun _ _ _ h=>h) (hs:Region.noSelect ops=true:=by kernel_rfl) (hf:Region.free md ops listed i=true:=by kernel_rfl) (hr:(Region.ready md ops listed).contains i=true:=by kernel_rfl):wpAnyH P md ops Q S (fuel+1) listed a w :=
 tkH i oi v hS (.inl ⟨hw,fun u hu=>hy u (hc u hu)⟩) h hQ (at_list hi) hs hf hr
theorem tl (i:Nat) {V:World} {oi:Oper} {g off k:Nat} {cs:List Value} (r:RW V g off cs) (hS:Below V.heap.size V w) (ty:Nat) {d:TypeDesc} (hu:P.underlying ty=some d) (hin:(P.info? ty).map (·.size)=some cs.length)
 (h:wpAnyH P md ops Q (fun u=>Below V.heap.size V u) fuel (listed.setIfInBounds i true) (a.put oi.dst (.agg cs.toArray)) w) (hi:ops.toList[i]? = some oi:=by rfl) (ho:oi.op = .load ty (.tmp k):=by rfl)
 (hd:d.isRow=true:=by rfl) (hw:Region.wanted oi (yielded ops a.tmps)=true:=by rfl) (hx:a.eval (.tmp k) = .pointer (some ⟨g,off,none⟩):=by rfl)
 (hQ:∀ c b w,Q (.panic c) (b.put oi.dst (.agg cs.toArray)) w→Q (.panic c) b w:=by exact fun _ _ _ h=>h) (hs:Region.noSelect ops=true:=by kernel_rfl) (hf:Region.free md ops listed i=true:=by kernel_rfl) (hr:(Region.ready md ops listed).contains i=true:=by kernel_rfl):wpAnyH P md ops Q (fun u=>Below V.heap.size V u) (fuel+1) listed a w :=
 tkH i oi _ hS (ldH r ty k hu hin hd hw ho hx) h hQ (at_list hi) hs hf hr
theorem cl (i:Nat) {oi:Oper} {f:FuncId} {args:Array Value} {R:Ending→World→Prop} (c:Calls P f args w R) (h:∀ e w',R e w'→∃ r,e = .returned r∧S w'∧wpAnyH P md ops Q S fuel (listed.setIfInBounds i true) (a.put oi.dst r) w')
 (hi:ops.toList[i]? = some oi:=by rfl) (hr:Region.ready md ops listed=[i]:=by kernel_rfl) (hw:Region.wanted oi (yielded ops a.tmps)=true:=by rfl) (hrun:(execOp a.eval oi).run P w = .ok (.enter f args) w:=by kernel_rfl):wpAnyH P md ops Q S (fuel+1) listed a w :=
 callH i oi c h hr (at_list hi) hw hrun
theorem cn (i:Nat) {oi:Oper} {f:FuncId} {args:Array Value} {R:Ending→World→Prop} (c:Calls P f args w R) (h:∀ e w',R e w'→∃ r,e = .returned r∧Below w.heap.size w w'∧wpAnyH P md ops Q (fun u=>Below w'.heap.size w' u) fuel (listed.setIfInBounds i true) (a.put oi.dst r) w')
 (hi:ops.toList[i]? = some oi:=by rfl) (hr:Region.ready md ops listed=[i]:=by kernel_rfl) (hw:Region.wanted oi (yielded ops a.tmps)=true:=by rfl) (hrun:(execOp a.eval oi).run P w = .ok (.enter f args) w:=by kernel_rfl):wpAnyH P md ops Q (fun u=>Below w.heap.size w u) (fuel+1) listed a w :=
 callN i oi c h hr (at_list hi) hw hrun
theorem tk (i:Nat) (v:Value) (hS:S w) {oi:Oper} (hi:ops.toList[i]? = some oi:=by rfl) (hy:YieldsIf P ops S oi v a) (h:wpAnyH P md ops Q S fuel (listed.setIfInBounds i true) (a.put oi.dst v) w)
 (hQ:∀ c b w,Q (.panic c) (b.put oi.dst v) w→Q (.panic c) b w:=by exact fun _ _ _ h=>h) (hs:Region.noSelect ops=true:=by kernel_rfl) (hf:Region.free md ops listed i=true:=by kernel_rfl) (hr:(Region.ready md ops listed).contains i=true:=by kernel_rfl):wpAnyH P md ops Q S (fuel+1) listed a w :=
 tkH i oi v hS hy h hQ (at_list hi) hs hf hr
end
end Go.Proofs.YtcgkajlehdgpoaaGreatDoor
namespace Go.Proofs.YtcgkajlehdgpoaaGreatDoor
open Go.RowKit
def IRow (w:World) (g n:Nat) (L:Nat→Int):Prop:=∀ j,j<n→w.cell? ⟨g,j,none⟩=some (.int .i64 (L j))∧w.frozen? ⟨g,j,none⟩=false
def intsI (n:Nat) (L:Nat→Int):List Value:=(List.range n).map fun j => .int .i64 (L j)
theorem intsI_len (n:Nat) (L:Nat→Int):(intsI n L).length=n:=by simp [intsI]
theorem intsI_size (n:Nat) (L:Nat→Int):(intsI n L).toArray.size=n:=by simp [intsI]
theorem intsI_at (n:Nat) (L:Nat→Int) (j:Nat) (h:j<n):(intsI n L)[j]? = some (.int .i64 (L j)):=by simp [intsI,h]
theorem intsI_one (n:Nat) (L:Nat→Int):∀ v∈intsI n L,v.oneCell'=true:=fun v hv=>by
 simp only [intsI,List.mem_map] at hv
 obtain ⟨j,_,rfl⟩:=hv
 rfl
def refV (L:Nat→Int):Value := .agg (intsI 16 L).toArray
theorem IRow.below {B:Nat} {w w':World} {g n:Nat} {L:Nat→Int} (h:IRow w g n L) (hb:Below B w w') (hB:g<B):IRow w' g n L:=fun j hj =>
 ⟨(hb.cell (p:=⟨g,j,none⟩) hB).trans (h j hj).1,(hb.frozen (p:=⟨g,j,none⟩) hB).trans (h j hj).2⟩
theorem IRow.congr {w:World} {g n:Nat} {L M:Nat→Int} (h:IRow w g n L) (e:∀ j,j<n→L j=M j):IRow w g n M:=fun j hj=>by rw [←e j hj];exact h j hj
theorem IRow.drew {w:World} {g n:Nat} {L:Nat→Int} (h:IRow w g n L):IRow w.drew g n L:=fun j hj=>h j hj
def updI (L:Nat→Int) (i:Nat) (v:Int):Nat→Int:=fun j=>if j=i then v else L j
theorem IRow.set {w:World} {g n:Nat} {L:Nat→Int} (h:IRow w g n L) {i:Nat} (hi:i<n) (v:Int):IRow (w.setCell ⟨g,i,none⟩ (.int .i64 v)) g n (updI L i v):=fun j hj=>by
 obtain ⟨h1,h2⟩:=h j hj
 by_cases e:j=i
 · subst e
   refine ⟨?_,?_⟩
   · have:=World.rangeAt_setCells_same w g j [.int .i64 v] (fun k hk=>by
      have:k=0:=by simpa using hk
      subst this
      rw [Nat.add_zero,h1];exact ⟨rfl,h2⟩) 0 _ rfl
     simp only [updI,if_true]
     exact this
   · exact (World.frozen?_setCells g [.int .i64 v] j w _).trans h2
 · refine ⟨?_,(World.frozen?_setCells g [.int .i64 v] i w _).trans h2⟩
   simp only [updI,if_neg e]
   rw [←h1]
   exact World.cell?_setCells_out g [.int .i64 v] i w _ (fun _ _=>by show j<i∨i+1≤j;omega)
theorem IRow.far {w:World} {g n:Nat} {L:Nat→Int} (h:IRow w g n L) {a:Addr} (ha:a.block≠g) (v:Value):IRow (w.setCell a v) g n L:=fun j hj=>by
 have hk:(w.setCell a v).heap[g]? = w.heap[g]?:=Below.heap_setCell w a v g (Ne.symm ha)
 exact ⟨(World.cell?_of_block (w:=w) hk).trans (h j hj).1,(World.frozen?_of_block (w:=w) hk).trans (h j hj).2⟩
theorem IRow.range {w:World} {g n:Nat} {L:Nat→Int} (h:IRow w g n L):w.rangeAt g 0 (intsI n L):=fun j v hv=>by
 have hj:j<n:=by have:=(List.getElem?_eq_some_iff.1 hv).1;rwa [intsI_len] at this
 rw [intsI_at _ _ j hj] at hv
 cases hv
 rw [Nat.zero_add];exact (h j hj).1
theorem IRow.there {w:World} {g n:Nat} {L:Nat→Int} (h:IRow w g n L):w.there g 0 n:=fun j hj=>by
 rw [Nat.zero_add,(h j hj).1];exact ⟨rfl,(h j hj).2⟩
theorem IRow.fresh (w:World) (cs:Array Value) (t:TypeId) {n:Nat} {L:Nat→Int} (h:∀ j,j<n→cs[j]? = some (.int .i64 (L j))):IRow (w.alloc (.cells cs t)) w.heap.size n L:=fun j hj=>by
 refine ⟨?_,by simp⟩
 have:=h j hj
 simp [this]
theorem IRow.box (w:World) (n:Nat) (L:Nat→Int) (t:TypeId):IRow (w.alloc (.cells (intsI n L).toArray t)) w.heap.size n L:=IRow.fresh w _ t (fun j hj=>by rw [List.getElem?_toArray];exact intsI_at n L j hj)
theorem IRow.stored {w:World} {g n:Nat} {M L:Nat→Int} (h:IRow w g n M):IRow (w.setCells g 0 (intsI n L)) g n L:=fun j hj=>by
 have hr:=World.rangeAt_setCells_same w g 0 (intsI n L) (by rw [intsI_len];exact h.there)
 refine ⟨?_,(World.frozen?_setCells g (intsI n L) 0 w _).trans (h j hj).2⟩
 have:=hr j _ (intsI_at n L j hj)
 rwa [Nat.zero_add] at this
theorem IRow.farCells {w:World} {g n:Nat} {L:Nat→Int} (h:IRow w g n L) {k:Nat} (hk:g≠k) (o:Nat) (vs:List Value):IRow (w.setCells k o vs) g n L:=fun j hj=>by
 have hb:(w.setCells k o vs).heap[g]? = w.heap[g]?:=heap_setCells_other k vs o w g hk
 exact ⟨(World.cell?_of_block (w:=w) hb).trans (h j hj).1,(World.frozen?_of_block (w:=w) hb).trans (h j hj).2⟩
end Go.Proofs.YtcgkajlehdgpoaaGreatDoor
namespace Go.Proofs.YtcgkajlehdgpoaaGreatDoor
open Go.RowKit Go.Lib
def pF:Nat:=57896044618658097711785492504343953926634992332820282019728792003956564819949
set_option maxHeartbeats 1000000 in
theorem addProduct_any (t x y c:Nat) (ht:t<18446744073709551616) (hx:x<18446744073709551616) (hy:y<18446744073709551616) (hc:c<18446744073709551616) :
 ∃ l h:Nat,l<18446744073709551616∧h<18446744073709551616∧l+18446744073709551616*h=t+x*y+c∧∀ w,Calls Tryz.prog 179 #[.int .u64 t,.int .u64 x,.int .u64 y,.int .u64 c] w fun e w'=>e = .returned (.tuple #[.int .u64 l,.int .u64 h])∧w'=w:=by
 obtain ⟨h0,l0,hh0,hl0,e0,r0⟩:=mul64_ex x y hx hy
 obtain ⟨l1,k1,hl1,hk1,e1,r1⟩:=add64_ex0 l0 t hl0 ht
 obtain ⟨l2,k2,hl2,hk2,e2,r2⟩:=add64_ex0 l1 c hl1 hc
 have hxy:x*y≤18446744073709551615*18446744073709551615:=Nat.mul_le_mul (by omega) (by omega)
 obtain ⟨P,hP⟩:∃ P,P=x*y:=⟨_,rfl⟩
 rw [←hP] at e0 hxy ⊢
 clear hP
 refine ⟨l2,h0+k1+k2,hl2,by omega,by omega,fun w => ?_⟩
 have r0':=r0 w
 have b1:h0+k1<18446744073709551616:=by omega
 have b2:h0+k1+k2<18446744073709551616:=by omega
 clear e0 e1 e2 r0 hxy
 go_enter Tryz.func179,Tryz.ntmps179
 go_wp2_with (first
  | (go_at_call 187;refine r0'.mono ?_;rintro e w' ⟨rfl,rfl⟩)
  | rw [r1] | rw [r2])
 go_ret2
 exact ⟨rfl,rfl⟩
set_option maxHeartbeats 1000000 in
theorem addSmall_any (a b c d x:Nat) (ha:a<18446744073709551616) (hb:b<18446744073709551616) (hc:c<18446744073709551616) (hd:d<18446744073709551615) (hx:x<18446744073709551616) :
 ∃ s0 s1 s2 s3:Nat,s0<18446744073709551616∧s1<18446744073709551616∧s2<18446744073709551616∧s3<18446744073709551616∧val4 s0 s1 s2 s3=val4 a b c d+x∧∀ w,Calls Tryz.prog 151 #[.int .u64 a,.int .u64 b,.int .u64 c,.int .u64 d,.int .u64 x] w fun e w'=>e = .returned (.tuple #[.int .u64 s0,.int .u64 s1,.int .u64 s2,.int .u64 s3])∧w'=w:=by
 obtain ⟨s0,k0,hs0,hk0,e0,r0⟩:=add64_ex0 a x ha hx
 obtain ⟨s1,k1,hs1,hk1,e1,r1⟩:=add64_exz b k0 hb hk0
 obtain ⟨s2,k2,hs2,hk2,e2,r2⟩:=add64_exz c k1 hc hk1
 have b3:d+k2<18446744073709551616:=by omega
 refine ⟨s0,s1,s2,d+k2,hs0,hs1,hs2,b3,by unfold val4;omega,fun w => ?_⟩
 clear e0 e1 e2
 go_enter Tryz.func151,Tryz.ntmps151
 go_wp2_with (first | rw [r0] | rw [r1] | rw [r2])
 (try simp only [Exit.inBlock,Exit.then])
 refine bodyPost_ret (results_tmp4 rfl _ _ _) rfl ?_
 exact ⟨rfl,rfl⟩
theorem over_bits (top d:Nat) (ht:top≤38) (hd:d<18446744073709551616):bits .or .u64 ((top:Int)*2) ((d:Int) / 9223372036854775808)=((top*2+d / 9223372036854775808:Nat):Int):=by
 have e1:(top:Int)*2=((top*2:Nat):Int):=by omega
 have e2:(d:Int) / 9223372036854775808=((d / 9223372036854775808:Nat):Int):=by omega
 rw [e1,e2,bits_or_u64_nat _ _ (by omega) (by omega)]
 have h1:d / 9223372036854775808=0∨d / 9223372036854775808=1:=by omega
 congr 1
 rcases h1 with h | h <;> rw [h]
 · simp
 · have key:∀ k,k<39→k*2 ||| 1=k*2+1:=by decide
   exact key top (by omega)
theorem settle_val (V V' S M T o:Nat) (hV:V=V'+57896044618658097711785492504343953926634992332820282019728792003956564819968*o) (hS:S=V'+(T*2+o)*19) (hV':V'<57896044618658097711785492504343953926634992332820282019728792003956564819968) (hT:T≤38) (ho:o≤1) (hM:M=S+19) :
 (M<57896044618658097711785492504343953926634992332820282019728792003956564819968→(V+115792089237316195423570985008687907853269984665640564039457584007913129639936*T)%pF=S)∧(57896044618658097711785492504343953926634992332820282019728792003956564819968≤M→(V+115792089237316195423570985008687907853269984665640564039457584007913129639936*T)%pF=M - 57896044618658097711785492504343953926634992332820282019728792003956564819968):=by
 have key:V+115792089237316195423570985008687907853269984665640564039457584007913129639936*T=S+pF*(T*2+o):=by unfold pF;omega
 rw [key,Nat.add_mul_mod_self_left]
 unfold pF
 constructor <;> intro h <;> omega
theorem rm19 {f:FuncId} {a b c d:Value} {Q:Ending→World→Prop} {w:World} (h:Calls Tryz.prog f #[a,b,c,d,.int .u64 ((19:Nat):Int)] w Q):Calls Tryz.prog f #[a,b,c,d,.int .u64 19] w Q:=h
set_option maxRecDepth 20000 in
set_option maxHeartbeats 1000000 in
theorem settle_any (a b c d t:Nat) (ha:a<18446744073709551616) (hb:b<18446744073709551616) (hc:c<18446744073709551616) (hd:d<18446744073709551616) (ht:t≤38) (w:World) :
 Calls Tryz.prog 122 #[.int .u64 a,.int .u64 b,.int .u64 c,.int .u64 d,.int .u64 t] w fun e w'=>e = .returned (numV ((val4 a b c d+115792089237316195423570985008687907853269984665640564039457584007913129639936*t)%pF))∧Below w.heap.size w w':=by
 obtain ⟨s0,s1,s2,s3,h0,h1,h2,h3,es,rs⟩:=addSmall_any a b c (d%9223372036854775808) ((t*2+d / 9223372036854775808)*19) ha hb hc (by omega) (by omega)
 have hs3:s3<9223372036854775809:=by unfold val4 at es;omega
 obtain ⟨m0,m1,m2,m3,g0,g1,g2,g3,em,rm⟩:=addSmall_any s0 s1 s2 s3 19 h0 h1 h2 (by omega) (by decide)
 obtain ⟨f1,f2⟩:=settle_val (val4 a b c d) (val4 a b c (d%9223372036854775808)) (val4 s0 s1 s2 s3) (val4 m0 m1 m2 m3) t (d / 9223372036854775808) (by unfold val4;omega) es (by unfold val4;omega) ht (by omega) em
 obtain ⟨N,hN⟩:∃ N,N=(val4 a b c d+115792089237316195423570985008687907853269984665640564039457584007913129639936*t)%pF:=⟨_,rfl⟩
 rw [←hN] at f1 f2 ⊢
 have o1:=over_bits t d ht hd
 obtain ⟨ox,hox⟩:∃ ox,ox=t*2+d / 9223372036854775808:=⟨_,rfl⟩
 obtain ⟨dl,hdl⟩:∃ dl,dl=d%9223372036854775808:=⟨_,rfl⟩
 obtain ⟨ml,hml⟩:∃ ml,ml=m3%9223372036854775808:=⟨_,rfl⟩
 have hox77:ox≤77:=by omega
 rw [←hox,←hdl] at rs
 rw [←hox] at o1
 have o2:=mask63 d hd
 have o3:=mask63 m3 g3
 rw [←hdl] at o2
 rw [←hml] at o3
 obtain ⟨ov,hov⟩:∃ ov,ov=ox*19:=⟨_,rfl⟩
 rw [←hov] at rs
 have o4:(ox:Int)*19=(ov:Int):=by omega
 have hmll:ml<18446744073709551616:=by omega
 have fin1:m3 > 9223372036854775807→(Value.agg #[.int .u64 m0,.int .u64 m1,.int .u64 m2,.int .u64 ml]:Value)=numV N:=fun hm=>numV_of N m0 m1 m2 ml g0 g1 g2 (by omega) (by rw [f2 (by unfold val4;omega)];unfold val4;omega)
 have fin2:¬m3 > 9223372036854775807→(Value.agg #[.int .u64 s0,.int .u64 s1,.int .u64 s2,.int .u64 s3]:Value)=numV N:=fun hm=>numV_of N s0 s1 s2 s3 h0 h1 h2 (by omega) (by rw [f1 (by unfold val4;omega)])
 clear es em hN f1 f2 hox hdl hml hov
 by_cases hm:m3 > 9223372036854775807
 · have fin:=Hid.mk' (fin1 hm)
   have hm':(9223372036854775807:Int)<(m3:Int):=by omega
   clear fin1 fin2
   go_enter Tryz.func122,Tryz.ntmps122
   go_wp2_with (first
    | (go_at_call 151;refine (rs _).mono ?_;clear rs;rintro e w' ⟨rfl,hw⟩;subst hw)
    | (go_at_call 151;refine (rm19 (rm _)).mono ?_;rintro e w' ⟨rfl,hw⟩;subst hw))
   (try simp only [Exit.inBlock,Exit.then])
   exact bodyPost_ret (results_fresh4 Tryz.results122 _ _ _ _ _ _ _ rfl Tryz.underlying86 rfl (by kernel_rfl)) rfl ⟨by rw [fin.out],(Below.refl _ _).alloc (Nat.le_refl _) _⟩
 · have fin:=Hid.mk' (fin2 hm)
   have hm':¬(9223372036854775807:Int)<(m3:Int):=by omega
   clear fin1 fin2
   go_enter Tryz.func122,Tryz.ntmps122
   go_wp2_with (first
    | (go_at_call 151;refine (rs _).mono ?_;clear rs;rintro e w' ⟨rfl,hw⟩;subst hw)
    | (go_at_call 151;refine (rm19 (rm _)).mono ?_;rintro e w' ⟨rfl,hw⟩;subst hw))
   (try simp only [Exit.inBlock,Exit.then])
   exact bodyPost_ret (results_fresh4 Tryz.results122 _ _ _ _ _ _ _ rfl Tryz.underlying86 rfl (by kernel_rfl)) rfl ⟨by rw [fin.out],(Below.refl _ _).alloc (Nat.le_refl _) _⟩
end Go.Proofs.YtcgkajlehdgpoaaGreatDoor
namespace Go.Proofs.YtcgkajlehdgpoaaGreatDoor
open Go.RowKit
def cr (L:Nat→Int):Nat→Int
 | 0=>0
 | i+1=>(L i+cr L i) / 65536
def stC (L:Nat→Int) (k:Nat):Nat→Int:=fun j=>if j<k then (L j+cr L j)%65536 else if j=k then L j+cr L j else L j
def carryL (L:Nat→Int):Nat→Int:=fun j=>if j=0 then L 0%65536+38*cr L 16 else (L j+cr L j)%65536
def valR (L:Nat→Int):Nat→Int
 | 0=>0
 | n+1=>valR L n+L n*65536 ^ n
theorem valR_congr {L M:Nat→Int}:∀ n,(∀ j,j<n→L j=M j)→valR L n=valR M n
 | 0,_=>rfl
 | n+1,h=>by rw [valR,valR,valR_congr n (fun j hj=>h j (by omega)),h n (by omega)]
theorem valR_digits (L:Nat→Int):∀ n,valR (fun j=>(L j+cr L j)%65536) n+cr L n*65536 ^ n=valR L n
 | 0=>by simp [valR,cr]
 | n+1=>by
  have h:=valR_digits L n
  rw [valR,valR,cr,←h]
  have e:L n+cr L n=65536*((L n+cr L n) / 65536)+(L n+cr L n)%65536:=(Int.mul_ediv_add_emod _ _).symm
  have e2:(L n+cr L n)*65536 ^ n=(65536*((L n+cr L n) / 65536)+(L n+cr L n)%65536)*65536 ^ n:=congrArg (· * 65536 ^ n) e
  rw [Int.add_mul,Int.add_mul] at e2
  have e3:65536*((L n+cr L n) / 65536)*65536 ^ n=(L n+cr L n) / 65536*65536 ^ (n+1):=by
   rw [Int.pow_succ,Int.mul_comm 65536,Int.mul_assoc,Int.mul_comm 65536 (65536 ^ n)]
  omega
theorem valR_carry (L:Nat→Int):valR (carryL L) 16=valR L 16 - cr L 16*2*(pF:Int):=by
 have h:=valR_digits L 16
 have h1:∀ n,valR (carryL L) (n+1)=valR (fun j=>(L j+cr L j)%65536) (n+1)+38*cr L 16:=by
  intro n
  induction n with
  | zero =>
   simp only [valR,carryL,if_true,cr]
   simp
  | succ n ih =>
   rw [valR,ih]
   conv=>rhs;rw [valR]
   simp only [carryL,Nat.add_eq_zero_iff,Nat.one_ne_zero,and_false,if_false]
   omega
 have h2:valR (carryL L) 16=valR (fun j=>(L j+cr L j)%65536) 16+38*cr L 16:=h1 15
 have e:(65536:Int) ^ 16=2*(pF:Int)+38:=by decide
 have e2:cr L 16*(65536:Int) ^ 16=cr L 16*2*(pF:Int)+38*cr L 16:=by rw [e,Int.mul_add,Int.mul_assoc,Int.mul_comm (cr L 16) 38]
 rw [h2,←h,e2]
 generalize cr L 16*2*(pF:Int)=Y
 omega
theorem cr_bd (L:Nat→Int) (M:Int) (hM:2≤M) (h:∀ j,j<16→-M≤L j∧L j≤M):∀ i,i≤16→-M≤cr L i∧cr L i≤M
 | 0,_=>by simp [cr];omega
 | i+1,hi=>by
  have h1:=cr_bd L M hM h i (by omega)
  have h2:=h i (by omega)
  rw [cr];omega
theorem cr_bd2 (L:Nat→Int) (M:Int) (hM:2≤M) (h:∀ j,j<16→-M≤L j∧L j≤M) (i:Nat) (hi:i≤16):-(M / 32768) - 1≤cr L i∧cr L i≤M / 32768+1:=by
 cases i with
 | zero=>simp [cr];omega
 | succ i =>
  have h1:=cr_bd L M hM h i (by omega)
  have h2:=h i (by omega)
  rw [cr];omega
structure Dig (R:Int) (L:Nat→Int):Prop where
 low:-R≤L 0∧L 0≤R
 dig:∀ j,0<j→j<16→0≤L j∧L j≤65535
theorem Dig.all {R:Int} {L:Nat→Int} (h:Dig R L) (hR:65535≤R):∀ j,j<16→-R≤L j∧L j≤R:=fun j hj=>by
 by_cases e:j=0
 · rw [e];exact h.low
 · have:=h.dig j (by omega) hj;omega
theorem carry_dig (L:Nat→Int) (M:Int) (hM:2≤M) (h:∀ j,j<16→-M≤L j∧L j≤M):Dig (65535+38*(M / 32768+1)) (carryL L):=by
 have h1:=cr_bd2 L M hM h 16 (Nat.le_refl _)
 refine ⟨?_,fun j h0 hj => ?_⟩
 · unfold carryL;rw [if_pos rfl];omega
 · unfold carryL;rw [if_neg (by omega)];omega
theorem cr_small (L:Nat→Int) (h:Dig 9007199254740992 L):∀ i,4≤i→i≤16→-1≤cr L i∧cr L i≤1:=by
 have c1:-137438953472≤cr L 1∧cr L 1≤137438953472:=by
  have:=h.low
  show _≤(L 0+0) / 65536∧(L 0+0) / 65536≤_
  omega
 have c2:-2097152≤cr L 2∧cr L 2≤2097153:=by
  have:=h.dig 1 (by decide) (by decide)
  show _≤(L 1+cr L 1) / 65536∧(L 1+cr L 1) / 65536≤_
  omega
 have c3:-33≤cr L 3∧cr L 3≤33:=by
  have:=h.dig 2 (by decide) (by decide)
  show _≤(L 2+cr L 2) / 65536∧(L 2+cr L 2) / 65536≤_
  omega
 intro i h4 hi
 induction i with
 | zero=>omega
 | succ i ih =>
  have hd:=h.dig i (by omega) (by omega)
  rw [cr]
  by_cases e:i=3
  · subst e;omega
  · have:=ih (by omega) (by omega);omega
theorem carry_fine (L:Nat→Int) (h:Dig 9007199254740992 L):Dig 65573 (carryL L)∧-38≤carryL L 0:=by
 have h1:=cr_small L h 16 (by decide) (Nat.le_refl _)
 refine ⟨⟨?_,fun j h0 hj => ?_⟩,?_⟩
 · unfold carryL;rw [if_pos rfl];omega
 · unfold carryL;rw [if_neg (by omega)];omega
 · unfold carryL;rw [if_pos rfl];omega
def Nrm (L:Nat→Int):Prop:=∀ j,j<16→0≤L j∧L j≤65535
theorem carry_nrm (L:Nat→Int) (h:Dig 65573 L) (h0:-38≤L 0):Nrm (carryL L):=by
 have key:∀ i,1≤i→i≤16→(cr L i=0∨cr L i=cr L 1):=by
  intro i h1 hi
  have c1:cr L 1=(L 0+0) / 65536:=rfl
  have hl:=h.low
  induction i with
  | zero=>omega
  | succ i ih =>
   by_cases e:i=0
   · subst e;exact .inr rfl
   · have hd:=h.dig i (by omega) (by omega)
     rw [cr]
     rcases ih (by omega) (by omega) with e2 | e2 <;> rw [e2] <;> omega
 intro j hj
 by_cases e:j=0
 · subst e
   unfold carryL;rw [if_pos rfl]
   have c1:cr L 1=(L 0+0) / 65536:=rfl
   have hl:=h.low
   rcases key 16 (by decide) (Nat.le_refl _) with e2 | e2 <;> rw [e2] <;> omega
 · unfold carryL;rw [if_neg e];omega
end Go.Proofs.YtcgkajlehdgpoaaGreatDoor
namespace Go.Proofs.YtcgkajlehdgpoaaGreatDoor
open Go.RowKit
def zI:Array Value:=Array.replicate 16 (.int .i64 0)
theorem zI_at (j:Nat) (h:j<16):zI[j]? = some (.int .i64 0):=by simp [zI,h]
theorem zeroR (w:World):Sem.run Tryz.prog (zeroValue 114) w = .ok (.agg zI) w:=by kernel_rfl
theorem infoR:(Tryz.prog.info? 114).map (·.size)=some 16:=by kernel_rfl
theorem infoRL (L:Nat→Int):(Tryz.prog.info? 114).map (·.size)=some (intsI 16 L).length:=by rw [intsI_len];exact infoR
theorem infoRA (L:Nat→Int):(Tryz.prog.info? 114).map (·.size)=some (intsI 16 L).toArray.size:=by rw [intsI_size];exact infoR
theorem oneR (L:Nat→Int):(intsI 16 L).toArray.all (·.oneCell')=true:=all_oneCell_toArray (intsI_one 16 L)
theorem stC_zero (L:Nat→Int) (j:Nat):(if 0=16 then carryL L else stC L 0) j=L j:=by
 rw [if_neg (by decide)]
 unfold stC
 rw [if_neg (Nat.not_lt_zero j)]
 by_cases e:j=0
 · rw [if_pos e,e];show L 0+0=L 0;omega
 · rw [if_neg e]
set_option maxRecDepth 20000 in
set_option maxHeartbeats 2000000 in
theorem carry_any (L:Nat→Int) (hL:∀ j,j<16→-4611686018427387904≤L j∧L j≤4611686018427387904) (w:World) :
 Calls Tryz.prog 108 #[refV L] w fun e w'=>e = .returned (refV (carryL L))∧Below w.heap.size w w':=by
 have hz:=zeroR
 have hcb:=cr_bd2 L 4611686018427387904 (by decide) hL
 obtain ⟨W,hW⟩:∃ W,W=(w.alloc (.cells (intsI 16 L).toArray 114)).alloc (.cells zI 114):=⟨_,rfl⟩
 have HW:=Hid.mk' hW
 have hWs:W.heap.size=w.heap.size+1+1:=by rw [hW];simp
 have hbW:Below w.heap.size w W:=by rw [hW];exact ((Below.refl _ _).alloc (Nat.le_refl _) _).alloc (by simp) _
 have hrow0:IRow W w.heap.size 16 L:=by rw [hW];exact (IRow.box w 16 L _).below ((Below.refl _ _).alloc (Nat.le_refl _) _) (by simp)
 have hres:IRow W (w.heap.size+1) 16 (fun _=>0):=by
  have:=IRow.fresh (w.alloc (.cells (intsI 16 L).toArray 114)) zI 114 (n:=16) (L:=fun _=>0) (fun j hj=>zI_at j hj)
  rw [World.size_alloc] at this
  rw [hW];exact this
 unfold refV
 clear hW
 go_enter Tryz.func108,Tryz.ntmps108
 go_wp2
 rw [←HW.out]
 go_loopw [3] (fun i wr=>∃ k:Nat,k≤16∧i = .int .i64 k∧IRow wr w.heap.size 16 (if k=16 then carryL L else stC L k)∧IRow wr (w.heap.size+1) 16 (fun _=>0)∧Below w.heap.size w wr) (fun i _=>16 - (intOf i).toNat)
 case atStart=>exact ⟨0,Nat.zero_le _,rfl,hrow0.congr (fun j _=>(stC_zero L j).symm),hres,hbW⟩
 case round =>
  clear hrow0 hres hbW hz
  obtain ⟨k,hk,rfl,hrow,hre,hb⟩:=hrel
  by_cases hlt:k<16
  · rw [if_neg (by omega)] at hrow
    obtain ⟨rk,fk⟩:=hrow k hlt
    have ek:stC L k k=L k+cr L k:=by simp [stC]
    rw [ek] at rk
    have hc1:=hcb k (by omega)
    have hc2:=hcb (k+1) (by omega)
    have hl1:=hL k hlt
    have ec:(L k+cr L k) / 65536=cr L (k+1):=rfl
    have hab:-4611826755915743233≤L k+cr L k∧L k+cr L k≤4611826755915743233:=by omega
    have hcb2:-140737488355329≤cr L (k+1)∧cr L (k+1)≤140737488355329:=by omega
    by_cases h15:k<15
    · obtain ⟨rn,fn⟩:=hrow (k+1) (by omega)
      have en:stC L k (k+1)=L (k+1):=by unfold stC;rw [if_neg (by omega),if_neg (by omega)]
      rw [en] at rn
      have hl2:=hL (k+1) (by omega)
      clear hcb hL hc1 hc2 ek en
      go_wp2
      go_roundw
      case rel =>
       refine ⟨k+1,by omega,by go_num,?_,(hre.far (by show w.heap.size≠w.heap.size+1;omega) _).far (by show w.heap.size≠w.heap.size+1;omega) _,(hb.setCell (Nat.le_refl _) _).setCell (Nat.le_refl _) _⟩
       have h1:=(hrow.set (i:=k) hlt (L k+cr L k - cr L (k+1)*65536)).set (i:=k+1) (by omega) (L (k+1)+cr L (k+1))
       refine h1.congr (fun j hj => ?_)
       rw [if_neg (by omega)]
       unfold updI stC
       by_cases e1:j=k+1
       · subst e1;rw [if_pos rfl,if_neg (by omega),if_pos rfl]
       · rw [if_neg e1]
         by_cases e2:j=k
         · subst e2
           rw [if_pos rfl,if_pos (by omega)]
           rw [←ec];omega
         · rw [if_neg e2]
           by_cases e3:j<k
           · rw [if_pos e3,if_pos (by omega)]
           · rw [if_neg e3,if_neg e2,if_neg (by omega),if_neg e1]
      case measure=>simp [intOf];omega
    · have hke:k=15:=by omega
      subst hke
      obtain ⟨rn,fn⟩:=hrow 0 (by decide)
      have en:stC L 15 0=L 0%65536:=by unfold stC;rw [if_pos (by decide)];show (L 0+0)%65536=_;rw [Int.add_zero]
      rw [en] at rn
      clear hcb hL hc1 hc2 ek en
      have hm0:0≤L 0%65536∧L 0%65536<65536:=by omega
      have hcb3:-140737488355329≤cr L 16∧cr L 16≤140737488355329:=hcb2
      have ec3:(L 15+cr L 15) / 65536=cr L 16:=rfl
      clear hcb2 ec
      go_wp2
      go_roundw
      case rel =>
       refine ⟨16,by omega,by go_num,?_,(hre.far (by show w.heap.size≠w.heap.size+1;omega) _).far (by show w.heap.size≠w.heap.size+1;omega) _,(hb.setCell (Nat.le_refl _) _).setCell (Nat.le_refl _) _⟩
       have h1:=(hrow.set (i:=15) (by decide) (L 15+cr L 15 - cr L 16*65536)).set (i:=0) (by decide) (L 0%65536+38*cr L 16)
       refine h1.congr (fun j hj => ?_)
       rw [if_pos rfl]
       unfold updI stC carryL
       by_cases e1:j=0
       · rw [if_pos e1,if_pos e1]
       · rw [if_neg e1,if_neg e1]
         by_cases e2:j=15
         · subst e2
           rw [if_pos rfl]
           show L 15+cr L 15 - (L 15+cr L 15) / 65536*65536=_
           omega
         · rw [if_neg e2,if_pos (by omega)]
      case measure=>simp [intOf]
  · have hke:k=16:=by omega
    subst hke
    rw [if_pos rfl] at hrow
    obtain ⟨X,hX⟩:∃ X,X=carryL L:=⟨_,rfl⟩
    rw [←hX] at hrow
    have HX:=Hid.mk' hX
    clear hX hcb hL
    have hi1:=infoRL X
    have hi2:=infoRA X
    have ho:=oneR X
    have hth:wr.there (w.heap.size+1) 0 (intsI 16 X).toArray.size:=by rw [intsI_size];exact hre.there
    go_wp2_with (first
     | (refine wpList_load_mid rfl 114 _ rfl w.heap.size 0 rfl (intsI 16 X) _ hrow.range Tryz.underlying114 rfl hi1 ?_)
     | (refine wpList_store_mid rfl 114 _ _ rfl (w.heap.size+1) 0 (intsI 16 X).toArray rfl rfl hth hi2 ho ?_))
    (try simp only [Exit.inBlock,Exit.then])
    refine bodyPost_ret (results_cell_mid Tryz.results108 _ _ (w.heap.size+1) 0 (intsI 16 X) _ rfl (World.rangeAt_setCells_same _ _ _ _ (by rw [intsI_len];exact hre.there)) Tryz.underlying114 rfl hi1) rfl ⟨by rw [HX.out],?_⟩
    exact below_setCells (by omega) _ _ _ hb
end Go.Proofs.YtcgkajlehdgpoaaGreatDoor
