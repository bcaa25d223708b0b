/- What the proof stands on: ZAb2, D1RR, D1RN, D1RQ, D1RT, D1CC, D1CG, D1CB, D1Pcs, D1CD, D1CI. -/
import Derived.Test.YtddkbmnkbfciaaaGreatDoorBaseM
import Derived.Test.YtddkbmnkbfciaaaGreatDoorEqNM
import Derived.Test.YtddkbmnkbfciaaaGreatDoorRFnM
import Derived.Laws.BitsAllLaws
import Derived.ScopeJumps
import Derived.WalkMore
namespace Go.Proofs.YtddkbmnkbfciaaaGreatDoor
open Go.RowKit
abbrev oN (d:Nat) (o:Op) (t:TypeId) (p:String) (a:Array Edge):Oper:={ dst:=some d,op:=o,type:=t,pos:=p,after:=a,guard:=none }
abbrev pA (g o:Nat):Value := .pointer (some ⟨g,o,none⟩)
theorem pS:(∀ (a:Act) (d:Nat) (v:Value),a.put (some d) v={ a with tmps:=a.tmps.setIfInBounds d v })∧(∀ (l:List Value) (i:Nat) (v:Value),l.toArray.setIfInBounds i v=(l.set i v).toArray)∧(∀ (x:Value) (l:List Value) (v:Value),(x :: l).set 0 v=v :: l)∧(∀ (x:Value) (l:List Value) (n:Nat) (v:Value),(x :: l).set (n+1) v=x :: l.set n v) :=
 ⟨fun _ _ _=>rfl,fun _ _ _=>List.setIfInBounds_toArray ..,fun _ _ _=>rfl,fun _ _ _ _=>rfl⟩
section
variable {P:Program} {md:Region.Mode} {ops:Array Oper} {Q:Exit→Act→World→Prop} {S:World→Prop} {fuel:Nat} {listed:Array Bool} {a:Act} {w:World}
theorem tkH (i:Nat) (oi:Oper) (v:Value) (hS:S w) (hy:YieldsIf P ops S oi v a)
 (h:wpAnyH P md ops Q S fuel (listed.setIfInBounds i true) (a.put oi.dst v) w) (hQ:∀ c a w,Q (.panic c) (a.put oi.dst v) w→Q (.panic c) a w:=by exact fun _ _ _ h=>h) (hi:ops[i]? = some oi:=by rfl) (hs:Region.noSelect ops=true:=by kernel_rfl) (hf:Region.free md ops listed i=true:=by kernel_rfl) (hr:(Region.ready md ops listed).contains i=true:=by kernel_rfl):wpAnyH P md ops Q S (fuel+1) listed a w :=
 wpAnyH_take hi hs hf hr hQ hy hS h
theorem bR {w:World}:Below w.heap.size w w:=Below.refl _ _
theorem ldH {V:World} {o:Oper} {g off:Nat} {cs:List Value} (h:RW V g off cs) (ty k:Nat) {d:TypeDesc} (hu:P.underlying ty=some d) (hi:(P.info? ty).map (·.size)=some cs.length) (hd:d.isRow=true:=by rfl) (hw:Region.wanted o (yielded ops a.tmps)=true:=by rfl) (ho:o.op = .load ty (.tmp k):=by rfl) (hx:a.eval (.tmp k) = .pointer (some ⟨g,off,none⟩):=by rfl):YieldsIf P ops (fun w'=>Below V.heap.size V w') o (.agg cs.toArray) a :=
 yieldsIf_load_mid hw ty _ ho g off hx cs d (fun _ hb=>(h.still hb).range) hu hd hi
theorem arC {i:Nat} {rs:List Nat} (oi:Oper) {f:FuncId} {args:Array Value} {R:Ending→World→Prop} (c:Calls P f args w R) (h:∀ e w',R e w'→∃ r,e = .returned r∧S w'∧wpAnyH P md ops Q S fuel (listed.setIfInBounds i true) (a.put oi.dst r) w') (hs:AllReadyH P md ops Q S fuel listed a w rs)
 (hi:ops[i]? = some oi:=by rfl) (hw:Region.wanted oi (yielded ops a.tmps)=true:=by rfl) (hrun:(execOp a.eval oi).run P w = .ok (.enter f args) w:=by kernel_rfl):AllReadyH P md ops Q S fuel listed a w (i :: rs):=by
 refine AllReadyH.cons hi (fun K hK => ?_) hs
 rw [if_pos hw]
 unfold Oper.wp
 rw [hrun,Oper.upon_enter]
 refine c.mono fun e w' hR => ?_
 obtain ⟨r,rfl,hS,hk⟩:=h e w' hR
 exact hK.out _ _ hS (fun _=>hk)
theorem callH (i:Nat) (oi:Oper) {f:FuncId} {args:Array Value} {R:Ending→World→Prop} (c:Calls P f args w R) (h:∀ e w',R e w'→∃ r,e = .returned r∧S w'∧wpAnyH P md ops Q S fuel (listed.setIfInBounds i true) (a.put oi.dst r) w')
 (hr:Region.ready md ops listed=[i]:=by kernel_rfl) (hi:ops[i]? = some oi:=by rfl) (hw:Region.wanted oi (yielded ops a.tmps)=true:=by rfl) (hrun:(execOp a.eval oi).run P w = .ok (.enter f args) w:=by kernel_rfl):wpAnyH P md ops Q S (fuel+1) listed a w :=
 wpAnyH_ready hr (by simp) (arC oi c h AllReadyH.nil hi hw hrun)
theorem callN (i:Nat) (oi:Oper) {f:FuncId} {args:Array Value} {R:Ending→World→Prop} (c:Calls P f args w R) (h:∀ e w',R e w'→∃ r,e = .returned r∧Below w.heap.size w w'∧wpAnyH P md ops Q (fun u=>Below w'.heap.size w' u) fuel (listed.setIfInBounds i true) (a.put oi.dst r) w')
 (hr:Region.ready md ops listed=[i]:=by kernel_rfl) (hi:ops[i]? = some oi:=by rfl) (hw:Region.wanted oi (yielded ops a.tmps)=true:=by rfl) (hrun:(execOp a.eval oi).run P w = .ok (.enter f args) w:=by kernel_rfl):wpAnyH P md ops Q (fun u=>Below w.heap.size w u) (fuel+1) listed a w :=
 callH i oi c (fun e w' hR=>by
  obtain ⟨r,he,hb,hk⟩:=h e w' hR
  exact ⟨r,he,hb,wpAnyH_narrow (fun _ hu=>below_next hb hu) _ _ _ _ hk⟩) hr hi hw hrun
theorem arA {i:Nat} {rs:List Nat} (oi:Oper) {cs:Array Value} {t:TypeId} (h:S (w.alloc (.cells cs t))∧wpAnyH P md ops Q S fuel (listed.setIfInBounds i true) (a.put oi.dst (pA w.heap.size 0)) (w.alloc (.cells cs t))) (hs:AllReadyH P md ops Q S fuel listed a w rs)
 (hrun:(execOp a.eval oi).run P w = .ok (.value (pA w.heap.size 0)) (w.alloc (.cells cs t)):=by kernel_rfl) (hi:ops[i]? = some oi:=by rfl) (hw:Region.wanted oi (yielded ops a.tmps)=true:=by rfl):AllReadyH P md ops Q S fuel listed a w (i :: rs):=by
 refine AllReadyH.cons hi (fun K hK => ?_) hs
 rw [if_pos hw]
 unfold Oper.wp
 rw [hrun,Oper.upon_value]
 exact hK.out _ _ h.1 (fun _=>h.2)
theorem dag_root (h:∀ G:Nat→Array Bool→Act→World→Prop,G=wpAnyH P md ops Q S→G fuel listed a w):wpAnyH P md ops Q S fuel listed a w:=h _ rfl
theorem dagW {G:Nat→Array Bool→Act→World→Prop} (hG:Hid (G=wpAnyH P md ops Q S)) {f:Nat} {l:Array Bool} {b:Act} (h:G f l b w) (hb:b=a) (hf:f=fuel:=by kernel_rfl) (hl:l=listed:=by kernel_rfl):wpAnyH P md ops Q S fuel listed a w:=by
 subst hf;subst hl;subst hb;rw [←hG.out];exact h
theorem at_list {i:Nat} {oi:Oper} (hi:ops.toList[i]? = some oi):ops[i]? = some oi:=by rw [←Array.getElem?_toList];exact hi
theorem tg (i:Nat) (hS:S w) {oi:Oper} {v:Value} (h:wpAnyH P md ops Q S fuel (listed.setIfInBounds i true) (a.put oi.dst v) w) (hi:ops.toList[i]? = some oi:=by rfl)
 (hy:∀ w,S w→(execOp a.eval oi).run P w = .ok (.value v) w:=by intro w hSw;go_simp;try with_reducible rfl) (hw:Region.wanted oi (yielded ops a.tmps)=true:=by rfl)
 (hQ:∀ c b w,Q (.panic c) (b.put oi.dst v) w→Q (.panic c) b w:=by exact fun _ _ _ h=>h) (hs:Region.noSelect ops=true:=by kernel_rfl) (hf:Region.free md ops listed i=true:=by kernel_rfl) (hr:(Region.ready md ops listed).contains i=true:=by kernel_rfl):wpAnyH P md ops Q S (fuel+1) listed a w :=
 tkH i oi v hS (.inl ⟨hw,hy⟩) h hQ (at_list hi) hs hf hr
theorem tc (i:Nat) (hS:S w) {oi:Oper} {g o:Nat} {v:Value} (hc:∀ u,S u→u.cell? ⟨g,o,none⟩=some v) (h:wpAnyH P md ops Q S fuel (listed.setIfInBounds i true) (a.put oi.dst v) w) (hi:ops.toList[i]? = some oi:=by rfl)
 (hy:∀ w,w.cell? ⟨g,o,none⟩=some v→(execOp a.eval oi).run P w = .ok (.value v) w:=by intro w hc;go_simp;try with_reducible rfl) (hw:Region.wanted oi (yielded ops a.tmps)=true:=by rfl)
 (hQ:∀ c b w,Q (.panic c) (b.put oi.dst v) w→Q (.panic c) b w:=by exact fun _ _ _ h=>h) (hs:Region.noSelect ops=true:=by kernel_rfl) (hf:Region.free md ops listed i=true:=by kernel_rfl) (hr:(Region.ready md ops listed).contains i=true:=by kernel_rfl):wpAnyH P md ops Q S (fuel+1) listed a w :=
 tkH i oi v hS (.inl ⟨hw,fun u hu=>hy u (hc u hu)⟩) h hQ (at_list hi) hs hf hr
theorem tl (i:Nat) {V:World} {oi:Oper} {g off k:Nat} {cs:List Value} (r:RW V g off cs) (hS:Below V.heap.size V w) (ty:Nat) {d:TypeDesc} (hu:P.underlying ty=some d) (hin:(P.info? ty).map (·.size)=some cs.length)
 (h:wpAnyH P md ops Q (fun u=>Below V.heap.size V u) fuel (listed.setIfInBounds i true) (a.put oi.dst (.agg cs.toArray)) w) (hi:ops.toList[i]? = some oi:=by rfl) (ho:oi.op = .load ty (.tmp k):=by rfl)
 (hd:d.isRow=true:=by rfl) (hw:Region.wanted oi (yielded ops a.tmps)=true:=by rfl) (hx:a.eval (.tmp k) = .pointer (some ⟨g,off,none⟩):=by rfl)
 (hQ:∀ c b w,Q (.panic c) (b.put oi.dst (.agg cs.toArray)) w→Q (.panic c) b w:=by exact fun _ _ _ h=>h) (hs:Region.noSelect ops=true:=by kernel_rfl) (hf:Region.free md ops listed i=true:=by kernel_rfl) (hr:(Region.ready md ops listed).contains i=true:=by kernel_rfl):wpAnyH P md ops Q (fun u=>Below V.heap.size V u) (fuel+1) listed a w :=
 tkH i oi _ hS (ldH r ty k hu hin hd hw ho hx) h hQ (at_list hi) hs hf hr
theorem cl (i:Nat) {oi:Oper} {f:FuncId} {args:Array Value} {R:Ending→World→Prop} (c:Calls P f args w R) (h:∀ e w',R e w'→∃ r,e = .returned r∧S w'∧wpAnyH P md ops Q S fuel (listed.setIfInBounds i true) (a.put oi.dst r) w')
 (hi:ops.toList[i]? = some oi:=by rfl) (hr:Region.ready md ops listed=[i]:=by kernel_rfl) (hw:Region.wanted oi (yielded ops a.tmps)=true:=by rfl) (hrun:(execOp a.eval oi).run P w = .ok (.enter f args) w:=by kernel_rfl):wpAnyH P md ops Q S (fuel+1) listed a w :=
 callH i oi c h hr (at_list hi) hw hrun
theorem cn (i:Nat) {oi:Oper} {f:FuncId} {args:Array Value} {R:Ending→World→Prop} (c:Calls P f args w R) (h:∀ e w',R e w'→∃ r,e = .returned r∧Below w.heap.size w w'∧wpAnyH P md ops Q (fun u=>Below w'.heap.size w' u) fuel (listed.setIfInBounds i true) (a.put oi.dst r) w')
 (hi:ops.toList[i]? = some oi:=by rfl) (hr:Region.ready md ops listed=[i]:=by kernel_rfl) (hw:Region.wanted oi (yielded ops a.tmps)=true:=by rfl) (hrun:(execOp a.eval oi).run P w = .ok (.enter f args) w:=by kernel_rfl):wpAnyH P md ops Q (fun u=>Below w.heap.size w u) (fuel+1) listed a w :=
 callN i oi c h hr (at_list hi) hw hrun
theorem tk (i:Nat) (v:Value) (hS:S w) {oi:Oper} (hi:ops.toList[i]? = some oi:=by rfl) (hy:YieldsIf P ops S oi v a) (h:wpAnyH P md ops Q S fuel (listed.setIfInBounds i true) (a.put oi.dst v) w)
 (hQ:∀ c b w,Q (.panic c) (b.put oi.dst v) w→Q (.panic c) b w:=by exact fun _ _ _ h=>h) (hs:Region.noSelect ops=true:=by kernel_rfl) (hf:Region.free md ops listed i=true:=by kernel_rfl) (hr:(Region.ready md ops listed).contains i=true:=by kernel_rfl):wpAnyH P md ops Q S (fuel+1) listed a w :=
 tkH i oi v hS hy h hQ (at_list hi) hs hf hr
end
end Go.Proofs.YtddkbmnkbfciaaaGreatDoor
namespace Go.Proofs.YtddkbmnkbfciaaaGreatDoor
open Go.RowKit
def RdR (w:World) (g L:Nat) (B:Nat→Nat) (r:Rd):Prop:=∃ v,RW w g 0 [v,.int .i64 (r.at_:Int),.int .i64 r.e]∧BytesIn w v L B∧r.at_≤L
theorem RdR.keep {w w':World} {g L:Nat} {B:Nat→Nat} {r:Rd} (h:RdR w g L B r) (hb:Below w.heap.size w w'):RdR w' g L B r:=by
 obtain ⟨v,rw_,hv,ha⟩:=h
 exact ⟨v,rw_.still hb,hv.keep hb,ha⟩
theorem RdR.lt {w:World} {g L:Nat} {B:Nat→Nat} {r:Rd} (h:RdR w g L B r):g<w.heap.size:=by
 obtain ⟨_,r,_⟩:=h
 exact r.lt
end Go.Proofs.YtddkbmnkbfciaaaGreatDoor
namespace Go.Proofs.YtddkbmnkbfciaaaGreatDoor
open Go.RowKit
theorem i64_or_nat (a b:Nat) (ha:a<9223372036854775808) (hb:b<9223372036854775808):bits .or .i64 (a:Int) (b:Int)=((a ||| b:Nat):Int):=by
 have hx:a ||| b<2 ^ 63:=Nat.or_lt_two_pow (by omega) (by omega)
 show IntKind.i64.wrap ((BitVec.ofInt 64 (a:Int) ||| BitVec.ofInt 64 (b:Int)).toNat:Int)=_
 rw [BitVec.toNat_or,show (BitVec.ofInt 64 (a:Int)).toNat=a by simp;omega,show (BitVec.ofInt 64 (b:Int)).toNat=b by simp;omega]
 simp only [IntKind.wrap_i64]
 omega
end Go.Proofs.YtddkbmnkbfciaaaGreatDoor
namespace Go.Proofs.YtddkbmnkbfciaaaGreatDoor
open Go.RowKit
theorem BytesIn.put_i64 {w:World} {v:Value} {n g o:Nat} {X:Nat→Nat} {z:Int} (h:BytesIn w v n X) (hc:w.cell? ⟨g,o,none⟩=some (.int .i64 z)) (u:Value):BytesIn (w.setCell ⟨g,o,none⟩ u) v n X:=by
 rcases h with h | ⟨bb,ob,cap,rfl,h1,h2,h3⟩
 · exact .inl h
 · refine .inr ⟨bb,ob,cap,rfl,by rw [World.size_setCell];exact h1,h2,fun j hj => ?_⟩
   have hne:(⟨g,o,none⟩:Addr)≠⟨bb,ob+j,none⟩:=fun e=>by
    rw [e,h3 j hj] at hc
    cases hc
   rw [World.cell?_setCell_other _ _ _ _ hne]
   exact h3 j hj
theorem RW.put {w:World} {g:Nat} {vs:List Value} (r:RW w g 0 vs) (i:Nat) (hi:i<vs.length) (y:Value):RW (w.setCell ⟨g,i,none⟩ y) g 0 (vs.set i y):=by
 have c:w.cell? ⟨g,i,none⟩=some vs[i]:=by
  have:=r.range i vs[i] (List.getElem?_eq_getElem hi)
  rwa [Nat.zero_add] at this
 refine ⟨fun j v hv => ?_,fun j hj => ?_,by rw [World.size_setCell];exact r.lt⟩
 · by_cases e:j=i
   · subst e
     rw [List.getElem?_set_self hi] at hv
     cases hv
     rw [Nat.zero_add]
     exact World.cell?_setCell_same _ _ _ c
   · have hne:(⟨g,i,none⟩:Addr)≠⟨g,0+j,none⟩:=fun e'=>by injection e';omega
     rw [World.cell?_setCell_other _ _ _ _ hne]
     refine r.range j v ?_
     rw [List.getElem?_set_ne (fun e'=>e e'.symm)] at hv
     exact hv
 · rw [List.length_set] at hj
   rw [World.frozen?_setCell]
   refine ⟨?_,(r.there j hj).2⟩
   by_cases e:j=i
   · subst e
     rw [Nat.zero_add,World.cell?_setCell_same _ _ _ c];rfl
   · have hne:(⟨g,i,none⟩:Addr)≠⟨g,0+j,none⟩:=fun e'=>by injection e';omega
     rw [World.cell?_setCell_other _ _ _ _ hne]
     exact (r.there j hj).1
theorem RdR.setAt {w:World} {g L:Nat} {B:Nat→Nat} {r:Rd} (h:RdR w g L B r) (a:Nat) (ha:a≤L):RdR (w.setCell ⟨g,1,none⟩ (.int .i64 (a:Int))) g L B ⟨a,r.e⟩:=by
 obtain ⟨v,rr,hv,-⟩:=h
 exact ⟨v,rr.put 1 (by show 1<3;decide) _,hv.put_i64 (rr.range 1 _ rfl) _,ha⟩
end Go.Proofs.YtddkbmnkbfciaaaGreatDoor
namespace Go.Proofs.YtddkbmnkbfciaaaGreatDoor
open Go.RowKit
theorem onlyV {P:Program} {md:Region.Mode} {ops:Array Oper} {Q:Exit→Act→World→Prop} {S:World→Prop} {fuel:Nat} {listed:Array Bool} {a:Act} {w:World} (i:Nat) {oi:Oper} {v:Value} {w':World} (hrun:(execOp a.eval oi).run P w = .ok (.value v) w') (hS:S w') (h:wpAnyH P md ops Q S fuel (listed.setIfInBounds i true) (a.put oi.dst v) w')
 (hi:ops.toList[i]? = some oi:=by rfl) (hr:Region.ready md ops listed=[i]:=by kernel_rfl) (hw:Region.wanted oi (yielded ops a.tmps)=true:=by rfl):wpAnyH P md ops Q S (fuel+1) listed a w:=by
 refine wpAnyH_ready hr (by simp) (AllReadyH.cons (at_list hi) (fun K hK => ?_) AllReadyH.nil)
 rw [if_pos hw]
 unfold Oper.wp
 rw [hrun,Oper.upon_value]
 exact hK.out _ _ hS (fun _=>h)
theorem exec_append {o:Oper} {a:Act} {w w':World} {v':Value} (s x:Operand) (ho:o.op = .call { callee := .builtin .append,args:=#[s,x],argTypes:=#[29,29] }) (hty:o.type=29) {sv xv:Value} (hs:a.eval s=sv) (hx:a.eval x=xv) (hrun:(Builtin.append_ #[29,29] 29 #[sv,xv]).run Tryz.prog w = .ok v' w'):(execOp a.eval o).run Tryz.prog w = .ok (.value v') w':=by
 simp [execOp,ho,hty,resolve,invoke,builtin,hs,hx,hrun,Result.andThen]
end Go.Proofs.YtddkbmnkbfciaaaGreatDoor
namespace Go.Proofs.YtddkbmnkbfciaaaGreatDoor
open Go.RowKit
def BI (lo hi:Nat) (w:World) (v:Value) (n:Nat) (B:Nat→Nat):Prop:=(∃ xo,v = .slice xo 0 0∧n=0)∨∃ bb ob cap,v = .slice (some ⟨bb,ob,none⟩) n cap∧(lo≤bb∧bb<hi)∧n≤cap∧∀ j,j<n→w.cell? ⟨bb,ob+j,none⟩=some (.int .u8 (B j))
theorem BI.of {lo hi:Nat} {w:World} {v:Value} {n:Nat} {B:Nat→Nat} (h:BI lo hi w v n B) (hh:hi≤w.heap.size):BytesIn w v n B:=by
 rcases h with h | ⟨bb,ob,cap,e,hb,hc,hl⟩
 · exact .inl h
 · exact .inr ⟨bb,ob,cap,e,Nat.lt_of_lt_of_le hb.2 hh,hc,hl⟩
theorem BI.all {w:World} {v:Value} {n:Nat} {B:Nat→Nat} (h:BytesIn w v n B):BI 0 w.heap.size w v n B:=by
 rcases h with h | ⟨bb,ob,cap,e,hb,hc,hl⟩
 · exact .inl h
 · exact .inr ⟨bb,ob,cap,e,⟨Nat.zero_le _,hb⟩,hc,hl⟩
theorem BI.own {base:Nat} {w:World} {v:Value} {n:Nat} {X:Nat→Nat} (h:Own base w v n X):BI base w.heap.size w v n X:=by
 rcases h.form with ⟨rfl,rfl⟩ | ⟨g,cap,rfl,h1,h2,h3,h4⟩
 · exact .inl ⟨none,rfl,rfl⟩
 · exact .inr ⟨g,0,cap,rfl,⟨h1,h2⟩,h3,fun j hj=>(h4 j hj).1⟩
theorem BI.wide {lo hi lo' hi':Nat} {w:World} {v:Value} {n:Nat} {B:Nat→Nat} (h:BI lo hi w v n B) (h1:lo'≤lo) (h2:hi≤hi'):BI lo' hi' w v n B:=by
 rcases h with h | ⟨bb,ob,cap,e,hb,hc,hl⟩
 · exact .inl h
 · exact .inr ⟨bb,ob,cap,e,⟨by omega,by omega⟩,hc,hl⟩
theorem BI.cong {lo hi:Nat} {w:World} {v:Value} {n:Nat} {B C:Nat→Nat} (h:BI lo hi w v n B) (e:∀ j,j<n→B j=C j):BI lo hi w v n C:=by
 rcases h with h | ⟨bb,ob,cap,e',hb,hc,hl⟩
 · exact .inl h
 · exact .inr ⟨bb,ob,cap,e',hb,hc,fun j hj=>by rw [hl j hj,e j hj]⟩
theorem BI.same {lo hi:Nat} {w w':World} {v:Value} {n:Nat} {B:Nat→Nat} (h:BI lo hi w v n B) (e:∀ b o z,lo≤b→b<hi→w.cell? ⟨b,o,none⟩=some (.int .u8 z)→w'.cell? ⟨b,o,none⟩=some (.int .u8 z)):BI lo hi w' v n B:=by
 rcases h with h | ⟨bb,ob,cap,e',hb,hc,hl⟩
 · exact .inl h
 · exact .inr ⟨bb,ob,cap,e',hb,hc,fun j hj=>e _ _ _ hb.1 hb.2 (hl j hj)⟩
theorem BI.below {lo hi M:Nat} {w w':World} {v:Value} {n:Nat} {B:Nat→Nat} (h:BI lo hi w v n B) (hb:Below M w w') (hM:hi≤M):BI lo hi w' v n B :=
 h.same fun b o _ _ h2 hc=>(hb.cell (p:=⟨b,o,none⟩) (Nat.lt_of_lt_of_le h2 hM)).trans hc
theorem BI.put {lo hi:Nat} {w:World} {v:Value} {n:Nat} {B:Nat→Nat} (h:BI lo hi w v n B) {g o:Nat} {u:Value} (hc:w.cell? ⟨g,o,none⟩=some u) (hu:∀ z,u ≠ .int .u8 z) (y:Value):BI lo hi (w.setCell ⟨g,o,none⟩ y) v n B:=by
 refine h.same fun b p z _ _ hz => ?_
 by_cases e:(⟨b,p,none⟩:Addr)=⟨g,o,none⟩
 · rw [e,hc] at hz
   exact absurd (Option.some.inj hz) (hu z)
 · exact (World.cell?_setCell_other _ _ _ _ (fun h=>e h.symm)).trans hz
theorem BI.cut {lo hi:Nat} {w:World} {v:Value} {L:Nat} {B:Nat→Nat} (hv:BI lo hi w v L B) (m:Nat) (hm:m≤L):∃ xo cx x1 c1 x2 c2,v = .slice xo L cx∧(xo=none→cx=0)
 ∧ (∀ W:World,(Instr.sliceAt 29 (.slice xo L cx) none (some (.int .i64 m)) none).run Tryz.prog W = .ok (.slice x1 m c1) W)∧BI lo hi w (.slice x1 m c1) m B
 ∧ (∀ W:World,(Instr.sliceAt 29 (.slice xo L cx) (some (.int .i64 m)) none none).run Tryz.prog W = .ok (.slice x2 (L - m) c2) W)∧BI lo hi w (.slice x2 (L - m) c2) (L - m) (fun j=>B (m+j)):=by
 have u1:Tryz.prog.underlying 29=some (.slice (Tryz.prog.elem 29)):=by kernel_rfl
 have u2:Tryz.prog.elem 29=5:=by kernel_rfl
 have u3:∀ W,((sizeOf 5).run Tryz.prog W) = .ok 1 W:=fun W=>by kernel_rfl
 rcases hv with ⟨xo,rfl,rfl⟩ | ⟨bb,ob,cap,rfl,hb,hc,hcell⟩
 · obtain rfl:m=0:=by omega
   refine ⟨xo,0,xo,0,xo,0,rfl,fun _=>rfl,fun W => ?_,.inl ⟨xo,rfl,rfl⟩,fun W => ?_,.inl ⟨xo,rfl,rfl⟩⟩
   · rw [run_sliceAt_slice W 29 _ _ _ _ u1,run_slice_h W 29 _ 0 0 u1 .i64 _ (by omega) (by omega),u2,u3]
     cases xo <;> simp [sliced]
   · rw [run_sliceAt_slice W 29 _ _ _ _ u1,run_slice_l W 29 _ 0 0 u1 .i64 _ (by omega) (by omega),u2,u3]
     cases xo <;> simp [sliced]
 · have h1:∀ W:World,(Instr.sliceAt 29 (.slice (some ⟨bb,ob,none⟩) L cap) none (some (.int .i64 m)) none).run Tryz.prog W = .ok (.slice (some ⟨bb,ob,none⟩) m cap) W:=fun W=>by
    rw [run_sliceAt_slice W 29 _ _ _ _ u1,run_slice_h W 29 _ L cap u1 .i64 _ (by omega) (by omega),u2,u3]
    simp [sliced,Addr.add_mid]
   by_cases ha:cap=m
   · refine ⟨some ⟨bb,ob,none⟩,cap,some ⟨bb,ob,none⟩,cap,some ⟨bb,ob,none⟩,cap - m,rfl,(fun e=>by cases e),h1,.inr ⟨bb,ob,cap,rfl,hb,by omega,fun j hj=>hcell j (by omega)⟩,fun W => ?_,.inr ⟨bb,ob,cap - m,rfl,hb,by omega,fun j hj=>absurd hj (by omega)⟩⟩
     rw [run_sliceAt_slice W 29 _ _ _ _ u1,run_slice_l W 29 _ L cap u1 .i64 _ (by omega) (by omega),u2,u3]
     simp [sliced,ha]
   · refine ⟨some ⟨bb,ob,none⟩,cap,some ⟨bb,ob,none⟩,cap,some ⟨bb,ob+m,none⟩,cap - m,rfl,(fun e=>by cases e),h1,.inr ⟨bb,ob,cap,rfl,hb,by omega,fun j hj=>hcell j (by omega)⟩,fun W => ?_,.inr ⟨bb,ob+m,cap - m,rfl,hb,by omega,fun j hj=>by rw [Nat.add_assoc];exact hcell (m+j) (by omega)⟩⟩
     rw [run_sliceAt_slice W 29 _ _ _ _ u1,run_slice_l W 29 _ L cap u1 .i64 _ (by omega) (by omega),u2,u3]
     simp [sliced,Addr.add_mid,ha]
theorem u64_or_nat (a b:Nat) (ha:a<18446744073709551616) (hb:b<18446744073709551616):bits .or .u64 (a:Int) (b:Int)=((a ||| b:Nat):Int):=by
 have hx:a ||| b<2 ^ 64:=Nat.or_lt_two_pow (by omega) (by omega)
 show IntKind.u64.wrap ((BitVec.ofInt 64 (a:Int) ||| BitVec.ofInt 64 (b:Int)).toNat:Int)=_
 rw [BitVec.toNat_or,show (BitVec.ofInt 64 (a:Int)).toNat=a by simp;omega,show (BitVec.ofInt 64 (b:Int)).toNat=b by simp;omega]
 show ((a ||| b:Nat):Int)%18446744073709551616=_
 omega
end Go.Proofs.YtddkbmnkbfciaaaGreatDoor
namespace Go.Proofs.YtddkbmnkbfciaaaGreatDoor
open Go.RowKit
def RdC (lo hi:Nat) (w:World) (g L:Nat) (B:Nat→Nat) (r:Rd):Prop:=∃ v,RW w g 0 [v,.int .i64 r.e,.bool true]∧BI lo hi w v (L - r.at_) (fun j=>B (r.at_+j))∧r.at_≤L∧(lo≤g∧g<hi)∧hi≤w.heap.size
theorem RdC.keep {lo hi:Nat} {w w':World} {g L:Nat} {B:Nat→Nat} {r:Rd} (h:RdC lo hi w g L B r) (hb:Below hi w w'):RdC lo hi w' g L B r:=by
 obtain ⟨v,rw_,hv,ha,hg,hh⟩:=h
 exact ⟨v,rw_.below hb hg.2,hv.below hb (Nat.le_refl _),ha,hg,Nat.le_trans hh hb.size⟩
theorem RdC.still {lo hi:Nat} {w w':World} {g L:Nat} {B:Nat→Nat} {r:Rd} (h:RdC lo hi w g L B r) (hb:Below w.heap.size w w'):RdC lo hi w' g L B r :=
 h.keep (hb.mono h.choose_spec.2.2.2.2)
theorem RdC.lt {lo hi:Nat} {w:World} {g L:Nat} {B:Nat→Nat} {r:Rd} (h:RdC lo hi w g L B r):g<w.heap.size:=by
 obtain ⟨_,r,_⟩:=h
 exact r.lt
theorem RdC.cells {lo hi:Nat} {w:World} {g L:Nat} {B:Nat→Nat} {r:Rd} (h:RdC lo hi w g L B r):∃ v,(w.cell? ⟨g,0,none⟩=some v∧w.frozen? ⟨g,0,none⟩=false)∧(w.cell? ⟨g,1,none⟩=some (.int .i64 r.e)∧w.frozen? ⟨g,1,none⟩=false)∧w.cell? ⟨g,2,none⟩=some (.bool true)∧BI lo hi w v (L - r.at_) (fun j=>B (r.at_+j)):=by
 obtain ⟨v,rr,hv,ha,hg,hh⟩:=h
 exact ⟨v,⟨rr.range 0 _ rfl,(rr.there 0 (by simp)).2⟩,⟨rr.range 1 _ rfl,(rr.there 1 (by simp)).2⟩,rr.range 2 _ rfl,hv⟩
end Go.Proofs.YtddkbmnkbfciaaaGreatDoor
namespace Go.Proofs.YtddkbmnkbfciaaaGreatDoor
open Go.RowKit
def knI (n:Int):Nat:=if n / 2 ^ 6=0 then 0 else if n / 2 ^ 14=0 then 1 else if n / 2 ^ 30=0 then 2 else 3
theorem knI_at (n:Int) (k:Nat) (hk:k<3) (h:n / 2 ^ lbN k=0) (hl:∀ q,q<k→¬n / 2 ^ lbN q=0):knI n=k:=by
 unfold knI
 rcases (show k=0∨k=1∨k=2 by omega) with rfl | rfl | rfl
 · exact if_pos h
 · exact (if_neg (hl 0 (by decide))).trans (if_pos h)
 · exact (if_neg (hl 0 (by decide))).trans ((if_neg (hl 1 (by decide))).trans (if_pos h))
theorem knI_none (n:Int) (hl:∀ q,q<3→¬n / 2 ^ lbN q=0):knI n=3:=by
 unfold knI
 exact (if_neg (hl 0 (by decide))).trans ((if_neg (hl 1 (by decide))).trans (if_neg (hl 2 (by decide))))
set_option maxRecDepth 20000 in
set_option maxHeartbeats 4000000 in
theorem cKind_any (n:Int) (w:World):Calls Tryz.prog 183 #[.int .i64 n] w fun e w'=>e = .returned (.int .i64 ((knI n:Nat):Int))∧w'=w:=by
 go_enter Tryz.func183,Tryz.ntmps183
 go_wp2
 go_loopw [4] (fun i wr=>∃ k:Nat,k≤3∧i = .int .i64 k∧w=wr∧∀ q,q<k→¬n / 2 ^ lbN q=0) (fun i _=>3 - (intOf i).toNat)
 case atStart=>exact ⟨0,Nat.zero_le _,rfl,rfl,fun q hq=>absurd hq (Nat.not_lt_zero _)⟩
 case round =>
  obtain ⟨k,hk,rfl,rfl,hl⟩:=hrel
  by_cases hlt:k<3
  · have cb:=cBits_any k hlt w
    have t1:(k:Int)<3:=by omega
    obtain ⟨b,hb⟩:∃ b,b=lbN k:=⟨_,rfl⟩
    have hb64:b<64:=by rw [hb];rcases (show k=0∨k=1∨k=2 by omega) with rfl | rfl | rfl <;> decide
    have t2:(0:Int)≤(b:Int)∧(b:Int)<64:=by omega
    rw [←hb] at cb
    have e4:IntKind.u64.wrap (b:Int)=(b:Int):=by show (b:Int)%18446744073709551616=_;omega
    by_cases hn:n / 2 ^ b=0
    · have hkn:knI n=k:=knI_at n k hlt (by rw [←hb];exact hn) hl
      clear hl hb
      go_wp2_with (go_at_call 185;refine cb.mono ?_;clear cb;rintro e w1 ⟨rfl,hw⟩;obtain rfl:=hw.symm)
      go_ret
      exact ⟨by rw [hkn];rfl,rfl⟩
    · have Hb:=Hid.mk' hb
      have Hl:=Hid.mk' hl
      clear hl hb
      go_wp2_with (go_at_call 185;refine cb.mono ?_;clear cb;rintro e w1 ⟨rfl,hw⟩;obtain rfl:=hw.symm)
      go_roundw
      case rel=>exact ⟨k+1,hlt,by go_num,trivial,fun q hq=>by
       by_cases e:q=k
       · subst e;rw [←Hb.out];exact hn
       · exact Hl.out q (by omega)⟩
      case measure=>simp [intOf];omega
  · obtain rfl:k=3:=by omega
    have hkn:=knI_none n hl
    clear hl
    go_wp2
    go_ret
    exact ⟨by rw [hkn];rfl,rfl⟩
theorem cNum11_good (n s:Nat) (h:szB s=true) (hn:n<mstN s) (w:World):Calls Tryz.prog 133 #[.int .i64 n,.int .i64 s] w fun e w'=>∃ v,e = .returned (.tuple #[v,.int .i64 0])∧BytesIn w' v s (beN n s)∧Below w.heap.size w w':=by
 have c:=cSize_any s w
 rw [h] at c
 have hs:=szB_cases h
 have cm:=cMost_any s (by omega) w
 have cs:=cSplit_any n s (by omega) w
 obtain ⟨y,hy⟩:∃ y:Int,y=((mstN s - 1:Nat):Int):=⟨_,rfl⟩
 rw [←hy] at cm
 have t1:¬y<(n:Int):=by omega
 have t2:¬(n:Int)<0:=by omega
 clear hy hn hs
 go_enter Tryz.func133,Tryz.ntmps133
 go_wp2_with (first
  | (go_at_call 188;refine c.mono ?_;clear c;rintro e w1 ⟨rfl,hw⟩;obtain rfl:=hw.symm)
  | (go_at_call 189;refine cm.mono ?_;clear cm;rintro e w1 ⟨rfl,hw⟩;obtain rfl:=hw.symm)
  | (go_at_call 184;refine cs.mono ?_;clear cs;rintro e w1 ⟨v1,rfl,hv1,b1⟩))
 go_ret2
 exact ⟨v1,rfl,hv1,b1⟩
theorem cLen11_kind (n k q:Nat) (hk:k<3) (hkn:knI n=k) (hq:bits .or .i64 ((k*2 ^ lbN k:Nat):Int) (n:Int)=(q:Int)) (w:World):Calls Tryz.prog 129 #[.int .i64 n] w fun e w'=>∃ v,e = .returned (.tuple #[v,.int .i64 0])∧BytesIn w' v (2 ^ k) (beN q (2 ^ k))∧Below w.heap.size w w':=by
 have c:=cKind_any n w
 rw [hkn] at c
 clear hkn
 have cb:=cBits_any k hk w.drew
 have bd:Below w.heap.size w w.drew:=(Below.refl _ _).drew
 rcases (show k=0∨k=1∨k=2 by omega) with rfl | rfl | rfl
 · have cs:=cSplit_any q 1 (by decide) w.drew
   replace hq:bits .or .i64 (0:Int) (n:Int)=(q:Int):=hq
   clear hk
   go_enter Tryz.func129,Tryz.ntmps129
   go_wp2_with (go_at_call 183;refine c.mono ?_;clear c;rintro e w1 ⟨rfl,hw⟩;obtain rfl:=hw.symm)
   go_upto_region 4 with (fail)
   refine wp_region_held_drew (S:=fun u=>Below w.drew.heap.size w.drew u) (by kernel_rfl) (Below.refl _ _) (fun hS => ?_)
   refine tg 0 hS ?_
   (try simp only [pS])
   refine tg 1 hS ?_
   (try simp only [pS])
   refine tg 4 hS ?_
   (try simp only [pS])
   refine tg 6 hS ?_
   (try simp only [pS])
   refine tg 7 hS (v := .int .i64 1) ?_ (hy:=fun u _=>by kernel_rfl)
   (try simp only [pS])
   refine cl 2 cb ?_
   rintro e w2 ⟨rfl,hw⟩
   obtain rfl:=hw.symm
   refine ⟨_,rfl,hS,?_⟩
   (try simp only [pS])
   refine tg 3 hS (v := .int .i64 0) ?_ (hy:=fun u _=>by kernel_rfl)
   (try simp only [pS])
   refine tg 5 hS (v := .int .i64 (q:Int)) ?_ (hy := ?_)
   rotate_left
   · exact fun u _=>Eq.trans (b := .ok (.value (.int .i64 (bits .or .i64 (0:Int) (n:Int)))) u) (by kernel_rfl) (by rw [hq])
   (try simp only [pS])
   refine cn 8 cs ?_
   rintro e w3 ⟨v3,rfl,hv3,b3⟩
   refine ⟨_,rfl,b3,?_⟩
   (try simp only [pS])
   refine tg 9 (Below.refl _ _) ?_
   (try simp only [pS])
   refine tg 10 (Below.refl _ _) ?_
   (try simp only [pS])
   refine wpAnyH_done (by kernel_rfl) ?_ _
   go_wp2
   go_ret2
   exact ⟨_,rfl,hv3,below_next bd b3⟩
 · have cs:=cSplit_any q 2 (by decide) w.drew
   replace hq:bits .or .i64 (16384:Int) (n:Int)=(q:Int):=hq
   clear hk
   go_enter Tryz.func129,Tryz.ntmps129
   go_wp2_with (go_at_call 183;refine c.mono ?_;clear c;rintro e w1 ⟨rfl,hw⟩;obtain rfl:=hw.symm)
   go_upto_region 4 with (fail)
   refine wp_region_held_drew (S:=fun u=>Below w.drew.heap.size w.drew u) (by kernel_rfl) (Below.refl _ _) (fun hS => ?_)
   refine tg 0 hS ?_
   (try simp only [pS])
   refine tg 1 hS ?_
   (try simp only [pS])
   refine tg 4 hS ?_
   (try simp only [pS])
   refine tg 6 hS ?_
   (try simp only [pS])
   refine tg 7 hS (v := .int .i64 2) ?_ (hy:=fun u _=>by kernel_rfl)
   (try simp only [pS])
   refine cl 2 cb ?_
   rintro e w2 ⟨rfl,hw⟩
   obtain rfl:=hw.symm
   refine ⟨_,rfl,hS,?_⟩
   (try simp only [pS])
   refine tg 3 hS (v := .int .i64 16384) ?_ (hy:=fun u _=>by kernel_rfl)
   (try simp only [pS])
   refine tg 5 hS (v := .int .i64 (q:Int)) ?_ (hy := ?_)
   rotate_left
   · exact fun u _=>Eq.trans (b := .ok (.value (.int .i64 (bits .or .i64 (16384:Int) (n:Int)))) u) (by kernel_rfl) (by rw [hq])
   (try simp only [pS])
   refine cn 8 cs ?_
   rintro e w3 ⟨v3,rfl,hv3,b3⟩
   refine ⟨_,rfl,b3,?_⟩
   (try simp only [pS])
   refine tg 9 (Below.refl _ _) ?_
   (try simp only [pS])
   refine tg 10 (Below.refl _ _) ?_
   (try simp only [pS])
   refine wpAnyH_done (by kernel_rfl) ?_ _
   go_wp2
   go_ret2
   exact ⟨_,rfl,hv3,below_next bd b3⟩
 · have cs:=cSplit_any q 4 (by decide) w.drew
   replace hq:bits .or .i64 (2147483648:Int) (n:Int)=(q:Int):=hq
   clear hk
   go_enter Tryz.func129,Tryz.ntmps129
   go_wp2_with (go_at_call 183;refine c.mono ?_;clear c;rintro e w1 ⟨rfl,hw⟩;obtain rfl:=hw.symm)
   go_upto_region 4 with (fail)
   refine wp_region_held_drew (S:=fun u=>Below w.drew.heap.size w.drew u) (by kernel_rfl) (Below.refl _ _) (fun hS => ?_)
   refine tg 0 hS ?_
   (try simp only [pS])
   refine tg 1 hS ?_
   (try simp only [pS])
   refine tg 4 hS ?_
   (try simp only [pS])
   refine tg 6 hS ?_
   (try simp only [pS])
   refine tg 7 hS (v := .int .i64 4) ?_ (hy:=fun u _=>by kernel_rfl)
   (try simp only [pS])
   refine cl 2 cb ?_
   rintro e w2 ⟨rfl,hw⟩
   obtain rfl:=hw.symm
   refine ⟨_,rfl,hS,?_⟩
   (try simp only [pS])
   refine tg 3 hS (v := .int .i64 2147483648) ?_ (hy:=fun u _=>by kernel_rfl)
   (try simp only [pS])
   refine tg 5 hS (v := .int .i64 (q:Int)) ?_ (hy := ?_)
   rotate_left
   · exact fun u _=>Eq.trans (b := .ok (.value (.int .i64 (bits .or .i64 (2147483648:Int) (n:Int)))) u) (by kernel_rfl) (by rw [hq])
   (try simp only [pS])
   refine cn 8 cs ?_
   rintro e w3 ⟨v3,rfl,hv3,b3⟩
   refine ⟨_,rfl,b3,?_⟩
   (try simp only [pS])
   refine tg 9 (Below.refl _ _) ?_
   (try simp only [pS])
   refine tg 10 (Below.refl _ _) ?_
   (try simp only [pS])
   refine wpAnyH_done (by kernel_rfl) ?_ _
   go_wp2
   go_ret2
   exact ⟨_,rfl,hv3,below_next bd b3⟩
theorem cLen11_good (n:Nat) (hn:n<1073741824) (w:World):Calls Tryz.prog 129 #[.int .i64 n] w fun e w'=>∃ v,e = .returned (.tuple #[v,.int .i64 0])∧BytesIn w' v (lnS n) (lnB n)∧Below w.heap.size w w':=by
 unfold lnB
 by_cases h2:n<64
 · have e1:lnW n=n:=by unfold lnW;rw [if_pos h2]
   have e2:lnS n=2 ^ 0:=by unfold lnS;rw [if_pos h2]
   rw [e1,e2]
   refine cLen11_kind n 0 n (by decide) (knI_at _ 0 (by decide) (show (n:Int) / 64=0 by omega) (fun q hq=>absurd hq (Nat.not_lt_zero _))) ?_ w
   have:=i64_or_nat 0 n (by decide) (by omega)
   rw [Nat.zero_or] at this
   exact this
 · have g0:¬(n:Int) / 64=0:=by omega
   by_cases h3:n<16384
   · have e1:lnW n=n+16384:=by unfold lnW;rw [if_neg h2,if_pos h3]
     have e2:lnS n=2 ^ 1:=by unfold lnS;rw [if_neg h2,if_pos h3]
     rw [e1,e2]
     refine cLen11_kind n 1 (n+16384) (by decide) (knI_at _ 1 (by decide) (show (n:Int) / 16384=0 by omega) (fun q hq=>by
      obtain rfl:q=0:=by omega
      exact g0)) ?_ w
     have h:=Nat.two_pow_add_eq_or_of_lt (i:=14) (b:=n) h3 1
     have:=i64_or_nat 16384 n (by decide) (by omega)
     rw [←(show 16384+n=16384 ||| n from h),Nat.add_comm] at this
     exact this
   · have g1:¬(n:Int) / 16384=0:=by omega
     have e1:lnW n=n+2147483648:=by unfold lnW;rw [if_neg h2,if_neg h3]
     have e2:lnS n=2 ^ 2:=by unfold lnS;rw [if_neg h2,if_neg h3]
     rw [e1,e2]
     refine cLen11_kind n 2 (n+2147483648) (by decide) (knI_at _ 2 (by decide) (show (n:Int) / 1073741824=0 by omega) (fun q hq=>by
      rcases (show q=0∨q=1 by omega) with rfl | rfl
      · exact g0
      · exact g1)) ?_ w
     have h:=Nat.two_pow_add_eq_or_of_lt (i:=31) (b:=n) (by omega) 1
     have:=i64_or_nat 2147483648 n (by decide) (by omega)
     rw [←(show 2147483648+n=2147483648 ||| n from h),Nat.add_comm] at this
     exact this
end Go.Proofs.YtddkbmnkbfciaaaGreatDoor
namespace Go.Proofs.YtddkbmnkbfciaaaGreatDoor
open Go.RowKit
def sumN (pn:Nat→Nat):Nat→Nat
 | 0=>0
 | i+1=>sumN pn i+pn i
def allB (pn:Nat→Nat) (pb:Nat→Nat→Nat):Nat→Nat→Nat
 | 0=>fun _=>0
 | i+1=>cat (sumN pn i) (allB pn pb i) (pb i)
theorem sumN_le (pn:Nat→Nat) {i j:Nat} (h:i≤j):sumN pn i≤sumN pn j:=by
 induction h with
 | refl=>exact Nat.le_refl _
 | step _ ih=>exact Nat.le_trans ih (Nat.le_add_right _ _)
theorem allB_lt {pn:Nat→Nat} {pb:Nat→Nat→Nat} (h:∀ i j,pb i j<256):∀ i j,allB pn pb i j<256
 | 0,_=>Nat.zero_lt_succ _
 | i+1,j=>cat_lt (allB_lt h i) (h i) j
structure PiecesIn (w:World) (xo:Option Addr) (cnt:Nat) (pv:Nat→Value) (pn:Nat→Nat) (pb:Nat→Nat→Nat):Prop where
 cell:∀ q,q<cnt→∃ lb lo,xo=some ⟨lb,lo,none⟩∧∀ i,i<cnt→w.cell? ⟨lb,lo+i,none⟩=some (pv i)
 each:∀ i,i<cnt→BytesIn w (pv i) (pn i) (pb i)
 byte:∀ i j,pb i j<256
theorem PiecesIn.keep {w w':World} {xo:Option Addr} {cnt:Nat} {pv:Nat→Value} {pn:Nat→Nat} {pb:Nat→Nat→Nat} (h:PiecesIn w xo cnt pv pn pb) (hb:Below w.heap.size w w'):PiecesIn w' xo cnt pv pn pb:=by
 refine ⟨fun q hq => ?_,fun i hi=>(h.each i hi).keep hb,h.byte⟩
 obtain ⟨lb,lo,rfl,hc⟩:=h.cell q hq
 exact ⟨lb,lo,rfl,fun i hi=>(hb.cell (p:=⟨lb,lo+i,none⟩) (block_lt_of_cell (hc i hi))).trans (hc i hi)⟩
def vsL (pn:Nat→Nat):Nat→Nat:=sumN (fun i=>vcL (pn i))
def vsB (pn:Nat→Nat) (pb:Nat→Nat→Nat):Nat→Nat→Nat:=allB (fun i=>vcL (pn i)) (fun i=>vcB (pn i) (pb i))
theorem vsL_le (pn:Nat→Nat):∀ n,vsL pn n≤sumN pn n+4*n
 | 0=>Nat.le_refl _
 | n+1=>by
  have h1:=vsL_le pn n
  have h2:=lnS_pos (pn n)
  show vsL pn n+(lnS (pn n)+pn n)≤sumN pn n+pn n+4*(n+1)
  omega
def bigN (pn:Nat→Nat):Nat→Bool
 | 0=>false
 | n+1=>bigN pn n || decide (65536<pn n)
end Go.Proofs.YtddkbmnkbfciaaaGreatDoor
namespace Go.Proofs.YtddkbmnkbfciaaaGreatDoor
open Go.RowKit
theorem jump_ret {l:Nat} {J:Act→World→Prop} {Q:Exit→Act→World→Prop} {a:Act} {w:World}:Exit.jump l J Q .ret a w=Q .ret a w:=rfl
end Go.Proofs.YtddkbmnkbfciaaaGreatDoor
namespace Go.Proofs.YtddkbmnkbfciaaaGreatDoor
open Go.RowKit
theorem RdC.size {lo hi:Nat} {w:World} {g L:Nat} {B:Nat→Nat} {r:Rd} (h:RdC lo hi w g L B r):hi≤w.heap.size:=h.choose_spec.2.2.2.2
end Go.Proofs.YtddkbmnkbfciaaaGreatDoor
