/- What the proof stands on: ZAb2, ZD, G9B, G9C, RFn, G9F, G9D, ZE, G9G, A8Op3, A8Nxt. -/
import Derived.Test.YtalgabgofpmebaaBaseM
import Derived.LoopIn
import Derived.LoopNIn
import Derived.OwnWalkIn
import Derived.RangeFuncBound
import Derived.RangeFuncCalls
import Derived.RangeFuncLeaves
import Derived.RangeFuncNested
import Derived.Shelf.Abstract
import Derived.Shelf.RegionOpen
import Derived.TacticsInMore
namespace Go.Proofs.Ytalgabgofpmebaa
open Go.RowKit
abbrev jD (n:Nat):Edge:={ on:=n,ground:=Ground.data }
abbrev jC (n:Nat):Edge:={ on:=n,ground:=Ground.chain }
abbrev jP (n:Nat):Edge:={ on:=n,ground:=Ground.phase }
abbrev oN (d:Nat) (o:Op) (t:TypeId) (p:String) (a:Array Edge):Oper:={ dst:=some d,op:=o,type:=t,pos:=p,after:=a,guard:=none }
abbrev oS (o:Op) (p:String) (a:Array Edge):Oper:={ dst:=none,op:=o,type:=0,pos:=p,after:=a,guard:=none }
abbrev cF1 (f:FuncId) (a:Array Operand) (t:Array TypeId):Op:=Op.call { callee:=Callee.value (Operand.func f),args:=a,argTypes:=t }
abbrev oT (k:Nat):Operand:=Operand.tmp k
abbrev pA (g o:Nat):Value := .pointer (some ⟨g,o,none⟩)
theorem pS:(∀ (a:Act) (d:Nat) (v:Value),a.put (some d) v={ a with tmps:=a.tmps.setIfInBounds d v })∧(∀ (l:List Value) (i:Nat) (v:Value),l.toArray.setIfInBounds i v=(l.set i v).toArray)∧(∀ (x:Value) (l:List Value) (v:Value),(x :: l).set 0 v=v :: l)∧(∀ (x:Value) (l:List Value) (n:Nat) (v:Value),(x :: l).set (n+1) v=x :: l.set n v) :=
 ⟨fun _ _ _=>rfl,fun _ _ _=>List.setIfInBounds_toArray ..,fun _ _ _=>rfl,fun _ _ _ _=>rfl⟩
section
variable {P:Program} {md:Region.Mode} {ops:Array Oper} {Q:Exit→Act→World→Prop} {S:World→Prop} {fuel:Nat} {listed:Array Bool} {a:Act} {w:World}
theorem tkH (i:Nat) (oi:Oper) (v:Value) (hS:S w) (hy:YieldsIf P ops S oi v a)
 (h:wpAnyH P md ops Q S fuel (listed.setIfInBounds i true) (a.put oi.dst v) w) (hQ:∀ c a w,Q (.panic c) (a.put oi.dst v) w→Q (.panic c) a w:=by exact fun _ _ _ h=>h) (hi:ops[i]? = some oi:=by rfl) (hs:Region.noSelect ops=true:=by kernel_rfl) (hf:Region.free md ops listed i=true:=by kernel_rfl) (hr:(Region.ready md ops listed).contains i=true:=by kernel_rfl):wpAnyH P md ops Q S (fuel+1) listed a w :=
 wpAnyH_take hi hs hf hr hQ hy hS h
theorem bR {w:World}:Below w.heap.size w w:=Below.refl _ _
theorem yR {o:Oper} {v:Value} (hw:Region.wanted o (yielded ops a.tmps)=true:=by rfl) (hr:∀ w,(execOp a.eval o).run P w = .ok (.value v) w:=by intro _;kernel_rfl):YieldsIf P ops S o v a := .inl ⟨hw,fun w _=>hr w⟩
theorem ldH {V:World} {o:Oper} {g off:Nat} {cs:List Value} (h:RW V g off cs) (ty k:Nat) {d:TypeDesc} (hu:P.underlying ty=some d) (hi:(P.info? ty).map (·.size)=some cs.length) (hd:d.isRow=true:=by rfl) (hw:Region.wanted o (yielded ops a.tmps)=true:=by rfl) (ho:o.op = .load ty (.tmp k):=by rfl) (hx:a.eval (.tmp k) = .pointer (some ⟨g,off,none⟩):=by rfl):YieldsIf P ops (fun w'=>Below V.heap.size V w') o (.agg cs.toArray) a :=
 yieldsIf_load_mid hw ty _ ho g off hx cs d (fun _ hb=>(h.still hb).range) hu hd hi
theorem ldO {V:World} {o:Oper} {g off b p n:Nat} {cs:List Value} (h:RW V g off cs) (hne:g≠b) (ty k:Nat) {d:TypeDesc} (hu:P.underlying ty=some d) (hi:(P.info? ty).map (·.size)=some cs.length) (hd:d.isRow=true:=by rfl) (hw:Region.wanted o (yielded ops a.tmps)=true:=by rfl) (ho:o.op = .load ty (.tmp k):=by rfl) (hx:a.eval (.tmp k) = .pointer (some ⟨g,off,none⟩):=by rfl):YieldsIf P ops (fun w'=>Out b p n V w') o (.agg cs.toArray) a :=
 yieldsIf_load_mid hw ty _ ho g off hx cs d (fun _ hb=>(h.out hb hne).range) hu hd hi
theorem arC {i:Nat} {rs:List Nat} (oi:Oper) {f:FuncId} {args:Array Value} {R:Ending→World→Prop} (c:Calls P f args w R) (h:∀ e w',R e w'→∃ r,e = .returned r∧S w'∧wpAnyH P md ops Q S fuel (listed.setIfInBounds i true) (a.put oi.dst r) w') (hs:AllReadyH P md ops Q S fuel listed a w rs)
 (hi:ops[i]? = some oi:=by rfl) (hw:Region.wanted oi (yielded ops a.tmps)=true:=by rfl) (hrun:(execOp a.eval oi).run P w = .ok (.enter f args) w:=by kernel_rfl):AllReadyH P md ops Q S fuel listed a w (i :: rs):=by
 refine AllReadyH.cons hi (fun K hK => ?_) hs
 rw [if_pos hw]
 unfold Oper.wp
 rw [hrun,Oper.upon_enter]
 refine c.mono fun e w' hR => ?_
 obtain ⟨r,rfl,hS,hk⟩:=h e w' hR
 exact hK.out _ _ hS (fun _=>hk)
theorem callH (i:Nat) (oi:Oper) {f:FuncId} {args:Array Value} {R:Ending→World→Prop} (c:Calls P f args w R) (h:∀ e w',R e w'→∃ r,e = .returned r∧S w'∧wpAnyH P md ops Q S fuel (listed.setIfInBounds i true) (a.put oi.dst r) w')
 (hr:Region.ready md ops listed=[i]:=by kernel_rfl) (hi:ops[i]? = some oi:=by rfl) (hw:Region.wanted oi (yielded ops a.tmps)=true:=by rfl) (hrun:(execOp a.eval oi).run P w = .ok (.enter f args) w:=by kernel_rfl):wpAnyH P md ops Q S (fuel+1) listed a w :=
 wpAnyH_ready hr (by simp) (arC oi c h AllReadyH.nil hi hw hrun)
theorem callN (i:Nat) (oi:Oper) {f:FuncId} {args:Array Value} {R:Ending→World→Prop} (c:Calls P f args w R) (h:∀ e w',R e w'→∃ r,e = .returned r∧Below w.heap.size w w'∧wpAnyH P md ops Q (fun u=>Below w'.heap.size w' u) fuel (listed.setIfInBounds i true) (a.put oi.dst r) w')
 (hr:Region.ready md ops listed=[i]:=by kernel_rfl) (hi:ops[i]? = some oi:=by rfl) (hw:Region.wanted oi (yielded ops a.tmps)=true:=by rfl) (hrun:(execOp a.eval oi).run P w = .ok (.enter f args) w:=by kernel_rfl):wpAnyH P md ops Q (fun u=>Below w.heap.size w u) (fuel+1) listed a w :=
 callH i oi c (fun e w' hR=>by
  obtain ⟨r,he,hb,hk⟩:=h e w' hR
  exact ⟨r,he,hb,wpAnyH_narrow (fun _ hu=>below_next hb hu) _ _ _ _ hk⟩) hr hi hw hrun
theorem dag_root (h:∀ G:Nat→Array Bool→Act→World→Prop,G=wpAnyH P md ops Q S→G fuel listed a w):wpAnyH P md ops Q S fuel listed a w:=h _ rfl
theorem dagW {G:Nat→Array Bool→Act→World→Prop} (hG:Hid (G=wpAnyH P md ops Q S)) {f:Nat} {l:Array Bool} {b:Act} (h:G f l b w) (hb:b=a) (hf:f=fuel:=by kernel_rfl) (hl:l=listed:=by kernel_rfl):wpAnyH P md ops Q S fuel listed a w:=by
 subst hf;subst hl;subst hb;rw [←hG.out];exact h
theorem at_list {i:Nat} {oi:Oper} (hi:ops.toList[i]? = some oi):ops[i]? = some oi:=by rw [←Array.getElem?_toList];exact hi
theorem tg (i:Nat) (hS:S w) {oi:Oper} {v:Value} (h:wpAnyH P md ops Q S fuel (listed.setIfInBounds i true) (a.put oi.dst v) w) (hi:ops.toList[i]? = some oi:=by rfl)
 (hy:∀ w,S w→(execOp a.eval oi).run P w = .ok (.value v) w:=by intro w hSw;go_simp;try with_reducible rfl) (hw:Region.wanted oi (yielded ops a.tmps)=true:=by rfl)
 (hQ:∀ c b w,Q (.panic c) (b.put oi.dst v) w→Q (.panic c) b w:=by exact fun _ _ _ h=>h) (hs:Region.noSelect ops=true:=by kernel_rfl) (hf:Region.free md ops listed i=true:=by kernel_rfl) (hr:(Region.ready md ops listed).contains i=true:=by kernel_rfl):wpAnyH P md ops Q S (fuel+1) listed a w :=
 tkH i oi v hS (.inl ⟨hw,hy⟩) h hQ (at_list hi) hs hf hr
theorem tc (i:Nat) (hS:S w) {oi:Oper} {g o:Nat} {v:Value} (hc:∀ u,S u→u.cell? ⟨g,o,none⟩=some v) (h:wpAnyH P md ops Q S fuel (listed.setIfInBounds i true) (a.put oi.dst v) w) (hi:ops.toList[i]? = some oi:=by rfl)
 (hy:∀ w,w.cell? ⟨g,o,none⟩=some v→(execOp a.eval oi).run P w = .ok (.value v) w:=by intro w hc;go_simp;try with_reducible rfl) (hw:Region.wanted oi (yielded ops a.tmps)=true:=by rfl)
 (hQ:∀ c b w,Q (.panic c) (b.put oi.dst v) w→Q (.panic c) b w:=by exact fun _ _ _ h=>h) (hs:Region.noSelect ops=true:=by kernel_rfl) (hf:Region.free md ops listed i=true:=by kernel_rfl) (hr:(Region.ready md ops listed).contains i=true:=by kernel_rfl):wpAnyH P md ops Q S (fuel+1) listed a w :=
 tkH i oi v hS (.inl ⟨hw,fun u hu=>hy u (hc u hu)⟩) h hQ (at_list hi) hs hf hr
theorem cl (i:Nat) {oi:Oper} {f:FuncId} {args:Array Value} {R:Ending→World→Prop} (c:Calls P f args w R) (h:∀ e w',R e w'→∃ r,e = .returned r∧S w'∧wpAnyH P md ops Q S fuel (listed.setIfInBounds i true) (a.put oi.dst r) w')
 (hi:ops.toList[i]? = some oi:=by rfl) (hr:Region.ready md ops listed=[i]:=by kernel_rfl) (hw:Region.wanted oi (yielded ops a.tmps)=true:=by rfl) (hrun:(execOp a.eval oi).run P w = .ok (.enter f args) w:=by kernel_rfl):wpAnyH P md ops Q S (fuel+1) listed a w :=
 callH i oi c h hr (at_list hi) hw hrun
theorem cn (i:Nat) {oi:Oper} {f:FuncId} {args:Array Value} {R:Ending→World→Prop} (c:Calls P f args w R) (h:∀ e w',R e w'→∃ r,e = .returned r∧Below w.heap.size w w'∧wpAnyH P md ops Q (fun u=>Below w'.heap.size w' u) fuel (listed.setIfInBounds i true) (a.put oi.dst r) w')
 (hi:ops.toList[i]? = some oi:=by rfl) (hr:Region.ready md ops listed=[i]:=by kernel_rfl) (hw:Region.wanted oi (yielded ops a.tmps)=true:=by rfl) (hrun:(execOp a.eval oi).run P w = .ok (.enter f args) w:=by kernel_rfl):wpAnyH P md ops Q (fun u=>Below w.heap.size w u) (fuel+1) listed a w :=
 callN i oi c h hr (at_list hi) hw hrun
theorem tk (i:Nat) (v:Value) (hS:S w) {oi:Oper} (hi:ops.toList[i]? = some oi:=by rfl) (hy:YieldsIf P ops S oi v a) (h:wpAnyH P md ops Q S fuel (listed.setIfInBounds i true) (a.put oi.dst v) w)
 (hQ:∀ c b w,Q (.panic c) (b.put oi.dst v) w→Q (.panic c) b w:=by exact fun _ _ _ h=>h) (hs:Region.noSelect ops=true:=by kernel_rfl) (hf:Region.free md ops listed i=true:=by kernel_rfl) (hr:(Region.ready md ops listed).contains i=true:=by kernel_rfl):wpAnyH P md ops Q S (fuel+1) listed a w :=
 tkH i oi v hS hy h hQ (at_list hi) hs hf hr
end
end Go.Proofs.Ytalgabgofpmebaa
namespace Go.Proofs.Ytalgabgofpmebaa
open Go.RowKit
section
variable {P:Program} {md:Region.Mode} {ops:Array Oper} {Q:Exit→Act→World→Prop} {S:World→Prop} {fuel:Nat} {listed:Array Bool} {a:Act} {w:World}
theorem aG {i:Nat} {rs:List Nat} (oi:Oper) (v:Nat→Value) (cs:List Value) (t:TypeId) (hk:∀ u,Below w.heap.size w u→S u) (h:∀ w1 g,w.heap.size≤g→Below w.heap.size w w1→RW w1 g 0 cs→wpAnyH P md ops Q S fuel (listed.setIfInBounds i true) (a.put oi.dst (v g)) w1) (hs:AllReadyH P md ops Q S fuel listed a w rs)
 (hrun:(execOp a.eval oi).run P w = .ok (.value (v w.heap.size)) (w.alloc (.cells cs.toArray t)):=by kernel_rfl) (hi:ops[i]? = some oi:=by rfl) (hw:Region.wanted oi (yielded ops a.tmps)=true:=by rfl):AllReadyH P md ops Q S fuel listed a w (i :: rs):=by
 have hb:Below w.heap.size w (w.alloc (.cells cs.toArray t)):=bR.alloc (Nat.le_refl _) _
 refine AllReadyH.cons hi (fun K hK => ?_) hs
 rw [if_pos hw]
 unfold Oper.wp
 rw [hrun,Oper.upon_value]
 exact hK.out _ _ (hk _ hb) (fun _=>h _ _ (Nat.le_refl _) hb (RW.fresh w cs t))
theorem aL {i:Nat} {rs:List Nat} (oi:Oper) (ty k:Nat) {g off:Nat} {cs:List Value} {d:TypeDesc} (r:RW w g off cs) (hS:S w) (hu:P.underlying ty=some d) (hin:(P.info? ty).map (·.size)=some cs.length) (h:wpAnyH P md ops Q S fuel (listed.setIfInBounds i true) (a.put oi.dst (.agg cs.toArray)) w) (hs:AllReadyH P md ops Q S fuel listed a w rs)
 (hd:d.isRow=true:=by rfl) (ho:oi.op = .load ty (.tmp k):=by rfl) (hx:a.eval (.tmp k) = .pointer (some ⟨g,off,none⟩):=by rfl) (hi:ops[i]? = some oi:=by rfl) (hw:Region.wanted oi (yielded ops a.tmps)=true:=by rfl):AllReadyH P md ops Q S fuel listed a w (i :: rs):=by
 refine AllReadyH.cons hi (fun K hK => ?_) hs
 rw [if_pos hw]
 exact wp_load_mid ty _ ho g off hx cs d r.range hu hd hin (hK.out _ _ hS (fun _=>h))
theorem aT {i:Nat} {rs:List Nat} (oi:Oper) (ty x y:Nat) {g off:Nat} {cs:List Value} (ds:List Value) (r:RW w g off cs) (hl:ds.length=cs.length) (hk:S (w.setCells g off ds)) (hin:(P.info? ty).map (·.size)=some ds.toArray.size) (h1:ds.toArray.all (·.oneCell')=true) (h:RW (w.setCells g off ds) g off ds→wpAnyH P md ops Q S fuel (listed.setIfInBounds i true) (a.put oi.dst undef) (w.setCells g off ds)) (hs:AllReadyH P md ops Q S fuel listed a w rs)
 (ho:oi.op = .store ty (.tmp x) (.tmp y):=by rfl) (hx:a.eval (.tmp x) = .pointer (some ⟨g,off,none⟩):=by rfl) (hy:a.eval (.tmp y) = .agg ds.toArray:=by rfl) (hi:ops[i]? = some oi:=by rfl) (hw:Region.wanted oi (yielded ops a.tmps)=true:=by rfl):AllReadyH P md ops Q S fuel listed a w (i :: rs):=by
 refine AllReadyH.cons hi (fun K hK => ?_) hs
 rw [if_pos hw]
 exact wp_store_mid ty _ _ ho g off ds.toArray hx hy (by rw [List.size_toArray,hl];exact r.there) hin h1 (hK.out _ _ hk (fun _=>h (r.stored ds hl)))
end
end Go.Proofs.Ytalgabgofpmebaa
namespace Go.Proofs.Ytalgabgofpmebaa
open Go.RowKit
abbrev b2 (a b:Nat):List Value:=[.int .u64 a,.int .u64 b]
theorem info2a (x y:Nat):(Try.prog.info? 43).map (·.size)=some (b2 x y).toArray.size:=by kernel_rfl
theorem one2 (x y:Nat):(b2 x y).toArray.all (·.oneCell')=true:=by simp [Value.oneCell']
theorem info2:(Try.prog.info? 43).map (·.size)=some 2:=by kernel_rfl
set_option maxHeartbeats 1000000 in
theorem shiftOf_any (k:Nat) (hk:k<16) (w:World) :
 Calls Try.prog 36 #[.int .i64 k] w fun e w'=>e = .returned (.int .i64 ((56 - 8*(k%8):Nat):Int))∧w'=w:=by
 go_enter Try.func36,Try.ntmps36
 go_wp2
 go_ret
 refine ⟨?_,rfl⟩
 have e:(56:Int) - (k:Int)%8*8=((56 - 8*(k%8):Nat):Int):=by omega
 show Ending.returned (.int .i64 (56 - (k:Int)%8*8))=_
 rw [e]
set_option maxHeartbeats 1000000 in
theorem gplus_any (u v:V8) (w:World) :
 Calls Try.prog 38 #[blV u,blV v] w fun e w'=>e = .returned (blV (u ^^^ v))∧Below w.heap.size w w':=by
 have h1:=u64_xor_nat (wd u 0) (wd v 0) (wd_lt _ _) (wd_lt _ _)
 have h2:=u64_xor_nat (wd u 64) (wd v 64) (wd_lt _ _) (wd_lt _ _)
 rw [←wd_xor] at h1 h2
 unfold blV
 generalize wd (u ^^^ v) 0=a at *
 generalize wd (u ^^^ v) 64=b at *
 generalize wd u 0=c at *
 generalize wd v 0=d at *
 generalize wd u 64=x at *
 generalize wd v 64=y at *
 go_enter Try.func38,Try.ntmps38
 go_wp2
 have r:=RW.fresh ((w.alloc (.cells #[.int .u64 c,.int .u64 x] 43)).alloc (.cells #[.int .u64 d,.int .u64 y] 43)) (b2 a b) 43
 rw [World.size_alloc,World.size_alloc] at r
 exact bodyPost_ret (results_cell_mid Try.results38 _ _ (w.heap.size+1+1) 0 (b2 a b) _ rfl r.range Try.underlying43 rfl info2) rfl ⟨rfl,(((Below.refl _ _).alloc (Nat.le_refl _) _).alloc (by simp) _).alloc (by simp;omega) _⟩
theorem same_words (u v:V8):(((wd (u ^^^ v) 0 ||| wd (u ^^^ v) 64:Nat):Int) == 0)=decide (u=v):=by
 by_cases h:u=v
 · subst h
   rw [BitVec.xor_self,decide_eq_true rfl]
   rw [show (0#128:V8)=vZ from rfl,wd_zero,wd_zero]
   rfl
 · rw [decide_eq_false h]
   refine beq_false_of_ne fun e=>h ?_
   have e':wd (u ^^^ v) 0 ||| wd (u ^^^ v) 64=0:=by omega
   obtain ⟨e0,e1⟩:=Nat.or_eq_zero_iff.1 e'
   rw [wd_xor] at e0 e1
   have hx:∀ a b:Nat,a ^^^ b=0→a=b:=fun a b h=>by
    have:=congrArg (fun y=>y ^^^ b) h
    simpa [Nat.xor_assoc] using this
   exact wd_inj (hx _ _ e0) (hx _ _ e1)
set_option maxHeartbeats 1000000 in
theorem gsame_any (u v:V8) (w:World) :
 Calls Try.prog 35 #[blV u,blV v] w fun e w'=>e = .returned (.bool (decide (u=v)))∧Below w.heap.size w w':=by
 have h1:=u64_or_nat (wd (u ^^^ v) 0) (wd (u ^^^ v) 64) (wd_lt _ _) (wd_lt _ _)
 have h2:=same_words u v
 have cp:=fun W=>gplus_any u v W
 unfold blV at *
 generalize decide (u=v)=T at *
 generalize wd (u ^^^ v) 0=a at *
 generalize wd (u ^^^ v) 64=b at *
 generalize wd u 0=c at *
 generalize wd v 0=d at *
 generalize wd u 64=x at *
 generalize wd v 64=y at *
 generalize (a ||| b)=o at *
 go_enter Try.func35,Try.ntmps35
 go_wp2_with (go_at_call 38;refine (cp _).mono ?_;clear cp;rintro e w1 ⟨rfl,hb1⟩)
 go_ret
 refine ⟨rfl,(Below.trans (((Below.refl _ _).alloc (Nat.le_refl _) _).alloc (by simp) _) (hb1.mono (by simp;omega))).alloc (Nat.le_trans (by simp;omega) hb1.size) _⟩
set_option maxRecDepth 20000 in
set_option maxHeartbeats 2000000 in
theorem gbytes_any (v:V8) (w:World) :
 Calls Try.prog 25 #[blV v] w fun e w'=>∃ g,e = .returned (.slice (some ⟨g,0,none⟩) 16 16)∧w.heap.size≤g∧RowAt .u8 w' g 0 16 (byV v)∧Below w.heap.size w w':=by
 have hmk:=fun W=>make_bytes W 16 16 rfl (by decide)
 have cs:=fun k hk W=>shiftOf_any k hk W
 have hwb:=wd_byte v
 have hwl:=wd_lt v
 unfold blV
 obtain ⟨B,hB⟩:∃ B,B=byV v:=⟨_,rfl⟩
 rw [←hB] at hwb ⊢
 clear hB
 go_enter Try.func25,Try.ntmps25
 go_wp2_with (rw [hmk])
 obtain ⟨V,hV⟩:∃ V,V=w.alloc (.cells #[.int .u64 (wd v 0),.int .u64 (wd v 64)] 43):=⟨_,rfl⟩
 have hVs:V.heap.size=w.heap.size+1:=by rw [hV];simp
 have rV:RW V w.heap.size 0 (b2 (wd v 0) (wd v 64)):=by rw [hV];exact RW.fresh _ _ _
 have bV:Below w.heap.size w V:=by rw [hV];exact (Below.refl _ _).alloc (Nat.le_refl _) _
 have hZ:=RowAt.zero V 16 5
 have bZ:Below V.heap.size V (V.alloc (.cells (zb 16) 5)):=(Below.refl _ _).alloc (Nat.le_refl _) _
 rw [←hV]
 rw [hVs] at hZ
 have rZ:=rV.still bZ
 have bZ':Below w.heap.size w (V.alloc (.cells (zb 16) 5)):=below_next bV bZ
 clear hV hVs rV bV hmk bZ
 generalize V.alloc (.cells (zb 16) 5)=V2 at *
 go_loopw [8] (fun i wr=>∃ k:Nat,k≤16∧i = .int .i64 k∧RowAt .u8 wr (w.heap.size+1) 0 16 (pr B (fun _=>0) k)∧RW wr w.heap.size 0 (b2 (wd v 0) (wd v 64))∧Below w.heap.size w wr) (fun i _=>16 - (intOf i).toNat)
 case atStart=>exact ⟨0,Nat.zero_le _,rfl,hZ,rZ,bZ'⟩
 case round =>
  clear hZ rZ bZ'
  obtain ⟨k,hk,rfl,hA,r,b⟩:=hrel
  by_cases hlt:k<16
  · obtain ⟨a1,a2⟩:=hA k hlt
    rw [Nat.zero_add] at a1 a2
    have hs:=hA.next hlt (v:=(B k:Int)) rfl
    obtain ⟨q,hq⟩:∃ q,q=k / 8:=⟨_,rfl⟩
    obtain ⟨sh,hsh⟩:∃ sh,sh=56 - 8*(k%8):=⟨_,rfl⟩
    obtain ⟨x,hx⟩:∃ x,x=wd v (64*q):=⟨_,rfl⟩
    have hc:wr.cell? ⟨w.heap.size,q,none⟩=some (.int .u64 x):=by
     have h:=r.range q (.int .u64 x) (by
      rcases (show q=0∨q=1 by omega) with rfl | rfl <;> rw [hx] <;> rfl)
     rwa [Nat.zero_add] at h
    have cs1:=cs k hlt
    have hb:=hwb k
    rw [←hq,←hx,←hsh] at hb
    rw [←hsh] at cs1
    have hxl:x<18446744073709551616:=by rw [hx];exact hwl _
    have t1:(k:Int).tdiv 8=(q:Int):=by rw [Int.tdiv_eq_ediv_of_nonneg (by omega)];omega
    have t2:(k:Int) / 8=(q:Int):=by omega
    have t6:IntKind.i64.wrap ((k:Int).tdiv 8)=(q:Int):=by rw [t1];simp only [IntKind.wrap_i64];omega
    have t7:IntKind.i64.wrap (q:Int)=(q:Int):=by simp only [IntKind.wrap_i64];omega
    have t3:(0:Int)≤(q:Int)∧(q:Int)<2:=by omega
    have t4:(0:Int)≤(k:Int)∧(k:Int)<16:=by omega
    have t5:(0:Int)≤(sh:Int)∧(sh:Int)<64:=by omega
    have t8:IntKind.u8.wrap ((x:Int) / 2 ^ sh)=(B k:Int):=by
     rw [←hb]
     show ((x:Int) / 2 ^ sh)%256=_
     simp
    have n1:¬w.heap.size+1=w.heap.size:=by omega
    clear hq hsh hx cs hwb hwl hb hxl
    go_wp2
    have hS0:wr.drew.cell? ⟨w.heap.size,q,none⟩=some (.int .u64 x):=hc
    have hS1:∀ v:Value,(wr.drew.setCell ⟨w.heap.size+1,k,none⟩ v).cell? ⟨w.heap.size,q,none⟩=some (.int .u64 x):=fun v=>(World.cell?_of_block (Below.heap_setCell _ ⟨w.heap.size+1,k,none⟩ v w.heap.size (by show w.heap.size≠w.heap.size+1;omega))).trans hc
    go_region_held3 (fun w'=>w'.cell? ⟨w.heap.size,q,none⟩=some (.int .u64 x)) (first | assumption | exact hS1 _) (first | (go_at_call 36;refine (cs1 _).mono ?_;clear cs1;rintro e w1 ⟨rfl,rfl⟩))
    go_wp2
    go_roundw
    case rel=>exact ⟨k+1,by omega,by go_num,hs.drew,((r.far (w.heap.size+1) k [.int .u8 (B k)] (.inl (by omega)))).drew,(b.setCell (Nat.le_succ _) _).drew⟩
    case measure=>simp [intOf];omega
  · obtain rfl:k=16:=by omega
    replace hA:=hA.congr (fun j hj=>pr_full B (fun _=>0) hj)
    clear cs hwb hwl
    go_wp2
    go_ret
    exact ⟨_,rfl,Nat.le_succ _,hA,b⟩
end Go.Proofs.Ytalgabgofpmebaa
namespace Go.Proofs.Ytalgabgofpmebaa
open Go.RowKit
theorem RW.set0 {w:World} {g a b:Nat} (r:RW w g 0 (b2 a b)) (y:Nat):RW (w.setCell ⟨g,0,none⟩ (.int .u64 y)) g 0 (b2 y b):=by
 have l:RW w g 0 [.int .u64 a]:=RW.left (ds:=[.int .u64 b]) r
 have q:RW w g (0+1) [.int .u64 b]:=RW.right (cs:=[.int .u64 a]) r
 exact (l.stored [.int .u64 y] rfl).join (q.far g 0 [.int .u64 y] (.inr (.inr (Nat.le_refl _))))
theorem RW.set1 {w:World} {g a b:Nat} (r:RW w g 0 (b2 a b)) (y:Nat):RW (w.setCell ⟨g,1,none⟩ (.int .u64 y)) g 0 (b2 a y):=by
 have l:RW w g 0 [.int .u64 a]:=RW.left (ds:=[.int .u64 b]) r
 have q:RW w g (0+1) [.int .u64 b]:=RW.right (cs:=[.int .u64 a]) r
 exact (l.far g 1 [.int .u64 y] (.inr (.inl (Nat.le_refl _)))).join (q.stored [.int .u64 y] rfl)
abbrev RV (w:World) (g:Nat) (v:V8):Prop:=RW w g 0 (b2 (wd v 0) (wd v 64))
theorem RV.next {w:World} {g:Nat} {X:Nat→Nat} {k:Nat} (r:RV w g (toV (padN k X))) (hX:∀ j,X j<256) (hk:k<16):RV (w.setCell ⟨g,k / 8,none⟩ (.int .u64 ((wd (toV (padN k X)) (64*(k / 8)) ||| X k*2 ^ (56 - 8*(k%8))%18446744073709551616:Nat):Int))) g (toV (padN (k+1) X)):=by
 rw [←pad_word X hX k hk]
 unfold RV
 by_cases h:k<8
 · rw [show k / 8=0 by omega,pad_other X k 64 hk (.inr ⟨rfl,h⟩)]
   exact r.set0 _
 · rw [show k / 8=1 by omega,pad_other X k 0 hk (.inl ⟨rfl,by omega⟩)]
   exact r.set1 _
theorem RW.cellAt {w:World} {g a b q:Nat} (r:RW w g 0 (b2 a b)) (x:Nat) (hx:q=0∧x=a∨q=1∧x=b):w.cell? ⟨g,q,none⟩=some (.int .u64 x)∧w.frozen? ⟨g,q,none⟩=false:=by
 have h1:=r.range q (.int .u64 x) (by rcases hx with ⟨rfl,rfl⟩ | ⟨rfl,rfl⟩ <;> rfl)
 have h2:=(r.there q (by show q<2;omega)).2
 rw [Nat.zero_add] at h1 h2
 exact ⟨h1,h2⟩
set_option maxRecDepth 20000 in
set_option maxHeartbeats 2000000 in
theorem blockOf_any (v:Value) (n:Nat) (X:Nat→Nat) (hn:n≤16) (hX:∀ j,X j<256) (w:World) (hv:BytesIn w v n X) :
 Calls Try.prog 23 #[v] w fun e w'=>e = .returned (blV (toV (padN n X)))∧Below w.heap.size w w':=by
 have cs:=fun k hk W=>shiftOf_any k hk W
 obtain ⟨xv,cv,rfl,-,-,-⟩:=hv.src
 have r0:RW ((w.alloc (.cells #[.int .u64 0,.int .u64 0] 43)).alloc (.cells #[.int .u64 0,.int .u64 0] 43)) w.heap.size 0 (b2 0 0):=(RW.fresh w (b2 0 0) 43).still ((Below.refl _ _).alloc (Nat.le_refl _) _)
 have r1:=RW.fresh (w.alloc (.cells #[.int .u64 0,.int .u64 0] 43)) (b2 0 0) 43
 have b1:Below w.heap.size w ((w.alloc (.cells #[.int .u64 0,.int .u64 0] 43)).alloc (.cells #[.int .u64 0,.int .u64 0] 43)):=((Below.refl _ _).alloc (Nat.le_refl _) _).alloc (by simp) _
 rw [World.size_alloc] at r1
 have r1':RV ((w.alloc (.cells #[.int .u64 0,.int .u64 0] 43)).alloc (.cells #[.int .u64 0,.int .u64 0] 43)) (w.heap.size+1) (toV (padN 0 X)):=by
  rw [pad_none];unfold RV;rw [wd_zero,wd_zero];exact r1
 obtain ⟨F,hF⟩:∃ F,F=toV (padN n X):=⟨_,rfl⟩
 rw [←hF]
 have HF:=Hid.mk' hF
 unfold blV
 obtain ⟨fx,hx⟩:∃ x,x=wd F 0:=⟨_,rfl⟩
 obtain ⟨fy,hy⟩:∃ y,y=wd F 64:=⟨_,rfl⟩
 rw [←hx,←hy]
 have Hx:=Hid.mk' hx
 have Hy:=Hid.mk' hy
 clear hx hy
 clear r1 hF
 go_enter Try.func23,Try.ntmps23
 go_wp2
 generalize (w.alloc (.cells #[.int .u64 0,.int .u64 0] 43)).alloc (.cells #[.int .u64 0,.int .u64 0] 43)=V at *
 go_loopw [8] (fun i wr=>∃ k:Nat,k≤n∧i = .int .i64 k∧RV wr (w.heap.size+1) (toV (padN k X))∧RW wr w.heap.size 0 (b2 0 0)∧Below w.heap.size w wr) (fun i _=>n - (intOf i).toNat)
 case atStart=>exact ⟨0,Nat.zero_le _,rfl,r1',r0,b1⟩
 case round =>
  clear r1' r0 b1
  obtain ⟨k,hk,rfl,hA,r,b⟩:=hrel
  by_cases hlt:k<n
  · clear Hx Hy
    obtain ⟨bb,ob,cb,hvt,hbb,-,hcell⟩:=hv.resolve_left (fun ⟨_,_,h⟩=>by omega)
    cases hvt
    have hlt':(k:Int)<(n:Int):=by omega
    have hs:=hA.next hX (show k<16 by omega)
    obtain ⟨q,hq⟩:∃ q,q=k / 8:=⟨_,rfl⟩
    obtain ⟨sh,hsh⟩:∃ sh,sh=56 - 8*(k%8):=⟨_,rfl⟩
    obtain ⟨x,hx⟩:∃ x,x=wd (toV (padN k X)) (64*q):=⟨_,rfl⟩
    obtain ⟨hc,hcf⟩:=hA.cellAt (q:=q) x (by
     rcases (show q=0∨q=1 by omega) with rfl | rfl
     · exact .inl ⟨rfl,hx⟩
     · exact .inr ⟨rfl,hx⟩)
    have cs1:=cs k (by omega)
    rw [←hsh] at cs1
    have hxl:x<18446744073709551616:=by rw [hx];exact wd_lt _ _
    rw [←hq,←hx,←hsh] at hs
    have ho:=u64_or_nat x (X k*2 ^ sh%18446744073709551616) hxl (Nat.mod_lt _ (by decide))
    obtain ⟨y,hy⟩:∃ y,y=x ||| X k*2 ^ sh%18446744073709551616:=⟨_,rfl⟩
    rw [←hy] at hs ho
    rw [show ((X k*2 ^ sh%18446744073709551616:Nat):Int)=IntKind.u64.wrap (IntKind.u64.wrap (X k:Int)*2 ^ sh) by
     rw [show IntKind.u64.wrap (X k:Int)=(X k:Int) from (by
      show (X k:Int)%18446744073709551616=_
      have:=hX k
      omega)]
     show _=(X k:Int)*2 ^ sh%18446744073709551616
     simp] at ho
    have rk:wr.cell? ⟨bb,ob+k,none⟩=some (.int .u8 (X k)):=(b.cell (p:=⟨bb,ob+k,none⟩) hbb).trans (hcell k hlt)
    have hxk:=hX k
    have t1:(k:Int).tdiv 8=(q:Int):=by rw [Int.tdiv_eq_ediv_of_nonneg (by omega)];omega
    have t2:(k:Int) / 8=(q:Int):=by omega
    have t6:IntKind.i64.wrap ((k:Int).tdiv 8)=(q:Int):=by rw [t1];simp only [IntKind.wrap_i64];omega
    have t7:IntKind.i64.wrap (q:Int)=(q:Int):=by simp only [IntKind.wrap_i64];omega
    have t3:(0:Int)≤(q:Int)∧(q:Int)<2:=by omega
    have t4:(0:Int)≤(k:Int)∧(k:Int)<(n:Int):=by omega
    have t5:(0:Int)≤(sh:Int)∧(sh:Int)<64:=by omega
    clear hq hsh hx cs hxl hv hy
    go_wp2
    go_region_with (go_at_call 36;refine (cs1 _).mono ?_;clear cs1;rintro e w1 ⟨rfl,rfl⟩)
    all_goals
     go_wp2
     go_roundw
     case rel=>exact ⟨k+1,hlt,by go_num,hs.drew,(r.far (w.heap.size+1) q [.int .u64 y] (.inl (by omega))).drew,(b.setCell (Nat.le_succ _) _).drew⟩
     case measure=>simp [intOf];omega
  · obtain rfl:k=n:=by omega
    unfold RV at hA
    rw [←HF.out,←Hx.out,←Hy.out] at hA
    clear cs HF hv hX Hx Hy
    have t0:wr.there w.heap.size 0 (b2 fx fy).toArray.size:=r.there
    go_wp2_with (first
     | (refine wpList_load_mid rfl 43 _ rfl (w.heap.size+1) 0 rfl (b2 fx fy) _ hA.range Try.underlying43 rfl info2 ?_)
     | (refine wpList_store_mid rfl 43 _ _ rfl w.heap.size 0 (b2 fx fy).toArray rfl rfl t0 (info2a fx fy) (one2 fx fy) ?_))
    (try simp only [Exit.inBlock,Exit.then])
    refine bodyPost_ret (results_cell_mid Try.results23 _ _ w.heap.size 0 (b2 fx fy) _ rfl (r.stored (b2 fx fy) rfl).range Try.underlying43 rfl info2) rfl ⟨rfl,?_⟩
    exact below_setCells (Nat.le_refl _) _ _ _ b
end Go.Proofs.Ytalgabgofpmebaa
namespace Go.Proofs.Ytalgabgofpmebaa
open Go.RowKit Go.Shelf
attribute [local go_sem] Oper.semAt_some
structure But (bad:Nat→Prop) (W W':World):Prop where
 os:W'.os=W.os
 tape:W'.tape=W.tape
 output:W'.output=W.output
 size:W.heap.size≤W'.heap.size
 block:∀ k,k<W.heap.size→¬bad k→W'.heap[k]? = W.heap[k]?
theorem But.refl (bad:Nat→Prop) (W:World):But bad W W:=⟨rfl,rfl,rfl,Nat.le_refl _,fun _ _ _=>rfl⟩
theorem But.trans {bad:Nat→Prop} {A B C:World} (h:But bad A B) (k:But bad B C):But bad A C:=⟨k.os.trans h.os,k.tape.trans h.tape,k.output.trans h.output,Nat.le_trans h.size k.size,fun i hi hb=>(k.block i (Nat.lt_of_lt_of_le hi h.size) hb).trans (h.block i hi hb)⟩
theorem But.row {bad:Nat→Prop} {W W':World} (h:But bad W W') {K:IntKind} {b o n:Nat} {X:Nat→Nat} (hr:RowAt K W b o n X) (hb:¬bad b):RowAt K W' b o n X:=fun j hj=>by
 have hl:b<W.heap.size:=block_lt_of_cell (hr j hj).1
 exact ⟨(World.cell?_of_block (w:=W) (h.block b hl hb)).trans (hr j hj).1,(World.frozen?_of_block (w:=W) (h.block b hl hb)).trans (hr j hj).2⟩
theorem But.cell {bad:Nat→Prop} {W W':World} (h:But bad W W') {b o:Nat} {v:Value} (hc:W.cell? ⟨b,o,none⟩=some v) (hb:¬bad b):W'.cell? ⟨b,o,none⟩=some v :=
 (World.cell?_of_block (w:=W) (h.block b (block_lt_of_cell hc) hb)).trans hc
theorem wpListIn_load_mid {P:Program} {n:Nat} {ops:Array Oper} {rest:List Oper} {op:Oper} {a:Act} {w:World} {Q:Exit→Act→World→Prop} (hgd:op.guard=none) (ty:TypeId) (x:Operand) (ho:op.op = .load ty x)
 (b o:Nat) (hx:a.eval x = .pointer (some ⟨b,o,none⟩)) (cs:List Value) (d:TypeDesc) (hc:w.rangeAt b o cs)
 (hu:P.underlying ty=some d) (hd:d.isRow=true) (hi:(P.info? ty).map (·.size)=some cs.length)
 (h:wpListIn Fence.wide n P ops Q rest (a.put op.dst (.agg cs.toArray)) w):wpListIn Fence.wide n P ops Q (op :: rest) a w :=
 wpListIn_plain hgd fun _ hK=>⟨fun _ _=>trivial,by
  have hsem:(op.semAt Fence.wide.round a.eval)=execOp a.eval op:=rfl
  rw [hsem]
  unfold execOp
  simp only [ho,hx,Instr.loadAt,Instr.sureAddr,Sem.run_bind,Sem.run_pure,Result.andThen_ok,run_loadVar_mid w b o ty cs d hc hu hd hi]
  exact hK _ _ h⟩
theorem wpListIn_store_mid {P:Program} {n:Nat} {ops:Array Oper} {rest:List Oper} {op:Oper} {a:Act} {w:World} {Q:Exit→Act→World→Prop} (hgd:op.guard=none) (ty:TypeId) (x y:Operand) (ho:op.op = .store ty x y)
 (b o:Nat) (cells:Array Value) (hx:a.eval x = .pointer (some ⟨b,o,none⟩)) (hy:a.eval y = .agg cells) (ht:w.there b o cells.size) (hi:(P.info? ty).map (·.size)=some cells.size) (h1:cells.all (·.oneCell')=true)
 (h:wpListIn Fence.wide n P ops Q rest (a.put op.dst undef) (w.setCells b o cells.toList)):wpListIn Fence.wide n P ops Q (op :: rest) a w :=
 wpListIn_plain hgd fun _ hK=>⟨fun _ _=>trivial,by
  have hsem:(op.semAt Fence.wide.round a.eval)=execOp a.eval op:=rfl
  rw [hsem]
  unfold execOp
  simp only [ho,hx,hy,Instr.storeAt,Instr.sureAddr,Sem.run_bind,Sem.run_pure,Result.andThen_ok,run_storeVar_mid w b o ty cells ht hi h1]
  exact hK _ _ h⟩
theorem But.below {bad:Nat→Prop} {W W':World} (h:But bad W W') {B:Nat} (hB:B≤W.heap.size) (hb:∀ k,bad k→B≤k):Below B W W':=⟨h.os,h.tape,h.output,h.size,fun k hk=>h.block k (by omega) (fun hk'=>by have:=hb k hk';omega)⟩
theorem but_put (W:World) (l:Nat) (o:Obj):But (fun k=>k=l) W (W.putObj l o):=⟨rfl,rfl,rfl,by simp [World.putObj],fun k _ hb=>World.putObj_heap_other (fun e=>hb e)⟩
theorem But.mono {b c:Nat→Prop} {W W':World} (h:But b W W') (hb:∀ k,b k→c k):But c W W':=⟨h.os,h.tape,h.output,h.size,fun k hk hc=>h.block k hk (fun e=>hc (hb k e))⟩
theorem wpIn_range_with {F:Fence} {P:Program} {n:Nat} {g:Operand} {ps:Array Tmp} {assign body:Code} {Q:Exit→Act→World→Prop} {a:Act} {w:World} {gf:Nat} {lb:Array Value} (hro:F.round=none) (hF:∀ f,F.fn f) (hd:F.depth.isSome=true→1≤n) (hg:a.eval g = .func (.func gf) #[] lb) (eg:∀ args w,(callFunc gf args).run P w = .ok (.enter gf args) w)
 (h:∀ r0:Loop,r0.state = .ready→r0.pending=none→r0.tmps=a.tmps→r0.params=ps→r0.assign=assign→r0.body=body →
   CallsIn F (n - 1) P gf (#[.func (.yield (w.heap.size+1)) #[] #[]] ++ lb) ((w.alloc (.deferred (some []))).alloc (.loop r0)) (rangePost F n P (w.heap.size+1) Q { a with defers:=[{ target := .collected w.heap.size,args:=#[] }] ++ a.defers })) :
 (Code.rangeFunc g ps assign body).wpIn F n P Q a w:=by
 refine wpIn_rangeFunc ?_
 intro fn _
 rw [hro]
 obtain ⟨r0,hr0⟩:∃ r0:Loop,r0={ state := .ready,pending:=none,fn,tmps:=a.tmps,params:=ps,assign,body,defers:=w.heap.size }:=⟨_,rfl⟩
 obtain ⟨W1,hW1⟩:∃ W1,(w.alloc (.deferred (some []))).alloc (.loop r0)=W1:=⟨_,rfl⟩
 have hh:=h r0 (by rw [hr0]) (by rw [hr0]) (by rw [hr0]) (by rw [hr0]) (by rw [hr0]) (by rw [hr0])
 rw [hW1] at hh
 clear h
 refine ⟨w.heap.size+1,[{ target := .collected w.heap.size,args:=#[] }],W1,{ target := .fn (.func gf) lb,args:=#[.func (.yield (w.heap.size+1)) #[] #[]] },W1,gf,
  #[.func (.yield (w.heap.size+1)) #[] #[]] ++ lb,W1,?_,?_,?_,?_,hd,?_⟩
 · rw [←hW1,hr0];exact run_enterLoop_outer _ _ _ _ _
 · simp only [resolve,hg]
   simp [go_sem]
 · intro f' _;exact hF f'
 · simp [invoke,go_sem,eg]
 · exact hh
theorem loop_back (r0:Loop) (h1:r0.state = .ready) (h2:r0.pending=none):({ { r0 with state := .busy } with state := .ready,pending:=none }:Loop)=r0:=by
 cases r0
 cases h1
 cases h2
 rfl
theorem yield_round {P:Program} {n l:Nat} {r0:Loop} {args:Array Value} {W:World} {R:Ending→World→Prop} (hl:W.heap[l]? = some (.loop r0)) (hs:args.size=r0.params.size)
 (h:r0.assign.wpIn (Fence.wide.inRound l) n P (Exit.then (fun a₁ w₁=>∃ w₂,(Instr.beginRound l).run P w₁ = .ok () w₂∧r0.body.wpIn (Fence.wide.inRound l) n P (roundPost P l R) a₁ w₂) (fun _ _ _=>False)) { tmps:=(r0.params.zip args).foldl (fun tmps (t,a)=>tmps.setIfInBounds t a) r0.tmps,defers:=[] } W):YieldAt Fence.wide n P l args W R :=
 ⟨r0.fn,_,r0.assign,r0.body,run_yield hl hs,roundIn_of_wpIn trivial h⟩
theorem RW.but {bad:Nat→Prop} {w w':World} {g o:Nat} {cs:List Value} (h:RW w g o cs) (hb:But bad w w') (hne:¬bad g):RW w' g o cs :=
 ⟨fun j v hv=>(World.cell?_of_block (w:=w) (hb.block g h.lt hne)).trans (h.range j v hv),fun j hj=>by
   rw [World.cell?_of_block (w:=w) (hb.block g h.lt hne),World.frozen?_of_block (w:=w) (hb.block g h.lt hne)];exact h.there j hj,Nat.lt_of_lt_of_le h.lt hb.size⟩
theorem Out.but {b o n:Nat} {w w':World} (h:Out b o n w w'):But (fun k=>k=b) w w':=⟨h.os,h.tape,h.output,h.size,fun k hk hne=>h.block k hk hne⟩
theorem BytesIn.but {bad:Nat→Prop} {w w':World} {bb ob n:Nat} {ks:Nat→Nat} (h:∀ j,j<n→w.cell? ⟨bb,ob+j,none⟩=some (.int .u8 (ks j))) (hb:But bad w w') (hne:¬bad bb):∀ j,j<n→w'.cell? ⟨bb,ob+j,none⟩=some (.int .u8 (ks j)):=fun j hj=>hb.cell (h j hj) hne
end Go.Proofs.Ytalgabgofpmebaa
namespace Go.Proofs.Ytalgabgofpmebaa
open Go.RowKit Go.Shelf
attribute [local go_sem] Oper.semAt_some
set_option maxHeartbeats 1000000 in
theorem blocks_any (xo:Option Addr) (n c:Nat) (w:World) :
 Calls Try.prog 28 #[.slice xo n c] w fun e w'=>e = .returned (.func (.func 39) #[] #[.pointer (some ⟨w.heap.size,0,none⟩)])∧w'=w.alloc (.cells #[.slice xo n c] 64):=by
 go_enter Try.func28,Try.ntmps28
 go_wp2
 go_ret
 exact ⟨rfl,rfl⟩
def nb (n:Nat):Nat:=(n+15) / 16
def blkT (n:Nat) (X:Nat→Nat) (k:Nat):V8:=toV (fun j=>padN n X (16*k+j))
theorem blkT_min (n:Nat) (X:Nat→Nat) (k m:Nat) (hm:m=16∧16*k+16≤n∨16*k+m=n∧m≤16):toV (padN m (fun j=>X (16*k+j)))=blkT n X k:=by
 unfold blkT
 exact toV_S fun j hj=>by
  unfold padN
  by_cases h:j<m
  · rw [if_pos h,if_pos (by omega)]
  · rw [if_neg h,if_neg (by omega)]
set_option maxRecDepth 100000 in
set_option maxHeartbeats 4000000 in
theorem giter_in (n:Nat) (l pb lb L:Nat) (N:Nat→Nat) (X:Nat→Nat→Nat) (hX:∀ i j,X i j<256) (U:Nat→Value) (Inv:Nat→Nat→World→Prop)
 (hlist:∀ i k W,Inv i k W→W.cell? ⟨pb,0,none⟩=some (.slice (some ⟨lb,0,none⟩) L L))
 (hcell:∀ i k W,Inv i k W→∀ j,j<L→W.cell? ⟨lb,j,none⟩=some (U j))
 (hbytes:∀ i k W,Inv i k W→∀ j,j<L→BytesIn W (U j) (N j) (X j))
 (hN:∀ j,N j<4611686018427387904) (hLn:L<1000)
 (hkeep:∀ i k W W',Inv i k W→Below W.heap.size W W'→Inv i k W')
 (hnext:∀ i W,Inv i (nb (N i)) W→Inv (i+1) 0 W)
 (hY:∀ i k W1,i<L→16*k<N i→Inv i k W1→YieldAt Fence.wide (n - 1) Try.prog l #[blV (blkT (N i) (X i) k)] W1 fun e W'=>e = .returned (.bool true)∧Inv i (k+1) W')
 (W:World) (h0:Inv 0 0 W) :
 CallsIn Fence.wide n Try.prog 39 #[.func (.yield l) #[] #[],.pointer (some ⟨pb,0,none⟩)] W fun e W'=>(∃ v,e = .returned v)∧Inv L 0 W':=by
 have c0:=hlist 0 0 W h0
 refine callsIn_of_wp Try.func39 rfl trivial ?_ rfl
 simp only [Try.ntmps39,List.size_toArray,List.length_cons,List.length_nil,Nat.reduceAdd,Nat.reduceSub,Array.replicate_succ,Array.replicate_zero,List.push_toArray,List.append_toArray,List.nil_append,List.cons_append]
 gi_wp2
 clear c0
 gi_loopw [8] (fun s wr=>∃ i:Nat,i≤L∧s = .int .i64 i∧Inv i 0 wr) (fun s _=>L - (intOf s).toNat)
 case atStart=>exact ⟨0,Nat.zero_le _,rfl,h0⟩
 case round =>
  clear h0
  obtain ⟨i,hi,rfl,hI⟩:=hrel
  by_cases hiL:i<L
  · have cl:=hcell i 0 wr hI i hiL
    have hb0:=hbytes i 0 wr hI i hiL
    have hYi:=fun k W1=>hY i k W1 hiL
    have hlt':(i:Int)<(L:Int):=by omega
    have hi0:(0:Int)≤(i:Int)∧(i:Int)<(L:Int):=by omega
    have hNi:=hN i
    obtain ⟨xo,cu,hU,-,hcap,-⟩:=hb0.src
    rw [hU] at cl
    have hbi:∀ k W,Inv i k W→BytesIn W (.slice xo (N i) cu) (N i) (X i):=fun k W h=>by rw [←hU];exact hbytes i k W h i hiL
    have hXi:=hX i
    have hki:=hkeep i
    have hni:=hnext i
    generalize N i=M at *
    generalize X i=Y at *
    clear hY hb0 hU hbytes hX hN hkeep hnext hcell hlist
    gi_wp2
    gi_loopw [5] (fun s wq=>∃ k A:Nat,A=16*k∧A<M+16∧s = .int .i64 A∧Inv i k wq) (fun s _=>M+16 - (intOf s).toNat)
    case atStart=>exact ⟨0,0,rfl,by omega,rfl,hI⟩
    case round =>
     clear hI cl
     obtain ⟨k,A,hA,hAl,rfl,hI⟩:=hrel
     by_cases hlt:A<M
     · obtain ⟨bb,ob,cb,hv,hbb,-,hc⟩:=(hbi k wr hI).resolve_left (fun ⟨_,_,h⟩=>by omega)
       cases hv
       have hAM:(A:Int)<(M:Int):=by omega
       have a1:(0:Int)≤(A:Int):=by omega
       have e1:IntKind.i64.wrap ((A:Int)+16)=(A:Int)+16:=by simp only [IntKind.wrap_i64];omega
       obtain ⟨m,hm,hmc⟩:∃ m,(m=16∧A+16≤M∨A+m=M∧m<16)∧m≤16:=by
        by_cases h:A+16≤M
        · exact ⟨16,.inl ⟨rfl,h⟩,Nat.le_refl _⟩
        · exact ⟨M - A,.inr ⟨by omega,by omega⟩,by omega⟩
       have eb:toV (padN m (fun j=>Y (A+j)))=blkT M Y k:=by rw [hA];exact blkT_min M Y k m (by omega)
       have cb:=blockOf_any (.slice (some ⟨bb,ob+A,none⟩) m (cu - A)) m (fun j=>Y (A+j)) hmc (fun j=>hXi _) wr (.inr ⟨_,_,_,rfl,hbb,by omega,fun j hj=>by
        have:=hc (A+j) (by omega)
        rwa [←Nat.add_assoc] at this⟩)
       rw [eb] at cb
       have hk16:16*k<M:=by omega
       have hyy:=fun W1=>hYi k W1 hk16
       have hkk:=hki k wr
       unfold blV at *
       generalize wd (blkT M Y k) 0=fx at *
       generalize wd (blkT M Y k) 64=fy at *
       have hcu:¬cu=A:=by omega
       have hA2:A+16=16*(k+1):=by omega
       have hA3:A+16<M+16:=by omega
       have HA:=Hid.mk' hA2
       clear hA hA2 eb hbi hc hYi hki hni hXi hk16
       rcases hm with ⟨rfl,hm⟩ | ⟨hm,hm16⟩
       · have hmi:(A:Int)+16≤(M:Int):=by omega
         have e2:A+16 - A=16:=by omega
         have e4:(A:Int)+16≤(cu:Int):=by omega
         gi_wp2_with (refine ⟨trivial,(fun h=>by cases h),?_⟩;gi_at_call 23;refine (callsIn_wide.2 cb).mono ?_;clear cb;rintro e w1 ⟨rfl,hb1⟩;(replace hI:=hkk w1 hI hb1);(obtain ⟨fn,tmps,assign,body,hy,hR⟩:=hyy w1 hI))
         refine ⟨(fun h=>by cases h),hR.mono ?_⟩
         rintro e W' ⟨rfl,hI'⟩
         clear hy hR hyy hkk hI
         gi_wp2
         go_roundw
         case rel=>exact ⟨k+1,A+16,HA.out,hA3,by go_num,hI'⟩
         case measure=>simp [intOf];omega
       · have hmi:¬(A:Int)+16≤(M:Int):=by omega
         have hmj:(M:Int)<(A:Int)+16:=by omega
         have hmk:(M:Int)≤(A:Int)+16:=by omega
         have e2:M - A=m:=by omega
         have e4:(M:Int)≤(cu:Int):=by omega
         have e5:(A:Int)≤(M:Int):=by omega
         clear hm hm16
         gi_wp2_with (refine ⟨trivial,(fun h=>by cases h),?_⟩;gi_at_call 23;refine (callsIn_wide.2 cb).mono ?_;clear cb;rintro e w1 ⟨rfl,hb1⟩;(replace hI:=hkk w1 hI hb1);(obtain ⟨fn,tmps,assign,body,hy,hR⟩:=hyy w1 hI))
         refine ⟨(fun h=>by cases h),hR.mono ?_⟩
         rintro e W' ⟨rfl,hI'⟩
         clear hy hR hyy hkk hI
         gi_wp2
         go_roundw
         case rel=>exact ⟨k+1,A+16,HA.out,hA3,by go_num,hI'⟩
         case measure=>simp [intOf];omega
     · obtain rfl:k=nb M:=by unfold nb;omega
       replace hI:=hni wr hI
       have hlt':¬(A:Int)<(M:Int):=by omega
       clear hA hni hYi hbi
       gi_wp2
       go_roundw
       case rel=>exact ⟨i+1,hiL,by go_num,hI⟩
       case measure=>simp [intOf];omega
  · obtain rfl:i=L:=by omega
    have hlt':¬(i:Int)<(i:Int):=by omega
    clear hY hbytes hX hN hkeep hnext hcell hlist
    gi_wp2
    refine bodyPost_end (results_none rfl _ _ _) rfl ?_
    exact ⟨⟨_,rfl⟩,hI⟩
end Go.Proofs.Ytalgabgofpmebaa
namespace Go.Proofs.Ytalgabgofpmebaa
open Go.RowKit
theorem index_2 (x y k:Nat) (hk:k<2) (W:World):(Instr.index 43 (.agg #[.int .u64 x,.int .u64 y]) (.int .i64 k)).run Try.prog W = .ok (.int .u64 (if k=0 then x else y:Nat)) W:=by
 rcases (show k=0∨k=1 by omega) with rfl | rfl
 · kernel_rfl
 · kernel_rfl
theorem neg01 (b:Bool):IntKind.u64.wrap (-(if b then 1 else 0:Int))=(if b then 18446744073709551615 else 0:Nat):=by cases b <;> rfl
theorem and_all (x:Nat) (hx:x<18446744073709551616) (b:Bool):bits .and .u64 (x:Int) ((if b then 18446744073709551615 else 0:Nat):Int)=((if b then x else 0:Nat):Int):=by
 rw [u64_and_nat x _ hx (by split <;> decide)]
 cases b
 · simp
 · congr 1
   show x &&& (2 ^ 64 - 1)=x
   rw [Nat.and_two_pow_sub_one_eq_mod]
   exact Nat.mod_eq_of_lt hx
theorem step_words (a b:V8) (i:Nat):wd (gT b (i+1) a) 0=wd (gT b i a) 0 ^^^ (if b.getLsbD i then wd (gXp i a) 0 else 0)∧wd (gT b (i+1) a) 64=wd (gT b i a) 64 ^^^ (if b.getLsbD i then wd (gXp i a) 64 else 0):=by
 have h:∀ o,wd (gT b (i+1) a) o=wd (gT b i a) o ^^^ (if b.getLsbD i then wd (gXp i a) o else 0):=fun o=>by
  show wd (gT b i a ^^^ (if b.getLsbD i then gXp i a else vZ)) o=_
  rw [wd_xor]
  by_cases h:b.getLsbD i
  · rw [if_pos h,if_pos h]
  · rw [if_neg h,if_neg h,wd_zero]
 exact ⟨h 0,h 64⟩
theorem x_hi (v:V8):bits .xor .u64 ((wd v 0:Int) / 2) (bits .and .u64 16212958658533785600 (IntKind.u64.wrap (-bits .and .u64 (wd v 64:Int) 1)))=((wd (gX v) 0:Nat):Int):=by
 have h1:bits .and .u64 (wd v 64:Int) 1=(if v.getLsbD 127 then 1 else 0:Int):=by
  rw [show (1:Int)=((1:Nat):Int) from rfl,u64_and_nat _ _ (wd_lt _ _) (by decide),wd_low]
  cases v.getLsbD 127 <;> rfl
 have hl:=wd_lt v 0
 rw [h1,neg01,show (16212958658533785600:Int)=((16212958658533785600:Nat):Int) from rfl,and_all _ (by decide),show (wd v 0:Int) / 2=((wd v 0 / 2:Nat):Int) by omega,u64_xor_nat _ _ (by omega) (by split <;> decide),gX_hi]
theorem x_lo (v:V8):bits .or .u64 ((wd v 64:Int) / 2) (IntKind.u64.wrap ((wd v 0:Int)*9223372036854775808))=((wd (gX v) 64:Nat):Int):=by
 have hl:=wd_lt v 64
 rw [show IntKind.u64.wrap ((wd v 0:Int)*9223372036854775808)=((wd v 0*9223372036854775808%18446744073709551616:Nat):Int) from (by show (wd v 0:Int)*9223372036854775808%18446744073709551616=_;omega),show (wd v 64:Int) / 2=((wd v 64 / 2:Nat):Int) by omega,u64_or_nat _ _ (by omega) (Nat.mod_lt _ (by decide)),gX_lo]
theorem x_sum (s x W:Nat) (b:Bool) (hs:s<18446744073709551616) (hx:x<18446744073709551616) (hW:W / 9223372036854775808=if b then 1 else 0):bits .xor .u64 (s:Int) (bits .and .u64 (x:Int) (IntKind.u64.wrap (-((W:Int) / 9223372036854775808))))=((s ^^^ (if b then x else 0):Nat):Int):=by
 have h:(W:Int) / 9223372036854775808=(if b then 1 else 0:Int):=by
  have:(W:Int) / 9223372036854775808=((W / 9223372036854775808:Nat):Int):=by omega
  rw [this,hW]
  cases b <;> rfl
 rw [h,neg01,and_all _ hx,u64_xor_nat _ _ hs (by
  cases b
  · exact (by decide:0<18446744073709551616)
  · exact hx)]
set_option maxRecDepth 20000 in
set_option maxHeartbeats 4000000 in
theorem gtimes_any (a b:V8) (w:World) :
 Calls Try.prog 24 #[blV a,blV b] w fun e w'=>e = .returned (blV (gTm a b))∧Below w.heap.size w w':=by
 unfold blV
 obtain ⟨fx,hx⟩:∃ x,x=wd (gTm a b) 0:=⟨_,rfl⟩
 obtain ⟨fy,hy⟩:∃ y,y=wd (gTm a b) 64:=⟨_,rfl⟩
 rw [←hx,←hy]
 have Hx:=Hid.mk' hx
 have Hy:=Hid.mk' hy
 clear hx hy
 obtain ⟨a0,ha0⟩:∃ x,x=wd a 0:=⟨_,rfl⟩
 obtain ⟨a1,ha1⟩:∃ x,x=wd a 64:=⟨_,rfl⟩
 obtain ⟨c0,hc0⟩:∃ x,x=wd b 0:=⟨_,rfl⟩
 obtain ⟨c1,hc1⟩:∃ x,x=wd b 64:=⟨_,rfl⟩
 rw [←ha0,←ha1,←hc0,←hc1]
 have Ha0:=Hid.mk' ha0
 have Ha1:=Hid.mk' ha1
 have Hc0:=Hid.mk' hc0
 have Hc1:=Hid.mk' hc1
 clear ha0 ha1 hc0 hc1
 obtain ⟨V,hV⟩:∃ V,V=((w.alloc (.cells #[.int .u64 a0,.int .u64 a1] 43)).alloc (.cells #[.int .u64 c0,.int .u64 c1] 43)).alloc (.cells #[.int .u64 0,.int .u64 0] 43):=⟨_,rfl⟩
 have rV:RW V (w.heap.size+1+1) 0 (b2 0 0):=by
  have:=RW.fresh ((w.alloc (.cells #[.int .u64 a0,.int .u64 a1] 43)).alloc (.cells #[.int .u64 c0,.int .u64 c1] 43)) (b2 0 0) 43
  rw [World.size_alloc,World.size_alloc] at this
  rw [hV];exact this
 have rB:RW V (w.heap.size+1) 0 (b2 c0 c1):=by
  have:=(RW.fresh (w.alloc (.cells #[.int .u64 a0,.int .u64 a1] 43)) (b2 c0 c1) 43).still ((Below.refl _ _).alloc (Nat.le_refl _) (.cells #[.int .u64 0,.int .u64 0] 43))
  rw [World.size_alloc] at this
  rw [hV];exact this
 have rA:RW V w.heap.size 0 (b2 a0 a1):=by
  rw [hV];exact ((RW.fresh w (b2 a0 a1) 43).still ((Below.refl _ _).alloc (Nat.le_refl _) _)).still ((Below.refl _ _).alloc (Nat.le_refl _) _)
 have bV:Below w.heap.size w V:=by rw [hV];exact (((Below.refl _ _).alloc (Nat.le_refl _) _).alloc (by simp) _).alloc (by simp;omega) _
 obtain ⟨q1,-⟩:=rA.cellAt (q:=0) a0 (.inl ⟨rfl,rfl⟩)
 obtain ⟨q2,-⟩:=rA.cellAt (q:=1) a1 (.inr ⟨rfl,rfl⟩)
 have HV:=Hid.mk' hV
 clear hV rA
 go_enter Try.func24,Try.ntmps24
 go_upto_region 1 with (fail)
 rw [←HV.out]
 clear HV
 replace rB:=rB.drew
 replace rV:=rV.drew
 replace bV:=bV.drew
 go_region
 clear q1 q2
 generalize V.drew=V1 at *
 have hix:=fun k hk W=>index_2 c0 c1 k hk W
 go_wp2_with (refine wpList_load_mid rfl 43 _ rfl (w.heap.size+1) 0 rfl (b2 c0 c1) _ rB.range Try.underlying43 rfl info2 ?_)
 go_loopw [5,6,7,8,18] (fun s5 s6 s7 s8 i wr=>∃ q:Nat,q≤2∧i = .int .i64 q∧s5 = .int .u64 (wd (gXp (64*q) a) 0)∧s6 = .int .u64 (wd (gXp (64*q) a) 64)∧s7 = .int .u64 (wd (gT b (64*q) a) 0)∧s8 = .int .u64 (wd (gT b (64*q) a) 64)∧wr=V1) (fun _ _ _ _ i _=>2 - (intOf i).toNat)
 case atStart =>
  refine ⟨0,by decide,rfl,?_,?_,?_,?_,rfl⟩
  · rw [Ha0.out];rfl
  · rw [Ha1.out];rfl
  · show Value.int .u64 0 = .int .u64 ((wd vZ 0:Nat):Int);rw [wd_zero];rfl
  · show Value.int .u64 0 = .int .u64 ((wd vZ 64:Nat):Int);rw [wd_zero];rfl
 case round =>
  obtain ⟨q,hq,rfl,rfl,rfl,rfl,rfl,rfl⟩:=hrel
  by_cases hlt:q<2
  · have hi:=fun W=>hix q hlt W
    have hwd:(if q=0 then c0 else c1)=wd b (64*q):=by
     rcases (show q=0∨q=1 by omega) with rfl | rfl
     · exact Hc0.out
     · exact Hc1.out
    rw [hwd] at hi
    have hlt':(q:Int)<2:=by omega
    clear hix Hx Hy Ha0 Ha1 Hc0 Hc1 rB rV bV hwd
    go_wp2_with (rw [hi])
    clear hi
    go_loopw [5,6,7,8,10,21] (fun s5 s6 s7 s8 s10 i wq=>∃ t:Nat,t≤64∧i = .int .i64 t∧s5 = .int .u64 (wd (gXp (64*q+t) a) 0)∧s6 = .int .u64 (wd (gXp (64*q+t) a) 64)∧s7 = .int .u64 (wd (gT b (64*q+t) a) 0)∧s8 = .int .u64 (wd (gT b (64*q+t) a) 64)∧s10 = .int .u64 ((wd b (64*q)*2 ^ t%18446744073709551616:Nat):Int)∧wq=wr) (fun _ _ _ _ _ i _=>64 - (intOf i).toNat)
    case atStart=>exact ⟨0,by decide,rfl,rfl,rfl,rfl,rfl,by rw [Nat.pow_zero,Nat.mul_one,Nat.mod_eq_of_lt (wd_lt _ _)],rfl⟩
    case round =>
     obtain ⟨t,ht,rfl,rfl,rfl,rfl,rfl,rfl,rfl⟩:=hrel
     by_cases htl:t<64
     · have htl':(t:Int)<64:=by omega
       have e1:=x_hi (gXp (64*q+t) a)
       have e2:=x_lo (gXp (64*q+t) a)
       have e3:=x_sum (wd (gT b (64*q+t) a) 0) (wd (gXp (64*q+t) a) 0) _ _ (wd_lt _ _) (wd_lt _ _) (wd_top b (64*q) t htl)
       have e4:=x_sum (wd (gT b (64*q+t) a) 64) (wd (gXp (64*q+t) a) 64) _ _ (wd_lt _ _) (wd_lt _ _) (wd_top b (64*q) t htl)
       rw [←(step_words a b (64*q+t)).1] at e3
       rw [←(step_words a b (64*q+t)).2] at e4
       have e5:IntKind.u64.wrap (((wd b (64*q)*2 ^ t%18446744073709551616:Nat):Int)*2)=((wd b (64*q)*2 ^ (t+1)%18446744073709551616:Nat):Int):=by
        rw [←wd_next]
        show ((wd b (64*q)*2 ^ t%18446744073709551616:Nat):Int)*2%18446744073709551616=_
        omega
       have hg:∀ o,wd (gXp (64*q+(t+1)) a) o=wd (gX (gXp (64*q+t) a)) o:=fun o=>rfl
       have hT:∀ o,wd (gT b (64*q+(t+1)) a) o=wd (gT b (64*q+t+1) a) o:=fun o=>rfl
       rw [←hg 0] at e1
       rw [←hg 64] at e2
       rw [←hT 0] at e3
       rw [←hT 64] at e4
       generalize wd (gXp (64*q+t) a) 0=F at *
       generalize wd (gXp (64*q+t) a) 64=S at *
       generalize wd (gT b (64*q+t) a) 0=s at *
       generalize wd (gT b (64*q+t) a) 64=s2 at *
       generalize wd b (64*q)*2 ^ t%18446744073709551616=W at *
       clear hg hT
       go_wp2
       go_roundw
       case rel=>exact ⟨t+1,htl,by go_num,rfl,rfl,rfl,rfl,rfl,True.intro⟩
       case measure=>simp [intOf];omega
     · obtain rfl:t=64:=by omega
       go_wp2
       go_roundw
       case rel=>exact ⟨q+1,hlt,by go_num,rfl,rfl,rfl,rfl,True.intro⟩
       case measure=>simp [intOf];omega
  · obtain rfl:q=2:=by omega
    have t0:wr.there (w.heap.size+1+1) 0 (b2 fx fy).toArray.size:=rV.there
    have e1:wd (gT b (64*2) a) 0=fx:=Hx.out.symm
    have e2:wd (gT b (64*2) a) 64=fy:=Hy.out.symm
    rw [e1,e2]
    clear hix e1 e2 Hx Hy Ha0 Ha1 Hc0 Hc1 rB
    go_wp2_with (refine wpList_store_mid rfl 43 _ _ rfl (w.heap.size+1+1) 0 (b2 fx fy).toArray rfl rfl t0 (info2a fx fy) (one2 fx fy) ?_)
    (try simp only [Exit.inBlock,Exit.then])
    refine bodyPost_ret (results_cell_mid Try.results24 _ _ (w.heap.size+1+1) 0 (b2 fx fy) _ rfl (rV.stored (b2 fx fy) rfl).range Try.underlying43 rfl info2) rfl ⟨rfl,?_⟩
    exact below_setCells (by omega) _ _ _ bV
end Go.Proofs.Ytalgabgofpmebaa
namespace Go.Proofs.Ytalgabgofpmebaa
open Go.RowKit Go.Shelf
def OnlyN (Q:Exit→Act→World→Prop):Exit→Act→World→Prop
 | .normal,a,w=>Q .normal a w
 | _,_,_=>False
theorem OnlyN.normal {Q:Exit→Act→World→Prop} {a:Act} {w:World} (h:Q .normal a w):OnlyN Q .normal a w:=h
theorem OnlyN.imp {Q:Exit→Act→World→Prop}:∀ (e:Exit) (a:Act) (w:World),OnlyN Q e a w→Q e a w:=fun e a w h=>by
 cases e <;> first | exact h | exact (h:False).elim
theorem OnlyN.stays {Q:Exit→Act→World→Prop}:¬LetsOut (OnlyN Q):=fun ⟨_,_,h⟩=>h
def noDefer (ops:Array Oper):Bool:=ops.toList.all fun o=>match o.op with | .defer _=>false | _=>true
section
variable {P:Program} {md:Region.Mode} {ops:Array Oper} {Q:Exit→Act→World→Prop} {S:World→Prop} {fuel:Nat} {listed:Array Bool} {a:Act} {w:World}
theorem upon_in {l n:Nat} {o:Oper} {K:Act→World→Prop}:∀ {r:Result Next},o.upon P a K Q r→o.uponIn (Fence.wide.inRound l) n P a K Q r
 | .ok (.value _) _,h=>h
 | .ok .skip _,h=>h
 | .ok (.defer _) _,h=>h
 | .ok (.enter _ _) _,h=>⟨(fun hd=>by cases hd),CallsIn.inRound l (callsIn_wide.2 h)⟩
 | .ok (.row _ _) _,h=>⟨(fun hd=>by cases hd),fun c cs _=>let ⟨v,w',r,s⟩:=h c cs;⟨v,w',r,stepsIn_wide.2 s⟩⟩
 | .ok (.round ..) _,h=>(h:False).elim
 | .halt (.panic _) _,h=>h
theorem any_in {l n:Nat} (hd:noDefer ops=true) (hQ:¬LetsOut Q):∀ (fuel:Nat) (listed:Array Bool) (a:Act) (w:World),wpAny P md ops Q fuel listed a w→wpAnyIn (Fence.wide.inRound l) n P md ops Q fuel listed a w
 | 0,_,_,_,h=>h
 | fuel+1,listed,a,w,h=>⟨h.1,fun i hi=>by
  have hi':=h.2 i hi
  unfold wpOp at hi'
  unfold wpOpIn
  split
  · rename_i heq
    rw [heq] at hi'
    exact any_in hd hQ fuel _ a w hi'
  · rename_i o heq
    rw [heq] at hi'
    dsimp only at hi'
    split
    · rename_i hw
      rw [if_pos hw] at hi'
      have h1:=hi'.resolve_right fun h=>hQ h.2
      refine ⟨fun _ _=>trivial,?_⟩
      have hnd:∀ c,o.op ≠ .defer c:=fun c e=>by
       have hm:o∈ops.toList:=by
        rw [←Array.getElem?_toList] at heq
        exact List.mem_of_getElem? heq
       have:=List.all_eq_true.1 hd o hm
       rw [e] at this
       cases this
      rw [Oper.semAt_plain (Fence.wide.inRound l) _ o hnd]
      exact upon_in (Oper.wp_mono (fun a w h=>any_in hd hQ fuel _ a w h) h1)
    · rename_i hw
      rw [if_neg hw] at hi'
      exact ⟨fun _ _=>trivial,any_in hd hQ fuel _ _ w hi'⟩⟩
theorem wpIn_held {l n id:Nat} (hm:P.follows .mixedOrders=true) (hd:noDefer ops=true) (hS:S w.drew) (h:S w.drew→wpAnyH P .any ops (OnlyN Q) S ops.size (Array.replicate ops.size false) a w.drew):(Code.region id ops true).wpIn (Fence.wide.inRound l) n P Q a w :=
 wpIn_mono (wpIn_region_any hm (any_in hd OnlyN.stays _ _ _ _ (wpAny_of_held _ _ _ _ (h hS)))) OnlyN.imp
theorem tlO (i:Nat) {V:World} {oi:Oper} {g off k b p n:Nat} {cs:List Value} (r:RW V g off cs) (hne:g≠b) (hS:Out b p n V w) (ty:Nat) {d:TypeDesc} (hu:P.underlying ty=some d) (hin:(P.info? ty).map (·.size)=some cs.length)
 (h:wpAnyH P md ops Q (fun u=>Out b p n V u) fuel (listed.setIfInBounds i true) (a.put oi.dst (.agg cs.toArray)) w) (hi:ops.toList[i]? = some oi:=by rfl) (ho:oi.op = .load ty (.tmp k):=by rfl)
 (hd:d.isRow=true:=by rfl) (hw:Region.wanted oi (yielded ops a.tmps)=true:=by rfl) (hx:a.eval (.tmp k) = .pointer (some ⟨g,off,none⟩):=by rfl)
 (hQ:∀ c b w,Q (.panic c) (b.put oi.dst (.agg cs.toArray)) w→Q (.panic c) b w:=by exact fun _ _ _ h=>h) (hs:Region.noSelect ops=true:=by kernel_rfl) (hf:Region.free md ops listed i=true:=by kernel_rfl) (hr:(Region.ready md ops listed).contains i=true:=by kernel_rfl):wpAnyH P md ops Q (fun u=>Out b p n V u) (fuel+1) listed a w :=
 tkH i oi _ hS (ldO r hne ty k hu hin hd hw ho hx) h hQ (at_list hi) hs hf hr
theorem lo (i:Nat) {oi:Oper} (ty k:Nat) {g off:Nat} {cs:List Value} {d:TypeDesc} (r:RW w g off cs) (hS:S w) (hu:P.underlying ty=some d) (hin:(P.info? ty).map (·.size)=some cs.length) (h:wpAnyH P md ops Q S fuel (listed.setIfInBounds i true) (a.put oi.dst (.agg cs.toArray)) w)
 (hi:ops.toList[i]? = some oi:=by rfl) (hr:Region.ready md ops listed=[i]:=by kernel_rfl) (hd:d.isRow=true:=by rfl) (ho:oi.op = .load ty (.tmp k):=by rfl) (hx:a.eval (.tmp k) = .pointer (some ⟨g,off,none⟩):=by rfl) (hw:Region.wanted oi (yielded ops a.tmps)=true:=by rfl):wpAnyH P md ops Q S (fuel+1) listed a w :=
 wpAnyH_ready hr (by simp) (aL oi ty k r hS hu hin h AllReadyH.nil hd ho hx (at_list hi) hw)
theorem so (i:Nat) {oi:Oper} (ty x y:Nat) {g off:Nat} {cs:List Value} (ds:List Value) (r:RW w g off cs) (hl:ds.length=cs.length) (hk:S (w.setCells g off ds)) (hin:(P.info? ty).map (·.size)=some ds.toArray.size) (h1:ds.toArray.all (·.oneCell')=true) (h:RW (w.setCells g off ds) g off ds→wpAnyH P md ops Q S fuel (listed.setIfInBounds i true) (a.put oi.dst undef) (w.setCells g off ds))
 (hi:ops.toList[i]? = some oi:=by rfl) (hr:Region.ready md ops listed=[i]:=by kernel_rfl) (ho:oi.op = .store ty (.tmp x) (.tmp y):=by rfl) (hx:a.eval (.tmp x) = .pointer (some ⟨g,off,none⟩):=by rfl) (hy:a.eval (.tmp y) = .agg ds.toArray:=by rfl) (hw:Region.wanted oi (yielded ops a.tmps)=true:=by rfl):wpAnyH P md ops Q S (fuel+1) listed a w :=
 wpAnyH_ready hr (by simp) (aT oi ty x y ds r hl hk hin h1 h AllReadyH.nil ho hx hy (at_list hi) hw)
end
end Go.Proofs.Ytalgabgofpmebaa
namespace Go.Proofs.Ytalgabgofpmebaa
open Go.RowKit Go.Shelf
attribute [local go_sem] Oper.semAt_some
def hsV (h s:V8) (n:Nat) (X:Nat→Nat):Nat→V8
 | 0=>s
 | k+1=>gTm (hsV h s n X k ^^^ blkT n X k) h
def hsC (h:V8) (N:Nat→Nat) (X:Nat→Nat→Nat):Nat→V8
 | 0=>vZ
 | i+1=>hsV h (hsC h N X i) (N i) (X i) (nb (N i))
structure HInv (w:World) (l D:Nat) (rec:Loop) (h s:V8) (W:World):Prop where
 lp:W.heap[l]? = some (.loop rec)
 dfr:W.heap[D]? = some (.deferred (some []))
 key:RV W w.heap.size h
 res:RW W (w.heap.size+1) 0 (b2 0 0)
 sum:RV W (w.heap.size+1+1) s
 bel:Below w.heap.size w W
theorem HInv.below {w:World} {l D:Nat} {rec:Loop} {h s:V8} {W W':World} (H:HInv w l D rec h s W) (hb:Below W.heap.size W W'):HInv w l D rec h s W' :=
 ⟨(hb.block l (Array.getElem?_eq_some_iff.1 H.lp).1).trans H.lp,(hb.block D (Array.getElem?_eq_some_iff.1 H.dfr).1).trans H.dfr,H.key.still hb,H.res.still hb,H.sum.still hb,below_next H.bel hb⟩
set_option maxRecDepth 100000 in
set_option maxHeartbeats 4000000 in
theorem hashed_in (n:Nat) (h:V8) (pb lb L:Nat) (N:Nat→Nat) (X:Nat→Nat→Nat) (hX:∀ i j,X i j<256) (U:Nat→Value) (hN:∀ j,N j<4611686018427387904) (hLn:L<1000) (w:World)
 (hlist:w.cell? ⟨pb,0,none⟩=some (.slice (some ⟨lb,0,none⟩) L L)) (hcell:∀ j,j<L→w.cell? ⟨lb,j,none⟩=some (U j)) (hbytes:∀ j,j<L→BytesIn w (U j) (N j) (X j)) :
 CallsIn Fence.wide n Try.prog 27 #[blV h,.func (.func 39) #[] #[.pointer (some ⟨pb,0,none⟩)]] w fun e w'=>e = .returned (blV (hsC h N X L))∧Below w.heap.size w w':=by
 obtain ⟨F,hF⟩:∃ F,F=hsC h N X L:=⟨_,rfl⟩
 rw [←hF]
 have HF:=Hid.mk' hF
 clear hF
 unfold blV
 obtain ⟨a0,ha0⟩:∃ x,x=wd h 0:=⟨_,rfl⟩
 obtain ⟨a1,ha1⟩:∃ x,x=wd h 64:=⟨_,rfl⟩
 obtain ⟨f0,hf0⟩:∃ x,x=wd F 0:=⟨_,rfl⟩
 obtain ⟨f1,hf1⟩:∃ x,x=wd F 64:=⟨_,rfl⟩
 rw [←ha0,←ha1,←hf0,←hf1]
 obtain ⟨w2,hw2⟩:∃ V,V=((w.alloc (.cells #[.int .u64 a0,.int .u64 a1] 43)).alloc (.cells #[.int .u64 0,.int .u64 0] 43)).alloc (.cells #[.int .u64 0,.int .u64 0] 43):=⟨_,rfl⟩
 have rS:RV w2 (w.heap.size+1+1) vZ:=by
  have:=RW.fresh ((w.alloc (.cells #[.int .u64 a0,.int .u64 a1] 43)).alloc (.cells #[.int .u64 0,.int .u64 0] 43)) (b2 0 0) 43
  rw [World.size_alloc,World.size_alloc] at this
  rw [hw2];unfold RV;rw [wd_zero,wd_zero];exact this
 have rR:RW w2 (w.heap.size+1) 0 (b2 0 0):=by
  have:=(RW.fresh (w.alloc (.cells #[.int .u64 a0,.int .u64 a1] 43)) (b2 0 0) 43).still ((Below.refl _ _).alloc (Nat.le_refl _) (.cells #[.int .u64 0,.int .u64 0] 43))
  rw [World.size_alloc] at this
  rw [hw2];exact this
 have rK:RV w2 w.heap.size h:=by
  unfold RV
  rw [hw2,←ha0,←ha1];exact ((RW.fresh w (b2 a0 a1) 43).still ((Below.refl _ _).alloc (Nat.le_refl _) _)).still ((Below.refl _ _).alloc (Nat.le_refl _) _)
 have b2':Below w.heap.size w w2:=by rw [hw2];exact (((Below.refl _ _).alloc (Nat.le_refl _) _).alloc (by simp) _).alloc (by simp;omega) _
 have hs2:w2.heap.size=w.heap.size+3:=by rw [hw2];simp
 have Ha0:=Hid.mk' ha0
 have Ha1:=Hid.mk' ha1
 have Hf0:=Hid.mk' hf0
 have Hf1:=Hid.mk' hf1
 have Hw2:=Hid.mk' hw2
 have Hs2:=Hid.mk' hs2
 clear ha0 ha1 hf0 hf1 hw2 hs2
 refine callsIn_of_wp_marks Try.func27 rfl trivial ?_ rfl
 simp only [Try.ntmps27,List.size_toArray,List.length_cons,List.length_nil,Nat.reduceAdd,Nat.reduceSub,Array.replicate_succ,Array.replicate_zero,List.push_toArray,List.append_toArray,List.nil_append,List.cons_append]
 gi_wp2
 rw [←Hw2.out]
 clear Hw2
 refine wpIn_range_with rfl (fun _=>trivial) (fun h=>by cases h) rfl (enters_of Try.func39 (by kernel_rfl) rfl) (fun q0 e1 e2 e4 e5 e6 e7 => ?_)
 have hs2:=Hs2.out
 clear Hs2
 obtain ⟨W1,hW1⟩:∃ W1,W1=(w2.alloc (.deferred (some []))).alloc (.loop q0):=⟨_,rfl⟩
 obtain ⟨l,hl⟩:∃ l,l=w2.heap.size+1:=⟨_,rfl⟩
 have hbl1:Below w2.heap.size w2 W1:=by rw [hW1];exact ((Below.refl _ _).alloc (Nat.le_refl _) _).alloc (by simp) _
 have hl1:W1.heap[l]? = some (.loop q0):=by
  rw [hW1,hl];have:=World.alloc_heap_new (w2.alloc (.deferred (some []))) (.loop q0);rwa [World.size_alloc] at this
 have hD1:W1.heap[w2.heap.size]? = some (.deferred (some [])):=by
  rw [hW1];exact (Below.heap_alloc _ _ _ (by simp)).trans (World.alloc_heap_new w2 _)
 rw [←hW1,←hl]
 obtain ⟨D,hD⟩:∃ D,D=w2.heap.size:=⟨_,rfl⟩
 have hDl:D<l:=by omega
 rw [←hD] at hD1 ⊢
 have hDc:D=w.heap.size+3:=by omega
 clear hW1 hl
 have hI0:HInv w l D q0 h (hsV h (hsC h N X 0) (N 0) (X 0) 0) W1:=⟨hl1,hD1,rK.still hbl1,rR.still hbl1,rS.still hbl1,b2'.trans (hbl1.mono b2'.size)⟩
 have hY:∀ i k V,i<L→16*k<N i→HInv w l D q0 h (hsV h (hsC h N X i) (N i) (X i) k) V→YieldAt Fence.wide (n - 1 - 1) Try.prog l #[blV (blkT (N i) (X i) k)] V fun e W'=>e = .returned (.bool true)∧HInv w l D q0 h (hsV h (hsC h N X i) (N i) (X i) (k+1)) W':=by
  intro i k V _ _ hI
  show YieldAt Fence.wide (n - 1 - 1) Try.prog l #[blV (blkT (N i) (X i) k)] V fun e W'=>e = .returned (.bool true)∧HInv w l D q0 h (gTm (hsV h (hsC h N X i) (N i) (X i) k ^^^ blkT (N i) (X i) k) h) W'
  generalize hsV h (hsC h N X i) (N i) (X i) k=s at *
  generalize blkT (N i) (X i) k=b at *
  refine yield_round hI.lp (by rw [e5];rfl) ?_
  rw [e4,e5,e6,e7]
  have cp:=fun W=>gplus_any s b W
  have ct:=fun W=>gtimes_any (s ^^^ b) h W
  unfold blV at *
  obtain ⟨x0,hx0⟩:∃ x,x=wd b 0:=⟨_,rfl⟩
  obtain ⟨x1,hx1⟩:∃ x,x=wd b 64:=⟨_,rfl⟩
  obtain ⟨V1,hV1⟩:∃ V1,V1=V.alloc (.cells #[.int .u64 x0,.int .u64 x1] 43):=⟨_,rfl⟩
  have rB:RW V1 V.heap.size 0 (b2 x0 x1):=by rw [hV1];exact RW.fresh _ _ _
  have bV1:Below V.heap.size V V1:=by rw [hV1];exact (Below.refl _ _).alloc (Nat.le_refl _) _
  have hI1:=hI.below bV1
  obtain ⟨V2,hV2⟩:∃ V2,V2=V1.putObj l (.loop { q0 with state := .busy }):=⟨_,rfl⟩
  have hbV:But (fun k=>k=l) V1 V2:=by rw [hV2];exact but_put _ _ _
  have hlV:V2.heap[l]? = some (.loop { q0 with state := .busy }):=by rw [hV2];exact World.putObj_heap_same (Array.getElem?_eq_some_iff.1 hI1.lp).1
  have hDV:V2.heap[D]? = some (.deferred (some [])):=(hbV.block _ (Array.getElem?_eq_some_iff.1 hI1.dfr).1 (by omega)).trans hI1.dfr
  have hlb:l<V.heap.size:=(Array.getElem?_eq_some_iff.1 hI.lp).1
  have hbeg:(Instr.beginRound l).run Try.prog V1 = .ok () V2:=by rw [hV2];exact run_beginRound hI1.lp e1
  replace rB:=rB.but hbV (by omega)
  have rK1:=hI1.key.but hbV (by omega)
  have rR1:=hI1.res.but hbV (by omega)
  have rS1:=hI1.sum.but hbV (by omega)
  have hBV:Below w.heap.size w V2:=hI1.bel.trans (hbV.below hI1.bel.size (by omega))
  have hfin:∀ V3:World,Out (w.heap.size+1+1) 0 2 V2 V3→RV V3 (w.heap.size+1+1) (gTm (s ^^^ b) h)→∃ v W',(Instr.endRound l none).run Try.prog V3 = .ok v W'∧(Ending.returned v = .returned (.bool true)∧HInv w l D q0 h (gTm (s ^^^ b) h) W'):=by
   intro V3 hO r3
   have hb3:=hO.but
   have hl3:V3.heap[l]? = some (.loop { q0 with state := .busy }):=(hb3.block l (Array.getElem?_eq_some_iff.1 hlV).1 (by omega)).trans hlV
   have hrec:({ { q0 with state := .busy } with state := .ready,pending:=none }:Loop)=q0:=loop_back q0 e1 e2
   have hb5:=but_put V3 l (.loop q0)
   refine ⟨_,_,run_endRound none hl3,rfl,?_⟩
   simp only [Option.isNone_none,if_true,hrec]
   have hD3:=(hb3.block D (Array.getElem?_eq_some_iff.1 hDV).1 (by omega)).trans hDV
   exact ⟨World.putObj_heap_same (Array.getElem?_eq_some_iff.1 hl3).1,(hb5.block D (Array.getElem?_eq_some_iff.1 hD3).1 (by omega)).trans hD3,(rK1.but hb3 (by omega)).but hb5 (by omega),(rR1.but hb3 (by omega)).but hb5 (by omega),r3.but hb5 (by omega),(hBV.trans (hb3.below hBV.size (by omega))).trans (hb5.below (Nat.le_trans hBV.size hb3.size) (by omega))⟩
  have hsV:w.heap.size+1+1<V2.heap.size:=rS1.lt
  have nB:V.heap.size≠w.heap.size+1+1:=by omega
  have nK:w.heap.size≠w.heap.size+1+1:=by omega
  have HV1:=Hid.mk' hV1
  rw [←hx0,←hx1] at cp ⊢
  unfold RV at *
  generalize wd s 0=s0 at *
  generalize wd s 64=s1 at *
  generalize wd (s ^^^ b) 0=p0 at *
  generalize wd (s ^^^ b) 64=p1 at *
  generalize wd h 0=k0 at *
  generalize wd h 64=k1 at *
  generalize wd (gTm (s ^^^ b) h) 0=m0 at *
  generalize wd (gTm (s ^^^ b) h) 64=m1 at *
  clear hV2 hV1 hx0 hx1 hI e1 e2 e4 e5 e6 e7 hI0 hbV hBV hDV hlV hI1 bV1 rR1 hD hDc hDl
  gi_wp2
  rw [←HV1.out]
  refine ⟨V2,hbeg,?_⟩
  gi_wp2
  have hdr:Below V2.heap.size V2 V2.drew:=(Below.refl _ _).drew
  replace rB:=rB.still hdr
  replace rK1:=rK1.still hdr
  replace rS1:=rS1.still hdr
  have hO0:Out (w.heap.size+1+1) 0 2 V2 V2.drew:=Out.drew _
  replace hsV:w.heap.size+1+1<V2.drew.heap.size:=hsV
  refine wpIn_held (S:=fun u=>Out (w.heap.size+1+1) 0 2 V2.drew u) (by kernel_rfl) (by kernel_rfl) (Out.refl _ _ _ _) (fun hS => ?_)
  generalize V2.drew=V3 at *
  refine tlO 1 rB nB hS 43 Try.underlying43 info2 ?_
  (try simp only [pS])
  refine tlO 3 rK1 nK hS 43 Try.underlying43 info2 ?_
  (try simp only [pS])
  refine lo 0 43 5 rS1 hS Try.underlying43 info2 ?_
  (try simp only [pS])
  refine cl 2 (cp _) ?_
  rintro e V4 ⟨rfl,hb4⟩
  refine ⟨_,rfl,Out.of_below hb4 hsV,?_⟩
  (try simp only [pS])
  refine cl 4 (ct _) ?_
  rintro e V5 ⟨rfl,hb5⟩
  have hb45:=below_next hb4 hb5
  refine ⟨_,rfl,Out.of_below hb45 hsV,?_⟩
  (try simp only [pS])
  replace rS1:=rS1.still hb45
  refine so 5 43 5 13 (b2 m0 m1) rS1 rfl ((Out.of_below hb45 hsV).trans (Out.setCells _ _ (Nat.le_refl _) (Nat.le_refl _))) (info2a m0 m1) (one2 m0 m1) (fun r5 => ?_)
  refine wpAnyH_done (by kernel_rfl) ?_ _
  refine OnlyN.normal ?_
  dsimp only [Act.put]
  have hf:=hfin _ (hO0.trans ((Out.of_below hb45 hsV).trans (Out.setCells _ _ (Nat.le_refl _) (Nat.le_refl _)))) r5
  clear hfin ct cp rB rK1 rS1 hb4 hb5 hb45 hS
  gi_wp2
  exact hf
 have hL0:hsV h (hsC h N X L) (N L) (X L) 0=F:=HF.out.symm
 have hcells:∀ i k W,HInv w l D q0 h (hsV h (hsC h N X i) (N i) (X i) k) W→Below w.heap.size w W:=fun _ _ _ H=>H.bel
 refine (giter_in (n - 1) l pb lb L N X hX U (fun i k W=>HInv w l D q0 h (hsV h (hsC h N X i) (N i) (X i) k) W) (fun i k W H=>(H.bel.cell (block_lt_of_cell hlist)).trans hlist) (fun i k W H j hj=>(H.bel.cell (block_lt_of_cell (hcell j hj))).trans (hcell j hj)) (fun i k W H j hj=>(hbytes j hj).keep H.bel) hN hLn (fun i k W W' H hb=>H.below hb) (fun i W H=>H) hY W1 hI0).mono ?_
 rintro e W2 ⟨⟨v,rfl⟩,hG⟩
 rw [hL0] at hG
 obtain ⟨V,hV⟩:∃ V,V=W2.putObj l (.loop { q0 with state := .exhausted }):=⟨_,rfl⟩
 have hbV:But (fun k=>k=l) W2 V:=by rw [hV];exact but_put _ _ _
 have hDV:V.heap[D]? = some (.deferred (some [])):=(hbV.block _ (Array.getElem?_eq_some_iff.1 hG.dfr).1 (by omega)).trans hG.dfr
 have hBV:Below w.heap.size w V:=hG.bel.trans (hbV.below hG.bel.size (by omega))
 have hsum:=hG.sum.but hbV (by omega)
 have hres:=hG.res.but hbV (by omega)
 refine ⟨none,V,?_,?_⟩
 · have h:=run_endLoop (P:=Try.prog) hG.lp (by rw [e1];simp)
   rw [←hV,e2] at h
   exact h
 have f0e:=Hf0.out
 have f1e:=Hf1.out
 rw [←f0e,←f1e] at hsum
 have t0:V.there (w.heap.size+1) 0 (b2 f0 f1).toArray.size:=hres.there
 have hD':D<V.heap.size:=(Array.getElem?_eq_some_iff.1 hDV).1
 clear hV hY hI0 e1 e2 e4 e5 e6 e7 hbl1 hl1 hD1 hG hcells hL0 HF Hf0 Hf1 f0e f1e Ha0 Ha1 hlist hcell hbytes hN rS rR rK
 gi_wp2_with (first
  | (refine wpListIn_load_mid rfl 43 _ rfl (w.heap.size+1+1) 0 rfl (b2 f0 f1) _ hsum.range Try.underlying43 rfl info2 ?_)
  | (refine wpListIn_store_mid rfl 43 _ _ rfl (w.heap.size+1) 0 (b2 f0 f1).toArray rfl rfl t0 (info2a f0 f1) (one2 f0 f1) ?_))
 subst hDc
 dsimp only [Act.put]
 have hD4:(V.setCells (w.heap.size+1) 0 (b2 f0 f1)).heap[w.heap.size+3]? = some (.deferred (some [])):=(heap_setCells_other _ _ _ _ _ (by omega)).trans hDV
 have hr4:RW (V.setCells (w.heap.size+1) 0 (b2 f0 f1)) (w.heap.size+1) 0 (b2 f0 f1):=hres.stored (b2 f0 f1) rfl
 have hB4:Below w.heap.size w (V.setCells (w.heap.size+1) 0 (b2 f0 f1)):=below_setCells (by omega) _ _ _ hBV
 have hbV2:=but_put (V.setCells (w.heap.size+1) 0 (b2 f0 f1)) (w.heap.size+3) (.deferred none)
 have hr5:=hr4.but hbV2 (by omega)
 have hB5:=hB4.trans (hbV2.below hB4.size (by omega))
 refine ⟨by simp,.inl ⟨_,_,rfl,run_takeDeferred hD4,?_⟩⟩
 exact ⟨_,results_cell_mid Try.results27 _ _ (w.heap.size+1) 0 (b2 f0 f1) _ rfl hr5.range Try.underlying43 rfl info2,rfl,hB5⟩
theorem hashed_any (h:V8) (pb lb L:Nat) (N:Nat→Nat) (X:Nat→Nat→Nat) (hX:∀ i j,X i j<256) (U:Nat→Value) (hN:∀ j,N j<4611686018427387904) (hLn:L<1000) (w:World)
 (hlist:w.cell? ⟨pb,0,none⟩=some (.slice (some ⟨lb,0,none⟩) L L)) (hcell:∀ j,j<L→w.cell? ⟨lb,j,none⟩=some (U j)) (hbytes:∀ j,j<L→BytesIn w (U j) (N j) (X j)) :
 Calls Try.prog 27 #[blV h,.func (.func 39) #[] #[.pointer (some ⟨pb,0,none⟩)]] w fun e w'=>e = .returned (blV (hsC h N X L))∧Below w.heap.size w w' :=
 callsIn_wide.1 (hashed_in 9 h pb lb L N X hX U hN hLn w hlist hcell hbytes)
end Go.Proofs.Ytalgabgofpmebaa
namespace Go.Proofs.Ytalgabgofpmebaa
open Go.RowKit
theorem mx_idx (k:Nat) (hk:k<16):∃ s:Nat,s=k - k%4∧s+3<16∧(k:Int) - (k:Int)%4=(s:Int)∧∃ n:Nat,n<16∧n=s+(k+1)%4∧(s:Int)+((k:Int)+1)%4=(n:Int) :=
 ⟨k - k%4,rfl,by omega,by omega,k - k%4+(k+1)%4,by omega,rfl,by omega⟩
set_option maxRecDepth 20000 in
set_option maxHeartbeats 4000000 in
theorem mixed_any (X:Nat→Nat) (hX:B16 X) (w:World) :
 Calls Try.prog 59 #[sqV X] w fun e w'=>e = .returned (sqV (mxN X))∧Below w.heap.size w w':=by
 have hz:=zeroS
 have hi3:=infoS X
 have hix:=fun k hk=>index_u8 Try.underlying71 X k hk .i64
 obtain ⟨V,hV,hVs,hbV,hA0,hB0⟩:=two_new X (fun _=>0) w (zb 16) zb16 71 71
 obtain ⟨W,hW⟩:∃ W,W=V.alloc (.cells (zb 16) 71):=⟨_,rfl⟩
 have hbW:Below w.heap.size w W:=by rw [hW];exact hbV.alloc (by omega) _
 have hA:RowAt .u8 W w.heap.size 0 16 X:=by rw [hW];exact hA0.alloc (by omega) _
 have hB:RowAt .u8 W (w.heap.size+1) 0 16 (fun _=>0):=by rw [hW];exact hB0.alloc (by omega) _
 have hC:RowAt .u8 W (w.heap.size+1+1) 0 16 (fun _=>0):=by rw [hW,←hVs];exact RowAt.zero V 16 _
 rw [←hV] at hW
 have HW:=Hid.mk' hW
 have hAr:=hA.range
 unfold sqV
 obtain ⟨Z,hZ⟩:∃ Z:Nat→Nat,Z=mxN X:=⟨_,rfl⟩
 rw [←hZ]
 have HZ:=Hid.mk' hZ
 clear hW hV hZ hA0 hB0 hbV hVs
 go_enter Try.func59,Try.ntmps59
 go_wp2_with (first
  | (rw [←HW.out];refine wpList_load_mid rfl 71 _ rfl w.heap.size 0 rfl (ints .u8 16 X) _ hAr Try.underlying71 rfl hi3 ?_))
 go_loopw [9] (fun i wr=>∃ k:Nat,k≤16∧i = .int .i64 k∧RowAt .u8 wr w.heap.size 0 16 X∧RowAt .u8 wr (w.heap.size+1) 0 16 (fun _=>0)∧RowAt .u8 wr (w.heap.size+1+1) 0 16 (pr Z (fun _=>0) k)∧Below w.heap.size w wr) (fun i _=>16 - (intOf i).toNat)
 case atStart=>exact ⟨0,Nat.zero_le _,rfl,hA,hB,hC,hbW⟩
 case round =>
  clear hA hB hC hbW hz hAr
  obtain ⟨k,hk,rfl,hA,hB,hC,hb⟩:=hrel
  by_cases hlt:k<16
  · have ek:Z k=mx1 (X (k - k%4)) (X (k - k%4+1)) (X (k - k%4+2)) (X (k - k%4+3)) (X k) (X (k - k%4+(k+1)%4)):=by rw [HZ.out];rfl
    obtain ⟨s,hs,hs3,es,n,hn,hn',en⟩:=mx_idx k hlt
    rw [←hs,←hn'] at ek
    have hi:=hix k hlt
    obtain ⟨rk,fk⟩:=hC k hlt
    obtain ⟨r0,-⟩:=hA s (by omega)
    obtain ⟨r1,-⟩:=hA (s+1) (by omega)
    obtain ⟨r2,-⟩:=hA (s+2) (by omega)
    obtain ⟨r3,-⟩:=hA (s+3) (by omega)
    obtain ⟨r4,-⟩:=hA n hn
    rw [Nat.zero_add] at rk fk r0 r1 r2 r3 r4
    have b0:=hX s (by omega)
    have b1:=hX (s+1) (by omega)
    have b2:=hX (s+2) (by omega)
    have b3:=hX (s+3) (by omega)
    have b4:=hX n hn
    have bk:=hX k hlt
    have hst:=hC.drew.next hlt (v:=(Z k:Int)) rfl
    generalize X s=x0 at *
    generalize X (s+1)=x1 at *
    generalize X (s+2)=x2 at *
    generalize X (s+3)=x3 at *
    generalize X n=x4 at *
    generalize X k=x at *
    have q1:=u8_xor_nat x0 x1 b0 b1
    have q2:=u8_xor_nat (x0 ^^^ x1) x2 (xor_byte b0 b1) b2
    have q3:=u8_xor_nat (x0 ^^^ x1 ^^^ x2) x3 (xor_byte (xor_byte b0 b1) b2) b3
    have hsum:=xor_byte (xor_byte (xor_byte b0 b1) b2) b3
    have q4:=u8_xor_nat x (x0 ^^^ x1 ^^^ x2 ^^^ x3) bk hsum
    have q5:=u8_xor_nat x x4 bk b4
    have hxy:=xor_byte bk b4
    have cd:=double_any (x ^^^ x4) hxy
    have q6:=u8_xor_nat (x ^^^ (x0 ^^^ x1 ^^^ x2 ^^^ x3)) (dbN (x ^^^ x4)) (xor_byte bk hsum) (db_all _ hxy).2.2.2.2.1
    rw [show x ^^^ (x0 ^^^ x1 ^^^ x2 ^^^ x3) ^^^ dbN (x ^^^ x4)=Z k from ek.symm] at q6
    generalize dbN (x ^^^ x4)=d at *
    generalize x ^^^ (x0 ^^^ x1 ^^^ x2 ^^^ x3)=y at *
    generalize x0 ^^^ x1 ^^^ x2 ^^^ x3=s3 at *
    generalize x0 ^^^ x1 ^^^ x2=s2 at *
    generalize x0 ^^^ x1=s1 at *
    generalize x ^^^ x4=z at *
    have p1:(((s:Int)+1)).toNat=s+1:=by omega
    have p2:(((s:Int)+2)).toNat=s+2:=by omega
    have p3:(((s:Int)+3)).toNat=s+3:=by omega
    have i1:(0:Int)≤(s:Int)+1∧(s:Int)+1<16:=by omega
    have i2:(0:Int)≤(s:Int)+2∧(s:Int)+2<16:=by omega
    have i3:(0:Int)≤(s:Int)+3∧(s:Int)+3<16:=by omega
    clear hix ek hsum hxy b0 b1 b2 b3 b4 bk hs hn'
    go_wp2_with (rw [hi])
    go_region
    go_wp2_with (go_at_call 63;refine (cd _).mono ?_;clear cd;rintro e w1 ⟨rfl,hw1⟩;subst hw1)
    go_roundw
    case rel=>exact ⟨k+1,by omega,by go_num,hA.drew.far (by show w.heap.size+1+1≠w.heap.size;omega) _,hB.drew.far (by show w.heap.size+1+1≠w.heap.size+1;omega) _,hst,hb.drew.setCell (by show w.heap.size≤w.heap.size+1+1;omega) _⟩
    case measure=>simp [intOf];omega
  · obtain rfl:k=16:=by omega
    have hA':RowAt .u8 wr (w.heap.size+1+1) 0 16 Z:=hC.congr (fun j hj=>pr_full Z _ hj)
    have hi1:=infoS Z
    have hi2:=infoSA Z
    have ho:=oneU 16 Z
    have hth:wr.there (w.heap.size+1) 0 (ints .u8 16 Z).toArray.size:=by rw [ints_size];exact hB.there
    go_wp2_with (first
     | (refine wpList_load_mid rfl 71 _ rfl (w.heap.size+1+1) 0 rfl (ints .u8 16 Z) _ hA'.range Try.underlying71 rfl hi1 ?_)
     | (refine wpList_store_mid rfl 71 _ _ rfl (w.heap.size+1) 0 (ints .u8 16 Z).toArray rfl rfl hth hi2 ho ?_))
    (try simp only [Exit.inBlock,Exit.then])
    refine bodyPost_ret (results_cell_mid Try.results59 _ _ (w.heap.size+1) 0 (ints .u8 16 Z) _ rfl (World.rangeAt_setCells_same _ _ _ _ (by rw [ints_len];exact hB.there)) Try.underlying71 rfl hi1) rfl ⟨rfl,?_⟩
    exact below_setCells (by omega) _ _ _ hb
theorem ints_S {X Y:Nat→Nat} (h:S16 X Y):ints .u8 16 X=ints .u8 16 Y:=ints_congr _ _ _ _ h
theorem sqV_S {X Y:Nat→Nat} (h:S16 X Y):sqV X=sqV Y:=by unfold sqV;rw [ints_S h]
end Go.Proofs.Ytalgabgofpmebaa
namespace Go.Proofs.Ytalgabgofpmebaa
open Go.RowKit
def wdK (X:Nat→Nat) (p k r:Nat):Nat:=if k≤r then wd0 X p r else nxN X p (r+4*((k - 1 - r) / 4))
theorem wdK_at (X:Nat→Nat) (p k:Nat):wdK X p k (k%4) ^^^ X k=nxN X p k:=by
 unfold wdK
 by_cases h:k<4
 · rw [if_pos (by omega),nxN_lo X p k h,show k%4=k by omega]
 · rw [if_neg (by omega),nxN_hi X p k (by omega),show k%4+4*((k - 1 - k%4) / 4)=k - 4 by omega]
theorem wdK_step (X:Nat→Nat) (p k r:Nat) (hr:r<4):upd (wdK X p k) (k%4) (nxN X p k) r=wdK X p (k+1) r:=by
 unfold upd wdK
 by_cases e:r=k%4
 · rw [if_pos e,if_neg (by omega),show r+4*((k+1 - 1 - r) / 4)=k by omega]
 · rw [if_neg e]
   by_cases h:k≤r
   · rw [if_pos h,if_pos (by omega)]
   · rw [if_neg h,if_neg (by omega),show (k+1 - 1 - r) / 4=(k - 1 - r) / 4 by omega]
theorem wd0_lt {X:Nat→Nat} {p:Nat} (hX:B16 X) (hp:p<256) (k:Nat) (hk:k<4):wd0 X p k<256:=by
 unfold wd0
 split
 · exact xor_byte (box_all _ (hX 13 (by decide))).2.2.1 hp
 · split
   · exact (box_all _ (hX 12 (by decide))).2.2.1
   · exact (box_all _ (hX (13+k) (by omega))).2.2.1
theorem nxN_B {X:Nat→Nat} {p:Nat} (hX:B16 X) (hp:p<256):B16 (nxN X p):=by
 intro j
 induction j using Nat.strongRecOn with
 | ind j ih =>
  intro hj
  by_cases h:j<4
  · rw [nxN_lo _ _ _ h];exact xor_byte (wd0_lt hX hp j h) (hX j hj)
  · rw [nxN_hi _ _ _ (by omega)];exact xor_byte (ih (j - 4) (by omega) (by omega)) (hX j hj)
theorem wdK_lt {X:Nat→Nat} {p:Nat} (hX:B16 X) (hp:p<256) (k r:Nat) (hk:k≤16) (hr:r<4):wdK X p k r<256:=by
 unfold wdK
 split
 · exact wd0_lt hX hp r hr
 · exact nxN_B hX hp _ (by omega)
theorem zero4 (w:World):Sem.run Try.prog (zeroValue 85) w = .ok (.agg (zb 4)) w:=by kernel_rfl
theorem four_row {w:World} {g:Nat} {Y:Nat→Nat} (h:RowAt .u8 w g 0 4 Y) (a b c d:Nat):RowAt .u8 (w.setCells g 0 [.int .u8 a,.int .u8 b,.int .u8 c,.int .u8 d]) g 0 4 (fun r=>[a,b,c,d].getD r 0) :=
 h.stored (L:=fun r=>[a,b,c,d].getD r 0)
set_option maxRecDepth 20000 in
set_option maxHeartbeats 4000000 in
theorem next_any (X:Nat→Nat) (p:Nat) (hX:B16 X) (hp:p<256) (w:World) :
 Calls Try.prog 62 #[sqV X,.int .u8 p] w fun e w'=>e = .returned (sqV (nxN X p))∧Below w.heap.size w w':=by
 have hz:=zeroS
 have hz4:=zero4
 have hi3:=infoS X
 obtain ⟨W,hW,hWs,hbW,hA,hC⟩:=two_new X (fun _=>0) w (zb 16) zb16 71 71
 have HW:=Hid.mk' hW.symm
 have hAr:=hA.range
 have cb:=boxed_any X hX W
 obtain ⟨F,hF⟩:∃ F,F=thrN boxN X:=⟨_,rfl⟩
 rw [←hF] at cb
 have HF:∀ j,boxN (X j)=F j:=fun j=>by rw [hF];rfl
 have hFB:B16 F:=by rw [hF];exact box_B hX
 obtain ⟨Z,hZ⟩:∃ Z:Nat→Nat,Z=nxN X p:=⟨_,rfl⟩
 obtain ⟨D,hD⟩:∃ D:Nat→Nat→Nat,D=wdK X p:=⟨_,rfl⟩
 have hDa:∀ k,D k (k%4) ^^^ X k=Z k:=fun k=>by rw [hD,hZ];exact wdK_at X p k
 have hDs:∀ k r,r<4→upd (D k) (k%4) (Z k) r=D (k+1) r:=fun k r hr=>by rw [hD,hZ];exact wdK_step X p k r hr
 have hDl:∀ k r,k≤16→r<4→D k r<256:=fun k r hk hr=>by rw [hD];exact wdK_lt hX hp k r hk hr
 have hD0:∀ r,r<4→[F 13 ^^^ p,F 14,F 15,F 12].getD r 0=D 0 r:=fun r hr=>by
  rw [hD,←HF,←HF,←HF,←HF]
  rcases (show r=0∨r=1∨r=2∨r=3 by omega) with rfl | rfl | rfl | rfl <;> rfl
 rw [←hZ]
 have hq:=u8_xor_nat (F 13) p (hFB 13 (by decide)) hp
 have hj2:=infoSA F
 have hjo:=oneU 16 F
 have HD0:=Hid.mk' hD0
 have HDs:=Hid.mk' hDs
 unfold sqV at *
 clear hW hF hZ hD HF hD0 hDs
 generalize F 13 ^^^ p=f0 at *
 go_enter Try.func62,Try.ntmps62
 go_upto_region 2 with (first
  | (rw [←HW.out];refine wpList_load_mid rfl 71 _ rfl w.heap.size 0 rfl (ints .u8 16 X) _ hAr Try.underlying71 rfl hi3 ?_)
  | (go_at_call 57;refine cb.mono ?_;clear cb;rintro e w1 ⟨rfl,hb1⟩;(have hT1:=RowAt.zero w1 16 71);(have hth:(w1.alloc (.cells (zb 16) 71)).there w1.heap.size 0 (ints .u8 16 F).toArray.size:=by rw [ints_size];exact hT1.there))
  | (refine wpList_store_mid rfl 71 _ _ rfl w1.heap.size 0 (ints .u8 16 F).toArray rfl rfl hth hj2 hjo ?_))
 dsimp only [Act.put]
 have hs1:=hb1.size
 have ba:Below w1.heap.size w1 (w1.alloc (.cells (zb 16) 71)):=(Below.refl _ _).alloc (Nat.le_refl _) _
 have hT2:=hT1.stored (L:=F)
 have hA2:=((hA.below hb1 (by omega)).below ba (by omega)).farCells (show w.heap.size≠w1.heap.size by omega) 0 (ints .u8 16 F)
 have hC2:=((hC.below hb1 (by omega)).below ba (by omega)).farCells (show w.heap.size+1≠w1.heap.size by omega) 0 (ints .u8 16 F)
 have b2:=below_setCells (show w.heap.size≤w1.heap.size by omega) (ints .u8 16 F) 0 _ ((hbW.trans (hb1.mono hbW.size)).trans (ba.mono (by omega)))
 have hV1:((w1.alloc (.cells (zb 16) 71)).setCells w1.heap.size 0 (ints .u8 16 F)).heap.size=w1.heap.size+1:=by rw [(setCells_same _ _ _ _).2.2.2];simp
 have hg:w.heap.size+1<w1.heap.size:=by omega
 generalize (w1.alloc (.cells (zb 16) 71)).setCells w1.heap.size 0 (ints .u8 16 F)=V at *
 generalize w1.heap.size=g at *
 obtain ⟨r13,-⟩:=hT2 13 (by decide)
 obtain ⟨r14,-⟩:=hT2 14 (by decide)
 obtain ⟨r15,-⟩:=hT2 15 (by decide)
 obtain ⟨r12,-⟩:=hT2 12 (by decide)
 rw [Nat.zero_add] at r13 r14 r15 r12
 have hU:=RowAt.zero V 4 85
 have bv:Below V.heap.size V (V.alloc (.cells (zb 4) 85)):=(Below.refl _ _).alloc (Nat.le_refl _) _
 have hA3:=hA2.below bv (by omega)
 have hC3:=hC2.below bv (by omega)
 have b3:=b2.trans (bv.mono b2.size)
 rw [hV1] at hU
 have hth4:(V.alloc (.cells (zb 4) 85)).there (g+1) 0 (#[.int .u8 f0,.int .u8 (F 14),.int .u8 (F 15),.int .u8 (F 12)]:Array Value).size:=hU.there
 have hi4:(Try.prog.info? 85).map (·.size)=some (#[.int .u8 f0,.int .u8 (F 14),.int .u8 (F 15),.int .u8 (F 12)]:Array Value).size:=by kernel_rfl
 have ho4:(#[.int .u8 f0,.int .u8 (F 14),.int .u8 (F 15),.int .u8 (F 12)]:Array Value).all (·.oneCell')=true:=by simp [Value.oneCell']
 clear hT1 hth hA hC hbW hb1 hs1 ba hT2 hA2 hC2 b2 bv hWs hAr hj2 hjo hz
 go_upto_region 3 with (refine wpList_store_mid rfl 85 _ _ rfl (g+1) 0 #[.int .u8 f0,.int .u8 (F 14),.int .u8 (F 15),.int .u8 (F 12)] rfl rfl hth4 hi4 ho4 ?_)
 dsimp only [Act.put]
 have hU4:=(four_row hU f0 (F 14) (F 15) (F 12)).congr HD0.out
 have hA4:=hA3.farCells (show w.heap.size≠g+1 by omega) 0 [.int .u8 f0,.int .u8 (F 14),.int .u8 (F 15),.int .u8 (F 12)]
 have hC4:=hC3.farCells (show w.heap.size+1≠g+1 by omega) 0 [.int .u8 f0,.int .u8 (F 14),.int .u8 (F 15),.int .u8 (F 12)]
 have b4:=below_setCells (show w.heap.size≤g+1 by omega) [.int .u8 f0,.int .u8 (F 14),.int .u8 (F 15),.int .u8 (F 12)] 0 _ b3
 generalize (V.alloc (.cells (zb 4) 85)).setCells (g+1) 0 [.int .u8 f0,.int .u8 (F 14),.int .u8 (F 15),.int .u8 (F 12)]=U at *
 clear hth4 hi4 ho4 hU hA3 hC3 b3 r12 r13 r14 r15 hz4 HD0
 go_wp2
 go_loopw [21] (fun i wr=>∃ k:Nat,k≤16∧i = .int .i64 k∧RowAt .u8 wr w.heap.size 0 16 (pr Z X k)∧RowAt .u8 wr (g+1) 0 4 (D k)∧RowAt .u8 wr (w.heap.size+1) 0 16 (fun _=>0)∧Below w.heap.size w wr) (fun i _=>16 - (intOf i).toNat)
 case atStart=>exact ⟨0,Nat.zero_le _,rfl,hA4,hU4,hC4,b4⟩
 case round =>
  clear hA4 hU4 hC4 b4
  obtain ⟨k,hk,rfl,hA,hU,hC,hb⟩:=hrel
  by_cases hlt:k<16
  · obtain ⟨rk,fk⟩:=hA k hlt
    rw [Nat.zero_add] at rk fk
    rw [pr_at] at rk
    obtain ⟨rd,fd⟩:=hU (k%4) (by omega)
    rw [Nat.zero_add] at rd fd
    have q:=u8_xor_nat (D k (k%4)) (X k) (hDl k _ hk (by omega)) (hX k hlt)
    rw [hDa k] at q
    have q1:((k:Int)%4).toNat=k%4:=by omega
    have q2:(0:Int)≤(k:Int)%4∧(k:Int)%4<4:=by omega
    have hU5:=hU.set (i:=k%4) (by omega) (v:=(Z k:Int)) (u:=Z k) rfl
    rw [Nat.zero_add] at hU5
    replace hU5:=(hU5.congr (HDs.out k)).drew
    have hA5:=(hA.far (a:=⟨g+1,k%4,none⟩) (by show g+1≠w.heap.size;omega) (.int .u8 (Z k:Int))).drew.next hlt (v:=(Z k:Int)) rfl
    have hC5:=(hC.far (a:=⟨g+1,k%4,none⟩) (by show g+1≠w.heap.size+1;omega) (.int .u8 (Z k:Int))).drew
    have b5:=(hb.setCell (p:=⟨g+1,k%4,none⟩) (by show w.heap.size≤g+1;omega) (.int .u8 (Z k:Int))).drew
    have n1:¬w.heap.size=g+1:=by omega
    have n2:¬g+1=w.heap.size:=by omega
    clear hDa HDs hDl hX hFB hU hA hC hb hq
    go_wp2
    go_region
    go_wp2
    go_roundw
    case rel=>exact ⟨k+1,by omega,by go_num,hA5,hU5.far (by show w.heap.size≠g+1;omega) _,hC5.far (by show w.heap.size≠w.heap.size+1;omega) _,b5.setCell (Nat.le_refl _) _⟩
    case measure=>simp [intOf];omega
  · obtain rfl:k=16:=by omega
    have hA':RowAt .u8 wr w.heap.size 0 16 Z:=hA.congr (fun j hj=>pr_full Z X hj)
    have hi1:=infoS Z
    have hi2:=infoSA Z
    have ho:=oneU 16 Z
    have hth:wr.there (w.heap.size+1) 0 (ints .u8 16 Z).toArray.size:=by rw [ints_size];exact hC.there
    clear hDa HDs hDl hX hFB hq
    go_wp2_with (first
     | (refine wpList_load_mid rfl 71 _ rfl w.heap.size 0 rfl (ints .u8 16 Z) _ hA'.range Try.underlying71 rfl hi1 ?_)
     | (refine wpList_store_mid rfl 71 _ _ rfl (w.heap.size+1) 0 (ints .u8 16 Z).toArray rfl rfl hth hi2 ho ?_))
    (try simp only [Exit.inBlock,Exit.then])
    refine bodyPost_ret (results_cell_mid Try.results62 _ _ (w.heap.size+1) 0 (ints .u8 16 Z) _ rfl (World.rangeAt_setCells_same _ _ _ _ (by rw [ints_len];exact hC.there)) Try.underlying71 rfl hi1) rfl ⟨rfl,?_⟩
    exact below_setCells (by omega) _ _ _ hb
end Go.Proofs.Ytalgabgofpmebaa
