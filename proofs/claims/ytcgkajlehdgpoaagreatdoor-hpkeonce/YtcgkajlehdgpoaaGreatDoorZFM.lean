/- What the proof stands on: ZF, ZG, G9RO, QRT, EqN, QCT. -/
import Derived.Test.YtcgkajlehdgpoaaGreatDoorBase
import Derived.Test.YtcgkajlehdgpoaaGreatDoorG9RHM
import Derived.Test.YtcgkajlehdgpoaaGreatDoorQCNM
import Derived.Test.YtcgkajlehdgpoaaGreatDoorQRNM
import Derived.Laws.Cover3
namespace Go.Proofs.YtcgkajlehdgpoaaGreatDoor
open Go.RowKit Go.Shelf
section
variable {P:Program} {md:Region.Mode} {ops:Array Oper} {Q:Exit→Act→World→Prop} {S:World→Prop} {fuel:Nat} {listed:Array Bool} {a:Act} {w:World}
def LastQ (P:Program) (ops:Array Oper) (Q:Exit→Act→World→Prop) (t:Nat):Exit→Act→World→Prop
 | .normal,a,w=>wpOp P ops Q t (Q .normal) a w
 | e,a,w=>Q e a w
def backward (md:Region.Mode) (ops:Array Oper):Bool:=(List.range ops.size).all fun i=>match ops[i]? with
 | none=>true
 | some o=>o.after.toList.all fun e=>!Region.binds md e || decide (e.on<i)
def waitsAll (md:Region.Mode) (ops:Array Oper) (t:Nat):Bool:=match ops[t]? with
 | none=>false
 | some o=>(List.range ops.size).all fun i=>decide (i=t) || o.after.toList.any fun e=>Region.binds md e && decide (e.on=i)
theorem backward_at (h:backward md ops=true) {i:Nat} {o:Oper} (ho:ops[i]? = some o) {e:Edge} (he:e∈o.after) (hb:Region.binds md e=true):e.on<i:=by
 have h1:=List.all_eq_true.1 h i (List.mem_range.2 (Array.getElem?_eq_some_iff.1 ho).1)
 rw [ho] at h1
 have h2:=List.all_eq_true.1 h1 e (Array.mem_toList_iff.2 he)
 rw [hb] at h2
 simpa using h2
theorem waitsAll_at {t:Nat} (h:waitsAll md ops t=true):∃ o,ops[t]? = some o∧∀ i,i<ops.size→i≠t→∃ e∈o.after,Region.binds md e=true∧e.on=i:=by
 unfold waitsAll at h
 split at h
 · cases h
 · rename_i o ho
   refine ⟨o,ho,fun i hi hne => ?_⟩
   have h1:=List.all_eq_true.1 h i (List.mem_range.2 hi)
   rw [decide_eq_false hne,Bool.false_or] at h1
   obtain ⟨e,he,h2⟩:=List.any_eq_true.1 h1
   rw [Bool.and_eq_true,decide_eq_true_eq] at h2
   exact ⟨e,Array.mem_toList_iff.1 he,h2.1,h2.2⟩
theorem wpOp_swap {Q':Exit→Act→World→Prop} (hp:∀ c a w,Q' (.panic c) a w→Q (.panic c) a w) (hl:LetsOut Q'→LetsOut Q) {i:Nat} {K:Act→World→Prop} (hh:wpOp P ops Q' i K a w):wpOp P ops Q i K a w:=by
 unfold wpOp at *
 split
 · simpa [*] using hh
 · rename_i o ho
   simp only [ho] at hh
   split
   · rename_i hw
     simp only [hw,if_true] at hh
     refine hh.imp (fun hh => ?_) (fun h=>⟨h.1,hl h.2⟩)
     unfold Oper.wp at *
     generalize (execOp a.eval o).run P w=r at *
     cases r with
     | ok n w' =>
      cases n <;> simp only [Oper.upon] at hh ⊢ <;>
       first
        | exact hh
        | exact Calls.mono hh (fun e w'' he=>by cases e <;> first | exact he | exact hp _ _ _ he | exact hl he)
     | halt x w'=>cases x <;> simp only [Oper.upon] at hh ⊢ <;> first | exact hh | exact hp _ _ _ hh
   · rename_i hw;simp only [hw] at hh;exact hh
theorem wpAny_end (hr:Region.ready md ops listed=[]) (h:Q .normal a w):∀ fuel,wpAny P md ops Q fuel listed a w
 | 0=>⟨hr,h⟩
 | _+1=>⟨fun _=>h,by rw [hr];simp⟩
theorem all_listed {t:Nat} (hb:backward md ops=true) (hz:listed.size=ops.size) (hr:Region.ready md ops (listed.setIfInBounds t true)=[]):∀ i,i<ops.size→i≠t→listed.getD i true=true:=by
 intro i
 induction i using Nat.strongRecOn with
 | ind i ih =>
  intro hi hne
  cases hc:listed.getD i true with
  | true=>rfl
  | false =>
   have hmem:i∈Region.ready md ops (listed.setIfInBounds t true):=by
    rw [mem_ready]
    refine ⟨by rw [getD_set_ne true (Ne.symm hne)];exact hc,ops[i],Array.getElem?_eq_getElem hi,fun e he hbe => ?_⟩
    have hlt:=backward_at hb (Array.getElem?_eq_getElem hi) he hbe
    by_cases het:e.on=t
    · rw [het]
      have:t<listed.size:=by omega
      simp [this]
    · have h1:=ih e.on hlt (by omega) het
      have hs:e.on<listed.size:=by omega
      rw [getD_set_ne false (Ne.symm het)]
      simp [hs] at h1 ⊢
      exact h1
   rw [hr] at hmem
   cases hmem
theorem wpAny_last {t:Nat} (ht:t<ops.size) (hb:backward md ops=true) (hw:waitsAll md ops t=true):∀ (fuel:Nat) (listed:Array Bool) (a:Act) (w:World),listed.size=ops.size→listed.getD t true=false →
 wpAny P md ops (LastQ P ops Q t) fuel (listed.setIfInBounds t true) a w→wpAny P md ops Q (fuel+1) listed a w:=by
 intro fuel
 induction fuel with
 | zero =>
  intro listed a w hz hlt h
  have hall:=all_listed hb hz h.1
  have hq:wpOp P ops Q t (Q .normal) a w:=h.2
  obtain ⟨o,ho,-⟩:=waitsAll_at hw
  have hmt:t∈Region.ready md ops listed:=mem_ready.2 ⟨hlt,o,ho,fun e he hbe=>by
   have h1:=backward_at hb ho he hbe
   have h2:=hall e.on (by omega) (by omega)
   have hs:e.on<listed.size:=by omega
   simp [hs] at h2 ⊢
   exact h2⟩
  refine ⟨fun h0=>(by rw [h0] at hmt;cases hmt),fun i hi => ?_⟩
  by_cases hit:i=t
  · subst hit
    exact wpOp_mono (fun a' w' h'=>wpAny_end h.1 h' _) hq
  · have:=ready_mono hi hit
    rw [h.1] at this
    cases this
 | succ fuel ih =>
  intro listed a w hz hlt h
  by_cases hr:Region.ready md ops (listed.setIfInBounds t true)=[]
  · have hall:=all_listed hb hz hr
    have hq:wpOp P ops Q t (Q .normal) a w:=h.1 hr
    obtain ⟨o,ho,-⟩:=waitsAll_at hw
    have hmt:t∈Region.ready md ops listed:=mem_ready.2 ⟨hlt,o,ho,fun e he hbe=>by
     have h1:=backward_at hb ho he hbe
     have h2:=hall e.on (by omega) (by omega)
     have hs:e.on<listed.size:=by omega
     simp [hs] at h2 ⊢
     exact h2⟩
    refine ⟨fun h0=>(by rw [h0] at hmt;cases hmt),fun i hi => ?_⟩
    by_cases hit:i=t
    · subst hit
      exact wpOp_mono (fun a' w' h'=>wpAny_end hr h' _) hq
    · have:=ready_mono hi hit
      rw [hr] at this
      cases this
  · obtain ⟨o,ho,hwt⟩:=waitsAll_at hw
    obtain ⟨j,hj⟩:=List.exists_mem_of_ne_nil _ hr
    obtain ⟨hju,oj,hoj,hjall⟩:=mem_ready.1 hj
    have hjs:j<ops.size:=(Array.getElem?_eq_some_iff.1 hoj).1
    have hjt:j≠t:=fun e=>by
     subst e
     have:j<listed.size:=by omega
     simp [this] at hju
    have hnt:t ∉ Region.ready md ops listed:=fun hm=>by
     obtain ⟨-,o',ho',hall⟩:=mem_ready.1 hm
     rw [ho] at ho'
     cases ho'
     obtain ⟨e,he,hbe,hej⟩:=hwt j hjs hjt
     have h1:=hall e he hbe
     rw [hej] at h1
     rw [getD_set_ne true (Ne.symm hjt)] at hju
     have hs:j<listed.size:=by omega
     simp [hs] at h1 hju
     rw [h1] at hju
     cases hju
    have hsome:∃ i,i∈Region.ready md ops listed:=by
     have hex:∃ i,i<ops.size∧i≠t∧listed.getD i true=false:=⟨j,hjs,hjt,by rwa [getD_set_ne true (Ne.symm hjt)] at hju⟩
     refine Classical.byContradiction fun hno => ?_
     obtain ⟨i,hi,hit,hiu⟩:=hex
     have hall:∀ i,i<ops.size→i≠t→listed.getD i true=true:=by
      intro i
      induction i using Nat.strongRecOn with
      | ind i ihh =>
       intro hi hne
       cases hc:listed.getD i true with
       | true=>rfl
       | false =>
        exfalso
        by_cases hti:∃ e∈ops[i].after,Region.binds md e=true∧e.on=t
        · obtain ⟨e1,he1,hb1,h1t⟩:=hti
          obtain ⟨e2,he2,hb2,h2i⟩:=hwt i hi hne
          have g1:=backward_at hb (Array.getElem?_eq_getElem hi) he1 hb1
          have g2:=backward_at hb ho he2 hb2
          omega
        · refine hno ⟨i,mem_ready.2 ⟨hc,ops[i],Array.getElem?_eq_getElem hi,fun e he hbe => ?_⟩⟩
          have hlt':=backward_at hb (Array.getElem?_eq_getElem hi) he hbe
          have h1:=ihh e.on hlt' (by omega) (fun het=>hti ⟨e,he,hbe,het⟩)
          have hs:e.on<listed.size:=by omega
          simp [hs] at h1 ⊢
          exact h1
     rw [hall i hi hit] at hiu
     cases hiu
    refine ⟨fun h0=>(by obtain ⟨i,hi⟩:=hsome;rw [h0] at hi;cases hi),fun i hi => ?_⟩
    have hit:i≠t:=fun e=>hnt (e ▸ hi)
    have h1:=h.2 i (ready_mono hi hit)
    refine wpOp_swap (Q':=LastQ P ops Q t) (fun _ _ _ h=>h) (fun h=>h) (wpOp_mono (fun a' w' h' => ?_) h1)
    refine ih (listed.setIfInBounds i true) a' w' (by simpa using hz) (by rw [getD_set_ne true hit];exact hlt) ?_
    rw [Array.setIfInBounds_comm _ _ hit]
    exact h'
theorem wpIn_last {l n id:Nat} (t:Nat) (hm:P.follows .mixedOrders=true) (hd:noDefer ops=true) (ht:t+1=ops.size) (hb:backward .any ops=true) (hw:waitsAll .any ops t=true) (hS:S w.drew)
 (h:S w.drew→wpAnyH P .any ops (LastQ P ops (OnlyN Q) t) S t ((Array.replicate (t+1) false).setIfInBounds t true) a w.drew):(Code.region id ops true).wpIn (Fence.wide.inRound l) n P Q a w:=by
 refine wpIn_mono (wpIn_region_any hm (any_in hd OnlyN.stays _ _ _ _ ?_)) OnlyN.imp
 rw [←ht]
 refine wpAny_last (by omega) hb hw t _ a _ (by simp [ht]) (by simp) ?_
 exact wpAny_of_held _ _ _ _ (h hS)
theorem wp_last {id:Nat} (t:Nat) (hm:P.follows .mixedOrders=true) (ht:t+1=ops.size) (hb:backward .any ops=true) (hw:waitsAll .any ops t=true) (hS:S w.drew)
 (h:S w.drew→wpAnyH P .any ops (LastQ P ops (NoPanic Q) t) S t ((Array.replicate (t+1) false).setIfInBounds t true) a w.drew):(Code.region id ops true).wp P Q a w:=by
 refine wp_region_noPanic (wp_region_any hm ?_)
 rw [←ht]
 refine wpAny_last (by omega) hb hw t _ a _ (by simp [ht]) (by simp) ?_
 exact wpAny_of_held _ _ _ _ (h hS)
theorem lastRow (t:Nat) {ot:Oper} (ty x y:Nat) {g off:Nat} {cs:List Value} (ds:List Value) (r:RW w g off cs) (hl:ds.length=cs.length) (hin:(P.info? ty).map (·.size)=some ds.toArray.size) (h1:ds.toArray.all (·.oneCell')=true) (h:RW (w.setCells g off ds) g off ds→Q .normal (a.put ot.dst undef) (w.setCells g off ds))
 (hi:ops.toList[t]? = some ot:=by rfl) (ho:ot.op = .store ty (.tmp x) (.tmp y):=by rfl) (hx:a.eval (.tmp x) = .pointer (some ⟨g,off,none⟩):=by rfl) (hy:a.eval (.tmp y) = .agg ds.toArray:=by rfl) (hw:Region.wanted ot (yielded ops a.tmps)=true:=by rfl):LastQ P ops Q t .normal a w:=by
 show wpOp P ops Q t (Q .normal) a w
 unfold wpOp
 rw [at_list hi]
 dsimp only
 rw [if_pos hw]
 exact .inl (wp_store_mid ty _ _ ho g off ds.toArray hx hy (by rw [List.size_toArray,hl];exact r.there) hin h1 (h (r.stored ds hl)))
theorem lastRun (t:Nat) {ot:Oper} {w':World} (h:Q .normal (a.put ot.dst undef) w') (hi:ops.toList[t]? = some ot:=by rfl) (hw:Region.wanted ot (yielded ops a.tmps)=true:=by rfl)
 (hrun:(execOp a.eval ot).run P w = .ok .skip w':=by go_simp;try with_reducible rfl):LastQ P ops Q t .normal a w:=by
 show wpOp P ops Q t (Q .normal) a w
 unfold wpOp
 rw [at_list hi]
 dsimp only
 rw [if_pos hw]
 refine .inl ?_
 unfold Oper.wp
 rw [hrun]
 exact h
end
end Go.Proofs.YtcgkajlehdgpoaaGreatDoor
namespace Go.Proofs.YtcgkajlehdgpoaaGreatDoor
open Go.RowKit Go.Shelf
section
variable {P:Program} {md:Region.Mode} {ops:Array Oper} {Q:Exit→Act→World→Prop} {S:World→Prop} {fuel:Nat} {listed:Array Bool} {a:Act} {w:World}
theorem tlS (i:Nat) {oi:Oper} {g off k:Nat} {cs:List Value} (r:∀ u,S u→RW u g off cs) (hS:S w) (ty:Nat) {d:TypeDesc} (hu:P.underlying ty=some d) (hin:(P.info? ty).map (·.size)=some cs.length)
 (h:wpAnyH P md ops Q S fuel (listed.setIfInBounds i true) (a.put oi.dst (.agg cs.toArray)) w) (hi:ops.toList[i]? = some oi:=by rfl) (ho:oi.op = .load ty (.tmp k):=by rfl)
 (hd:d.isRow=true:=by rfl) (hw:Region.wanted oi (yielded ops a.tmps)=true:=by rfl) (hx:a.eval (.tmp k) = .pointer (some ⟨g,off,none⟩):=by rfl)
 (hQ:∀ c b w,Q (.panic c) (b.put oi.dst (.agg cs.toArray)) w→Q (.panic c) b w:=by exact fun _ _ _ h=>h) (hs:Region.noSelect ops=true:=by kernel_rfl) (hf:Region.free md ops listed i=true:=by kernel_rfl) (hr:(Region.ready md ops listed).contains i=true:=by kernel_rfl):wpAnyH P md ops Q S (fuel+1) listed a w :=
 tkH i oi _ hS (yieldsIf_load_mid hw ty _ ho g off hx cs d (fun u hu=>(r u hu).range) hu hd hin) h hQ (at_list hi) hs hf hr
theorem wo (i:Nat) {oi:Oper} {v:Value} {w':World} (hrun:(execOp a.eval oi).run P w = .ok (.value v) w') (hk:S w') (h:wpAnyH P md ops Q S fuel (listed.setIfInBounds i true) (a.put oi.dst v) w')
 (hi:ops.toList[i]? = some oi:=by rfl) (hr:Region.ready md ops listed=[i]:=by kernel_rfl) (hw:Region.wanted oi (yielded ops a.tmps)=true:=by rfl):wpAnyH P md ops Q S (fuel+1) listed a w:=by
 refine wpAnyH_ready hr (by simp) (AllReadyH.cons (at_list hi) (fun K hK => ?_) AllReadyH.nil)
 rw [if_pos hw]
 unfold Oper.wp
 rw [hrun,Oper.upon_value]
 exact hK.out _ _ hk (fun _=>h)
theorem cR {i:Nat} {rs:List Nat} {oi:Oper} {f:FuncId} {args:Array Value} {R:Ending→World→Prop} (c:Calls P f args w R) (h:∀ e w',R e w'→∃ r,e = .returned r∧S w'∧wpAnyH P md ops Q S fuel (listed.setIfInBounds i true) (a.put oi.dst r) w') (hs:AllReadyH P md ops Q S fuel listed a w rs)
 (hi:ops.toList[i]? = some oi:=by rfl) (hw:Region.wanted oi (yielded ops a.tmps)=true:=by rfl) (hrun:(execOp a.eval oi).run P w = .ok (.enter f args) w:=by kernel_rfl):AllReadyH P md ops Q S fuel listed a w (i :: rs):=arC oi c h hs (at_list hi) hw hrun
theorem gR {i:Nat} {rs:List Nat} {oi:Oper} (v:Nat→Value) (cs:List Value) (t:TypeId) (hk:∀ u,Below w.heap.size w u→S u) (h:∀ w1 g,w.heap.size≤g→Below w.heap.size w w1→RW w1 g 0 cs→wpAnyH P md ops Q S fuel (listed.setIfInBounds i true) (a.put oi.dst (v g)) w1) (hs:AllReadyH P md ops Q S fuel listed a w rs)
 (hi:ops.toList[i]? = some oi:=by rfl) (hrun:(execOp a.eval oi).run P w = .ok (.value (v w.heap.size)) (w.alloc (.cells cs.toArray t)):=by kernel_rfl) (hw:Region.wanted oi (yielded ops a.tmps)=true:=by rfl):AllReadyH P md ops Q S fuel listed a w (i :: rs):=aG oi v cs t hk h hs hrun (at_list hi) hw
end
section
variable {md:Region.Mode} {ops:Array Oper} {Q:Exit→Act→World→Prop} {S:World→Prop} {fuel:Nat} {listed:Array Bool} {a:Act} {w:World}
theorem ao (i:Nat) {oi:Oper} (s x:Nat) (base g k cap:Nat) (X:Nat→Nat) (hown:Own base w (.slice (some ⟨g,0,none⟩) k cap) k X) (b m c:Nat) (B:Nat→Nat) (hsrc:∀ j,j<m→w.cell? ⟨b,j,none⟩=some (.int .u8 (B j))) (hfit:k+m≤cap)
 (h:∀ w',Own base w' (.slice (some ⟨g,0,none⟩) (k+m) cap) (k+m) (cat k X B)→But (fun q=>q=g) w w'→S w'∧wpAnyH Tryz.prog md ops Q S fuel (listed.setIfInBounds i true) (a.put oi.dst (.slice (some ⟨g,0,none⟩) (k+m) cap)) w')
 (hi:ops.toList[i]? = some oi:=by rfl) (hr:Region.ready md ops listed=[i]:=by kernel_rfl) (ho:oi.op = .call { callee := .builtin .append,args:=#[.tmp s,.tmp x],argTypes:=#[22,22] }:=by rfl)
 (hs:a.eval (.tmp s) = .slice (some ⟨g,0,none⟩) k cap:=by rfl) (hx:a.eval (.tmp x) = .slice (some ⟨b,0,none⟩) m c:=by rfl) (hw:Region.wanted oi (yielded ops a.tmps)=true:=by rfl):wpAnyH Tryz.prog md ops Q S (fuel+1) listed a w:=by
 obtain ⟨i0,hi0,hz0,hz1,hz2⟩:=info_parts Tryz.info5
 obtain ⟨w',hrun,h1,h2⟩:=run_append_fits (P:=Tryz.prog) w base 22 oi.type 5 i0 1 Tryz.underlying22 hi0 hz1 g k cap _ hown ⟨b,0,none⟩ m c (ints .u8 m B) (by rw [ints_len,Nat.mul_one]) (fun j u hu=>by
  have hj:j<m:=by have:=(List.getElem?_eq_some_iff.1 hu).1;rwa [ints_len] at this
  rw [ints_at _ _ _ j hj] at hu
  cases hu
  rw [Addr.add_mid,Nat.zero_add]
  exact hsrc j hj) (ints_one _ _ _) hfit
 rw [ints_add] at h1
 obtain ⟨hk,hh⟩:=h w' h1 ⟨h2.os,h2.tape,h2.output,h2.size,fun q hq hne=>h2.block q hq (fun e=>hne (by cases e;rfl))⟩
 refine wo i ?_ hk hh hi hr hw
 simp [execOp,ho,resolve,invoke,builtin,hs,hx,hrun,Result.andThen]
end
end Go.Proofs.YtcgkajlehdgpoaaGreatDoor
namespace Go.Proofs.YtcgkajlehdgpoaaGreatDoor
open Go.RowKit
set_option maxHeartbeats 2000000 in
theorem rSeal_bad (v u m t:Value) (a b ml n:Nat) (ks nn M X:Nat→Nat) (w:World) (hv:BytesIn w v a ks) (hu:BytesIn w u b nn) (hm:BytesIn w m ml M) (ht:BytesIn w t n X) (h:¬(a=16∧b=12)) :
 Calls Tryz.prog 62 #[v,u,m,t] w fun e w'=>e = .returned (.tuple #[.slice none 0 0,.int .i64 1])∧w'=w:=by
 obtain ⟨xv,cv,rfl,-,-,-⟩:=hv.src
 obtain ⟨xu,cu,rfl,-,-,-⟩:=hu.src
 obtain ⟨xm,cm,rfl,-,-,-⟩:=hm.src
 obtain ⟨xt,ct,rfl,-,-,-⟩:=ht.src
 clear hv hu hm ht
 by_cases ha:a=16
 · subst ha
   have hb':¬(b:Int)=12:=by omega
   clear h
   go_enter Tryz.func62,Tryz.ntmps62
   go_wp2
   go_ret2
   exact ⟨rfl,rfl⟩
 · have ha':¬(a:Int)=16:=by omega
   clear h ha
   go_enter Tryz.func62,Tryz.ntmps62
   go_wp2
   go_ret2
   exact ⟨rfl,rfl⟩
set_option maxHeartbeats 2000000 in
theorem rSeal_size (v u m t:Value) (ml n:Nat) (ks nn M X:Nat→Nat) (w:World) (hv:BytesIn w v 16 ks) (hu:BytesIn w u 12 nn) (hm:BytesIn w m ml M) (ht:BytesIn w t n X) (h:¬(ml≤65536∧n≤65536)) :
 Calls Tryz.prog 62 #[v,u,m,t] w fun e w'=>e = .returned (.tuple #[.slice none 0 0,.int .i64 6])∧w'=w:=by
 obtain ⟨xv,cv,rfl,-,-,-⟩:=hv.src
 obtain ⟨xu,cu,rfl,-,-,-⟩:=hu.src
 obtain ⟨xm,cm,rfl,-,-,-⟩:=hm.src
 obtain ⟨xt,ct,rfl,-,-,-⟩:=ht.src
 clear hv hu hm ht
 by_cases ha:ml≤65536
 · have ha':¬(65536:Int)<(ml:Int):=by omega
   have hb':(65536:Int)<(n:Int):=by omega
   clear h ha
   go_enter Tryz.func62,Tryz.ntmps62
   go_wp2
   go_ret2
   exact ⟨rfl,rfl⟩
 · have ha':(65536:Int)<(ml:Int):=by omega
   clear h ha
   go_enter Tryz.func62,Tryz.ntmps62
   go_wp2
   go_ret2
   exact ⟨rfl,rfl⟩
set_option maxHeartbeats 2000000 in
theorem rOpen_bad (v u m t:Value) (a b ml n:Nat) (ks nn M X:Nat→Nat) (w:World) (hv:BytesIn w v a ks) (hu:BytesIn w u b nn) (hm:BytesIn w m ml M) (ht:BytesIn w t n X) (h:¬(a=16∧b=12)) :
 Calls Tryz.prog 64 #[v,u,m,t] w fun e w'=>e = .returned (.tuple #[.slice none 0 0,.int .i64 1])∧w'=w:=by
 obtain ⟨xv,cv,rfl,-,-,-⟩:=hv.src
 obtain ⟨xu,cu,rfl,-,-,-⟩:=hu.src
 obtain ⟨xm,cm,rfl,-,-,-⟩:=hm.src
 obtain ⟨xt,ct,rfl,-,-,-⟩:=ht.src
 clear hv hu hm ht
 by_cases ha:a=16
 · subst ha
   have hb':¬(b:Int)=12:=by omega
   clear h
   go_enter Tryz.func64,Tryz.ntmps64
   go_wp2
   go_ret2
   exact ⟨rfl,rfl⟩
 · have ha':¬(a:Int)=16:=by omega
   clear h ha
   go_enter Tryz.func64,Tryz.ntmps64
   go_wp2
   go_ret2
   exact ⟨rfl,rfl⟩
set_option maxHeartbeats 2000000 in
theorem rOpen_size (v u m t:Value) (ml n:Nat) (ks nn M X:Nat→Nat) (w:World) (hv:BytesIn w v 16 ks) (hu:BytesIn w u 12 nn) (hm:BytesIn w m ml M) (ht:BytesIn w t n X) (h:¬(ml≤65536∧n≤65552)) :
 Calls Tryz.prog 64 #[v,u,m,t] w fun e w'=>e = .returned (.tuple #[.slice none 0 0,.int .i64 6])∧w'=w:=by
 obtain ⟨xv,cv,rfl,-,-,-⟩:=hv.src
 obtain ⟨xu,cu,rfl,-,-,-⟩:=hu.src
 obtain ⟨xm,cm,rfl,-,-,-⟩:=hm.src
 obtain ⟨xt,ct,rfl,-,-,-⟩:=ht.src
 clear hv hu hm ht
 by_cases ha:ml≤65536
 · have ha':¬(65536:Int)<(ml:Int):=by omega
   have hb':(65552:Int)<(n:Int):=by omega
   clear h ha
   go_enter Tryz.func64,Tryz.ntmps64
   go_wp2
   go_ret2
   exact ⟨rfl,rfl⟩
 · have ha':(65536:Int)<(ml:Int):=by omega
   clear h ha
   go_enter Tryz.func64,Tryz.ntmps64
   go_wp2
   go_ret2
   exact ⟨rfl,rfl⟩
set_option maxHeartbeats 2000000 in
theorem rOpen_short (v u m t:Value) (ml n:Nat) (ks nn M X:Nat→Nat) (w:World) (hv:BytesIn w v 16 ks) (hu:BytesIn w u 12 nn) (hm:BytesIn w m ml M) (ht:BytesIn w t n X) (hml:ml≤65536) (hn:n<16) :
 Calls Tryz.prog 64 #[v,u,m,t] w fun e w'=>e = .returned (.tuple #[.slice none 0 0,.int .i64 32])∧Below w.heap.size w w':=by
 obtain ⟨xv,cv,rfl,-,-,-⟩:=hv.src
 obtain ⟨xu,cu,rfl,-,-,-⟩:=hu.src
 obtain ⟨xm,cm,rfl,-,-,-⟩:=hm.src
 obtain ⟨xt,ct,rfl,-,-,-⟩:=ht.src
 have ha':¬(65536:Int)<(ml:Int):=by omega
 have hb':¬(65552:Int)<(n:Int):=by omega
 have hc':(n:Int) - 16<0:=by omega
 have hd':IntKind.i64.wrap ((n:Int) - 16)=(n:Int) - 16:=by simp only [IntKind.wrap_i64];omega
 have b0:Below w.heap.size w w.drew:=(Below.refl _ _).drew
 clear hv hu hm ht
 go_enter Tryz.func64,Tryz.ntmps64
 go_wp2
 go_region
 go_wp2
 go_ret2
 exact ⟨rfl,b0⟩
theorem own_downR {base base':Nat} {w:World} {v:Value} {n:Nat} {X:Nat→Nat} (h:Own base w v n X) (hb:base'≤base):Own base' w v n X :=
 ⟨h.1,h.2.imp id fun ⟨g,cap,cur,e,h1,h2⟩=>⟨g,cap,cur,e,Nat.le_trans hb h1,h2⟩⟩
set_option maxRecDepth 20000 in
set_option maxHeartbeats 8000000 in
theorem rOpen_long (v u m t:Value) (ml k:Nat) (ks nn M X:Nat→Nat) (hml:ml≤65536) (hk:k≤65536) (hks:∀ j,ks j<256) (hnn:∀ j,nn j<256) (hM:∀ j,M j<256) (hX:∀ j,X j<256) (w:World) (hv:BytesIn w v 16 ks) (hu:BytesIn w u 12 nn) (hm:BytesIn w m ml M) (ht:BytesIn w t (k+16) X) :
 Calls Tryz.prog 64 #[v,u,m,t] w fun e w'=>(S16 (tgN ks nn ml M k X) (fun j=>X (k+j))→∃ s,e = .returned (.tuple #[s,.int .i64 0])∧Own w.heap.size w' s k (trN ks nn X))∧(¬S16 (tgN ks nn ml M k X) (fun j=>X (k+j))→e = .returned (.tuple #[.slice none 0 0,.int .i64 32]))∧Below w.heap.size w w':=by
 obtain ⟨bb,ob,ct,rfl,hbb,hct,hcell⟩:=ht.resolve_left (fun ⟨_,_,h⟩=>by omega)
 have hd:BytesIn w (.slice (some ⟨bb,ob,none⟩) k ct) k X := .inr ⟨bb,ob,ct,rfl,hbb,by omega,fun j hj=>hcell j (by omega)⟩
 have c2:=fun W hb=>rtag_any v u m (.slice (some ⟨bb,ob,none⟩) k ct) ml k ks nn M X (by omega) (by omega) hks hnn hM hX W (hv.keep hb) (hu.keep hb) (hm.keep hb) (hd.keep hb)
 have c3:=fun W hb=>turned_r v u (.slice (some ⟨bb,ob,none⟩) k ct) k ks nn X (by omega) hks hnn hX W (hv.keep hb) (hu.keep hb) (hd.keep hb)
 have hTB:B16 (tgN ks nn ml M k X):=fun j hj=>xor_byte (ctB_B hks hnn 1 j hj) (hsN_lt _ _ _ j)
 have cv2:∀ W,Below w.heap.size w W→∀ c,(convert 22 9 (.slice (some ⟨bb,ob+k,none⟩) 16 c)).run Tryz.prog W = .ok (.string (strB 16 (fun j=>X (k+j)))) W:=fun W hb c=>conv_bytes W bb (ob+k) 16 c _ (fun j=>hX _) (fun j hj=>by
  have:=(hb.cell (p:=⟨bb,ob+(k+j),none⟩) hbb).trans (hcell (k+j) (by omega))
  rwa [←Nat.add_assoc] at this)
 have hiff:S16 (tgN ks nn ml M k X) (fun j=>X (k+j))↔((strB 16 (tgN ks nn ml M k X)).toList == (strB 16 (fun j=>X (k+j))).toList)=true:=by
  refine ⟨fun h => ?_,fun h => ?_⟩
  · rw [strB_congr h];simp
  · exact strB16g hTB (fun _ _=>hX _) (WideShapes.bytes_inj (by simpa [ByteArray.toList_eq] using h))
 rw [hiff]
 have cv1:=fun W g (h:RowAt .u8 W g 0 16 (tgN ks nn ml M k X)) W' hb c=>conv16g h hTB (W':=W') hb c
 generalize tgN ks nn ml M k X=T at *
 generalize trN ks nn X=Tr at *
 obtain ⟨B,hB⟩:∃ B,B=((strB 16 T).toList == (strB 16 (fun j=>X (k+j))).toList):=⟨_,rfl⟩
 rw [←hB]
 have hB':=hB.symm
 generalize strB 16 T=S1 at *
 generalize strB 16 (fun j=>X (k+j))=S2 at *
 obtain ⟨xv,cv,rfl,-,-,-⟩:=hv.src
 obtain ⟨xu,cu,rfl,-,-,-⟩:=hu.src
 obtain ⟨xm,cm,rfl,-,-,-⟩:=hm.src
 obtain ⟨n,hn⟩:∃ n,n=k+16:=⟨_,rfl⟩
 rw [←hn]
 have ha':¬(65536:Int)<(ml:Int):=by omega
 have hb':¬(65552:Int)<(n:Int):=by omega
 have hc':(n:Int) - 16=(k:Int):=by omega
 have hd':IntKind.i64.wrap ((n:Int) - 16)=(k:Int):=by simp only [IntKind.wrap_i64];omega
 have i1:(0:Int)≤(k:Int)∧(k:Int)≤(n:Int):=by omega
 have i2:(k:Int)≤(ct:Int):=by omega
 have i3:n - k=16:=by omega
 have i5:(n:Int)≤(ct:Int):=by omega
 have i6:(n:Int) - (k:Int)=16:=by omega
 have i7:¬ct=k:=by omega
 have i8:decide ((k:Int)<0)=false:=decide_eq_false (by omega)
 have b0:Below w.heap.size w w.drew:=(Below.refl _ _).drew
 have c2':=c2 w.drew b0
 clear hv hu hm ht hks hnn hM hX hd hTB hcell c2 hn hct hB hiff
 go_enter Tryz.func64,Tryz.ntmps64
 go_upto_region 6 with (fail)
 refine wp_region_noPanic ?_
 refine wp_region_held_drew (S:=fun u=>Below w.drew.heap.size w.drew u) (by kernel_rfl) (Below.refl _ _) (fun hS => ?_)
 generalize w.drew=V at *
 refine tg 0 hS ?_
 (try simp only [pS])
 refine tg 1 hS ?_
 (try simp only [pS])
 refine tg 2 hS ?_
 (try simp only [pS])
 refine tg 3 hS ?_
 (try simp only [pS])
 refine tg 4 hS ?_
 (try simp only [pS])
 refine tg 5 hS ?_
 (try simp only [pS])
 refine tg 6 hS ?_
 (try simp only [pS])
 refine tg 7 hS ?_
 (try simp only [pS])
 refine tg 8 hS ?_
 (try simp only [pS])
 refine tg 11 hS ?_
 (try simp only [pS])
 refine tg 12 hS ?_
 (try simp only [pS])
 refine tg 13 hS ?_
 (try simp only [pS])
 refine tg 14 hS (v := .string S2) ?_ (hy:=fun u hu=>by
  have hq:=cv2 u (below_next b0 hu)
  go_simp)
 (try simp only [pS])
 refine cn 9 c2' ?_
 rintro e V2 ⟨s2,rfl,⟨g2,k2,hs2,hg2,hk2,r2⟩,hb2⟩
 subst hs2
 refine ⟨_,rfl,hb2,?_⟩
 have b2:=below_next b0 hb2
 have hS2:Below V2.heap.size V2 V2:=Below.refl _ _
 (try simp only [pS])
 refine tg 10 hS2 (v := .string S1) ?_ (hy:=fun u hu=>by
  have hq:=cv1 V2 g2 r2 u hu k2
  go_simp)
 (try simp only [pS])
 refine tg 15 hS2 (v := .bool (!B)) ?_
 (try simp only [pS])
 refine tg 16 hS2 (v := .bool (!B)) ?_
 (try simp only [pS])
 refine wpAnyH_done (by kernel_rfl) ?_ _
 refine NoPanic.normal ?_
 have c3':=c3 V2 b2
 clear c3 cv1 cv2 r2 hS hS2 hb2 hB'
 cases B with
 | false =>
  go_wp2
  go_ret2
  exact ⟨rfl,b2⟩
 | true =>
  go_wp2_with (go_at_call 87;refine c3'.mono ?_;clear c3';rintro e w9 ⟨s9,rfl,own9,b9⟩)
  go_ret2
  exact ⟨⟨_,rfl,own_downR own9 b2.size⟩,below_next b2 b9⟩
end Go.Proofs.YtcgkajlehdgpoaaGreatDoor
namespace Go.Proofs.YtcgkajlehdgpoaaGreatDoor
open Go.RowKit
def ncA (nn:Nat→Nat) (n k:Nat):Nat→Nat:=fun j=>if 12 - k≤j then ncN nn n j else nn j
theorem ncA_next (nn:Nat→Nat) (n k:Nat) (hk:k<8) (j:Nat) (hj:j<12):upd (ncA nn n k) (11 - k) (nn (11 - k) ^^^ (n / 2 ^ (8*k)%256)) j=ncA nn n (k+1) j:=by
 unfold upd ncA
 by_cases e:j=11 - k
 · rw [if_pos e,if_pos (by omega)]
   unfold ncN
   rw [if_neg (by omega),e,show 11 - (11 - k)=k by omega]
 · rw [if_neg e]
   by_cases h:12 - k≤j
   · rw [if_pos h,if_pos (by omega)]
   · rw [if_neg h,if_neg (by omega)]
theorem ncA_full (nn:Nat→Nat) (n j:Nat) (hj:j<12):ncA nn n 8 j=ncN nn n j:=by
 unfold ncA
 by_cases h:12 - 8≤j
 · rw [if_pos h]
 · rw [if_neg h];unfold ncN;rw [if_pos (by omega)]
theorem ncN_lt {nn:Nat→Nat} (h:∀ j,nn j<256) (n j:Nat):ncN nn n j<256:=by
 unfold ncN
 split
 · exact h j
 · exact xor_byte (h j) (Nat.mod_lt _ (by decide))
set_option maxRecDepth 20000 in
set_option maxHeartbeats 2000000 in
theorem rnonce_any (gc n:Nat) (K N X:Nat→Nat) (hN:∀ j,N j<256) (w:World) (h:RCtx w gc K N X n) :
 Calls Tryz.prog 63 #[.pointer (some ⟨gc,0,none⟩)] w fun e w'=>∃ s,e = .returned s∧BytesIn w' s 12 (ncN N n)∧Below w.heap.size w w':=by
 obtain ⟨vk,vu,vx,r,-,hu,-⟩:=h
 obtain ⟨xu,cu,rfl,hxn,-,hsrc⟩:=hu.src
 have hsu:=hsrc _ ((Below.refl w.heap.size w).alloc (Nat.le_refl _) (.cells #[] 5))
 have f1:w.cell? ⟨gc,1,none⟩=some (.slice xu 12 cu):=r.range 1 _ rfl
 have f1':(w.alloc (.cells #[] 5)).cell? ⟨gc,1,none⟩=some (.slice xu 12 cu):=Lib.cell?_alloc_marked _ f1
 clear hu hsrc
 go_enter Tryz.func63,Tryz.ntmps63
 go_wp2_with (at_builtin;refine wpList_append_empty rfl (.tmp 5) (.tmp 9) rfl w.heap.size N w.heap.size rfl rfl xu 12 cu rfl hsu hxn (by decide) (Nat.le_refl _) ?_;intro v3 w3 own3 hb3;(obtain ⟨g3,c3,hv3,hg3,hgl3,hc3,hr3⟩:=own3.form.resolve_left (fun h=>by omega));subst hv3)
 replace hr3:RowAt .u8 w3 g3 0 12 (ncA N n 0):=hr3.congr fun j hj=>by unfold ncA;rw [if_neg (by omega)]
 have hcur:c3=c3:=rfl
 go_loopw [4] (fun i wr=>∃ k:Nat,k≤8∧i = .int .i64 k∧RowAt .u8 wr g3 0 12 (ncA N n k)∧Below w.heap.size w wr) (fun i _=>8 - (intOf i).toNat)
 case atStart=>exact ⟨0,Nat.zero_le _,rfl,hr3,hb3⟩
 case round =>
  clear hr3 hb3 own3
  obtain ⟨k,hk,rfl,hr,hb⟩:=hrel
  by_cases hlt:k<8
  · obtain ⟨q1,z1⟩:=hr (11 - k) (by omega)
    have hs:=hr.set (i:=11 - k) (by omega) (v:=((N (11 - k) ^^^ (n / 2 ^ (8*k)%256):Nat):Int)) rfl
    rw [Nat.zero_add] at q1 z1 hs
    replace hs:=hs.congr fun j hj=>ncA_next N n k hlt j hj
    have hq1:ncA N n k (11 - k)=N (11 - k):=by unfold ncA;rw [if_neg (by omega)]
    rw [hq1] at q1
    have x1:=u8_xor_nat (N (11 - k)) (n / 2 ^ (8*k)%256) (hN _) (Nat.mod_lt _ (by decide))
    have e1:IntKind.u8.wrap ((n:Int) / 2 ^ (8*k))=((n / 2 ^ (8*k)%256:Nat):Int):=by
     show (n:Int) / 2 ^ (8*k)%256=_
     simp
    have cn:wr.cell? ⟨gc,3,none⟩=some (.int .i64 (n:Int)):=(r.still hb).range 3 _ rfl
    obtain ⟨y,hy⟩:∃ y,y=n / 2 ^ (8*k)%256:=⟨_,rfl⟩
    obtain ⟨z,hz⟩:∃ z,z=N (11 - k) ^^^ (n / 2 ^ (8*k)%256):=⟨_,rfl⟩
    rw [←hz] at hs x1
    rw [←hy] at x1 e1
    obtain ⟨u,hu⟩:∃ u,u=N (11 - k):=⟨_,rfl⟩
    rw [←hu] at q1 x1
    obtain ⟨q,hq⟩:∃ q,q=11 - k:=⟨_,rfl⟩
    rw [←hq] at q1 z1 hs
    obtain ⟨sh,hsh⟩:∃ sh,sh=8*k:=⟨_,rfl⟩
    rw [←hsh] at e1
    have e2:(11:Int) - (k:Int)=(q:Int):=by omega
    have e2':IntKind.i64.wrap ((11:Int) - (k:Int))=(q:Int):=by simp only [IntKind.wrap_i64];omega
    have e3:8*(k:Int)=(sh:Int):=by omega
    have e3':IntKind.i64.wrap (8*(k:Int))=(sh:Int):=by simp only [IntKind.wrap_i64];omega
    have e4:IntKind.u64.wrap (sh:Int)=(sh:Int):=by show (sh:Int)%18446744073709551616=_;omega
    have t1:(0:Int)≤(q:Int)∧(q:Int)<12:=by omega
    have t2:(0:Int)≤(sh:Int)∧(sh:Int)<64:=by omega
    have hlt':(k:Int)<8:=by omega
    have t3:q<12:=by omega
    clear hy hz hu hq hsh hq1 hr
    go_wp2
    go_region
    go_wp2
    go_roundw
    case rel=>exact ⟨k+1,hlt,by go_num,hs.drew,(hb.setCell hg3 _).drew⟩
    case measure=>simp [intOf];omega
  · obtain rfl:k=8:=by omega
    go_wp2
    go_ret
    exact ⟨_,rfl,.inr ⟨g3,0,c3,rfl,block_lt_of_cell (hr 0 (by decide)).1,hc3,fun j hj=>by rw [(hr j hj).1,ncA_full N n j hj]⟩,hb⟩
end Go.Proofs.YtcgkajlehdgpoaaGreatDoor
namespace Go.Proofs.YtcgkajlehdgpoaaGreatDoor
open Go.RowKit
theorem run_eql_slice_nil {P:Program} (w:World) (t e:TypeId) (a:Option Addr) (l c:Nat) (h:P.underlying t=some (.slice e)):(binOp .eql t (.slice a l c) (.slice none 0 0)).run P w = .ok (.bool a.isNone) w:=by
 simp only [binOp]
 simp [run_equal_slice_nil w t e a l c h]
theorem wpList_eqnil {ops:Array Oper} {rest:List Oper} {op:Oper} {a:Act} {w:World} {Q:Exit→Act→World→Prop} (hgd:op.guard=none) (x y:Operand) (t2:TypeId) (ho:op.op = .binOp .eql 22 x y t2) (ad:Addr) (l c:Nat)
 (hx:a.eval x = .slice (some ad) l c) (hy:a.eval y = .slice none 0 0) (h:wpList Tryz.prog ops Q rest (a.put op.dst (.bool false)) w):wpList Tryz.prog ops Q (op :: rest) a w :=
 wpList_plain hgd fun K hK=>by
  unfold Oper.wp execOp
  simp only [ho,hx,hy]
  have e:(eqGuard .eql 22 x y (.slice (some ad) l c) (.slice none 0 0)).run Tryz.prog w = .ok () w:=by
   simp [eqGuard]
  rw [Sem.run_bind,Sem.run_bind,e]
  simp only [Result.andThen_ok]
  rw [run_eql_slice_nil w 22 5 (some ad) l c Tryz.underlying22]
  exact hK _ _ h
end Go.Proofs.YtcgkajlehdgpoaaGreatDoor
namespace Go.Proofs.YtcgkajlehdgpoaaGreatDoor
open Go.RowKit
set_option maxRecDepth 20000 in
set_option maxHeartbeats 4000000 in
theorem sclone_any (g o n c:Nat) (hn:0<n) (hn2:n≤1000000) (X:Nat→Nat) (w:World) (hv:BytesIn w (.slice (some ⟨g,o,none⟩) n c) n X) :
 Calls Tryz.prog 89 #[.slice (some ⟨g,o,none⟩) n c] w fun e w'=>∃ gn cap,e = .returned (.slice (some ⟨gn,0,none⟩) n cap)∧w.heap.size≤gn∧n≤cap∧RowAt .u8 w' gn 0 n X∧Below w.heap.size w w':=by
 obtain ⟨xs,cs,e,-,-,hsrc⟩:=hv.src
 cases e
 have hsu:=hsrc _ ((Below.refl w.heap.size w).alloc (Nat.le_refl _) (.cells #[] 5))
 clear hv hsrc
 go_enter Tryz.func89,Tryz.ntmps89
 go_wp2_with (first
  | (refine wpList_eqnil rfl _ _ _ rfl _ _ _ rfl rfl ?_)
  | (at_builtin;refine wpList_append_empty rfl (.tmp 5) (.tmp 6) rfl w.heap.size X w.heap.size rfl rfl (some ⟨g,o,none⟩) n c rfl hsu (fun h=>by cases h) (by omega) (Nat.le_refl _) ?_;intro v3 w3 own3 hb3;(obtain ⟨g3,c3,hv3,hg3,hgl3,hc3,hr3⟩:=own3.form.resolve_left (fun h=>by omega));subst hv3))
 go_ret
 exact ⟨g3,c3,rfl,hg3,hc3,hr3,hb3⟩
set_option maxRecDepth 20000 in
set_option maxHeartbeats 4000000 in
theorem cnonce_any (gk gu gx n:Nat) (N:Nat→Nat) (hN:∀ j,N j<256) (w:World) (h:RowAt .u8 w gu 0 12 N) :
 Calls Tryz.prog 65 #[.agg #[.slice (some ⟨gk,0,none⟩) 16 16,.slice (some ⟨gu,0,none⟩) 12 12,.slice (some ⟨gx,0,none⟩) 32 32],.int .u64 (n:Int)] w fun e w'=>∃ s,e = .returned s∧BytesIn w' s 12 (ncN N n)∧Below w.heap.size w w':=by
 have b0:Below w.heap.size w (w.alloc (.cells #[.slice (some ⟨gk,0,none⟩) 16 16,.slice (some ⟨gu,0,none⟩) 12 12,.slice (some ⟨gx,0,none⟩) 32 32] 52)):=(Below.refl _ _).alloc (Nat.le_refl _) _
 have cc:=sclone_any gu 0 12 12 (by decide) (by decide) N _ ((row_bytes (by decide) h).keep b0)
 clear h
 go_enter Tryz.func65,Tryz.ntmps65
 go_wp2_with (go_at_call 89;refine cc.mono ?_;clear cc;rintro e w3 ⟨g3,c3,rfl,hg3,hc3,hr3,hb3⟩;(replace hb3:=below_next b0 hb3);(replace hg3:w.heap.size≤g3:=Nat.le_trans b0.size hg3))
 replace hr3:RowAt .u8 w3 g3 0 12 (ncA N n 0):=hr3.congr fun j hj=>by unfold ncA;rw [if_neg (by omega)]
 have hcur:c3=c3:=rfl
 go_loopw [10] (fun i wr=>∃ k:Nat,k≤8∧i = .int .i64 k∧RowAt .u8 wr g3 0 12 (ncA N n k)∧Below w.heap.size w wr) (fun i _=>8 - (intOf i).toNat)
 case atStart=>exact ⟨0,Nat.zero_le _,rfl,hr3,hb3⟩
 case round =>
  clear hr3 hb3
  obtain ⟨k,hk,rfl,hr,hb⟩:=hrel
  by_cases hlt:k<8
  · obtain ⟨q1,z1⟩:=hr (11 - k) (by omega)
    have hs:=hr.set (i:=11 - k) (by omega) (v:=((N (11 - k) ^^^ (n / 2 ^ (8*k)%256):Nat):Int)) rfl
    rw [Nat.zero_add] at q1 z1 hs
    replace hs:=hs.congr fun j hj=>ncA_next N n k hlt j hj
    have hq1:ncA N n k (11 - k)=N (11 - k):=by unfold ncA;rw [if_neg (by omega)]
    rw [hq1] at q1
    have x1:=u8_xor_nat (N (11 - k)) (n / 2 ^ (8*k)%256) (hN _) (Nat.mod_lt _ (by decide))
    have e1:IntKind.u8.wrap ((n:Int) / 2 ^ (8*k))=((n / 2 ^ (8*k)%256:Nat):Int):=by
     show (n:Int) / 2 ^ (8*k)%256=_
     simp
    obtain ⟨y,hy⟩:∃ y,y=n / 2 ^ (8*k)%256:=⟨_,rfl⟩
    obtain ⟨z,hz⟩:∃ z,z=N (11 - k) ^^^ (n / 2 ^ (8*k)%256):=⟨_,rfl⟩
    rw [←hz] at hs x1
    rw [←hy] at x1 e1
    obtain ⟨u,hu⟩:∃ u,u=N (11 - k):=⟨_,rfl⟩
    rw [←hu] at q1 x1
    obtain ⟨q,hq⟩:∃ q,q=11 - k:=⟨_,rfl⟩
    rw [←hq] at q1 z1 hs
    obtain ⟨sh,hsh⟩:∃ sh,sh=8*k:=⟨_,rfl⟩
    rw [←hsh] at e1
    have e2:(11:Int) - (k:Int)=(q:Int):=by omega
    have e2':IntKind.i64.wrap ((11:Int) - (k:Int))=(q:Int):=by simp only [IntKind.wrap_i64];omega
    have e3:8*(k:Int)=(sh:Int):=by omega
    have e3':IntKind.i64.wrap (8*(k:Int))=(sh:Int):=by simp only [IntKind.wrap_i64];omega
    have t1:(0:Int)≤(q:Int)∧(q:Int)<12:=by omega
    have t2:(0:Int)≤(sh:Int)∧(sh:Int)<64:=by omega
    have hlt':(k:Int)<8:=by omega
    have t3:q<12:=by omega
    clear hy hz hu hq hsh hq1 hr
    go_wp2
    go_region
    go_wp2
    go_roundw
    case rel=>exact ⟨k+1,hlt,by go_num,hs.drew,(hb.setCell hg3 _).drew⟩
    case measure=>simp [intOf];omega
  · obtain rfl:k=8:=by omega
    go_wp2
    go_ret
    exact ⟨_,rfl,.inr ⟨g3,0,c3,rfl,block_lt_of_cell (hr 0 (by decide)).1,hc3,fun j hj=>by rw [(hr j hj).1,ncA_full N n j hj]⟩,hb⟩
end Go.Proofs.YtcgkajlehdgpoaaGreatDoor
