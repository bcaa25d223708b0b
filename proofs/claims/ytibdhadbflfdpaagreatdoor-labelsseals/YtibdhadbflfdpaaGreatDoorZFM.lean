/- What the proof stands on: ZF, ZG, G9RO, G9W. -/
import Derived.Test.YtibdhadbflfdpaaGreatDoorG9MathM
import Derived.Test.YtibdhadbflfdpaaGreatDoorG9RUM
namespace Go.Proofs.YtibdhadbflfdpaaGreatDoor
open Go.RowKit Go.Shelf
section
variable {P:Program} {md:Region.Mode} {ops:Array Oper} {Q:Exit→Act→World→Prop} {S:World→Prop} {fuel:Nat} {listed:Array Bool} {a:Act} {w:World}
def LastQ (P:Program) (ops:Array Oper) (Q:Exit→Act→World→Prop) (t:Nat):Exit→Act→World→Prop
 | .normal,a,w=>wpOp P ops Q t (Q .normal) a w
 | e,a,w=>Q e a w
def backward (md:Region.Mode) (ops:Array Oper):Bool:=(List.range ops.size).all fun i=>match ops[i]? with
 | none=>true
 | some o=>o.after.toList.all fun e=>!Region.binds md e || decide (e.on<i)
def waitsAll (md:Region.Mode) (ops:Array Oper) (t:Nat):Bool:=match ops[t]? with
 | none=>false
 | some o=>(List.range ops.size).all fun i=>decide (i=t) || o.after.toList.any fun e=>Region.binds md e && decide (e.on=i)
theorem backward_at (h:backward md ops=true) {i:Nat} {o:Oper} (ho:ops[i]? = some o) {e:Edge} (he:e∈o.after) (hb:Region.binds md e=true):e.on<i:=by
 have h1:=List.all_eq_true.1 h i (List.mem_range.2 (Array.getElem?_eq_some_iff.1 ho).1)
 rw [ho] at h1
 have h2:=List.all_eq_true.1 h1 e (Array.mem_toList_iff.2 he)
 rw [hb] at h2
 simpa using h2
theorem waitsAll_at {t:Nat} (h:waitsAll md ops t=true):∃ o,ops[t]? = some o∧∀ i,i<ops.size→i≠t→∃ e∈o.after,Region.binds md e=true∧e.on=i:=by
 unfold waitsAll at h
 split at h
 · cases h
 · rename_i o ho
   refine ⟨o,ho,fun i hi hne => ?_⟩
   have h1:=List.all_eq_true.1 h i (List.mem_range.2 hi)
   rw [decide_eq_false hne,Bool.false_or] at h1
   obtain ⟨e,he,h2⟩:=List.any_eq_true.1 h1
   rw [Bool.and_eq_true,decide_eq_true_eq] at h2
   exact ⟨e,Array.mem_toList_iff.1 he,h2.1,h2.2⟩
theorem wpOp_swap {Q':Exit→Act→World→Prop} (hp:∀ c a w,Q' (.panic c) a w→Q (.panic c) a w) (hl:LetsOut Q'→LetsOut Q) {i:Nat} {K:Act→World→Prop} (hh:wpOp P ops Q' i K a w):wpOp P ops Q i K a w:=by
 unfold wpOp at *
 split
 · simpa [*] using hh
 · rename_i o ho
   simp only [ho] at hh
   split
   · rename_i hw
     simp only [hw,if_true] at hh
     refine hh.imp (fun hh => ?_) (fun h=>⟨h.1,hl h.2⟩)
     unfold Oper.wp at *
     generalize (execOp a.eval o).run P w=r at *
     cases r with
     | ok n w' =>
      cases n <;> simp only [Oper.upon] at hh ⊢ <;>
       first
        | exact hh
        | exact Calls.mono hh (fun e w'' he=>by cases e <;> first | exact he | exact hp _ _ _ he | exact hl he)
     | halt x w'=>cases x <;> simp only [Oper.upon] at hh ⊢ <;> first | exact hh | exact hp _ _ _ hh
   · rename_i hw;simp only [hw] at hh;exact hh
theorem wpAny_end (hr:Region.ready md ops listed=[]) (h:Q .normal a w):∀ fuel,wpAny P md ops Q fuel listed a w
 | 0=>⟨hr,h⟩
 | _+1=>⟨fun _=>h,by rw [hr];simp⟩
theorem all_listed {t:Nat} (hb:backward md ops=true) (hz:listed.size=ops.size) (hr:Region.ready md ops (listed.setIfInBounds t true)=[]):∀ i,i<ops.size→i≠t→listed.getD i true=true:=by
 intro i
 induction i using Nat.strongRecOn with
 | ind i ih =>
  intro hi hne
  cases hc:listed.getD i true with
  | true=>rfl
  | false =>
   have hmem:i∈Region.ready md ops (listed.setIfInBounds t true):=by
    rw [mem_ready]
    refine ⟨by rw [getD_set_ne true (Ne.symm hne)];exact hc,ops[i],Array.getElem?_eq_getElem hi,fun e he hbe => ?_⟩
    have hlt:=backward_at hb (Array.getElem?_eq_getElem hi) he hbe
    by_cases het:e.on=t
    · rw [het]
      have:t<listed.size:=by omega
      simp [this]
    · have h1:=ih e.on hlt (by omega) het
      have hs:e.on<listed.size:=by omega
      rw [getD_set_ne false (Ne.symm het)]
      simp [hs] at h1 ⊢
      exact h1
   rw [hr] at hmem
   cases hmem
theorem wpAny_last {t:Nat} (ht:t<ops.size) (hb:backward md ops=true) (hw:waitsAll md ops t=true):∀ (fuel:Nat) (listed:Array Bool) (a:Act) (w:World),listed.size=ops.size→listed.getD t true=false →
 wpAny P md ops (LastQ P ops Q t) fuel (listed.setIfInBounds t true) a w→wpAny P md ops Q (fuel+1) listed a w:=by
 intro fuel
 induction fuel with
 | zero =>
  intro listed a w hz hlt h
  have hall:=all_listed hb hz h.1
  have hq:wpOp P ops Q t (Q .normal) a w:=h.2
  obtain ⟨o,ho,-⟩:=waitsAll_at hw
  have hmt:t∈Region.ready md ops listed:=mem_ready.2 ⟨hlt,o,ho,fun e he hbe=>by
   have h1:=backward_at hb ho he hbe
   have h2:=hall e.on (by omega) (by omega)
   have hs:e.on<listed.size:=by omega
   simp [hs] at h2 ⊢
   exact h2⟩
  refine ⟨fun h0=>(by rw [h0] at hmt;cases hmt),fun i hi => ?_⟩
  by_cases hit:i=t
  · subst hit
    exact wpOp_mono (fun a' w' h'=>wpAny_end h.1 h' _) hq
  · have:=ready_mono hi hit
    rw [h.1] at this
    cases this
 | succ fuel ih =>
  intro listed a w hz hlt h
  by_cases hr:Region.ready md ops (listed.setIfInBounds t true)=[]
  · have hall:=all_listed hb hz hr
    have hq:wpOp P ops Q t (Q .normal) a w:=h.1 hr
    obtain ⟨o,ho,-⟩:=waitsAll_at hw
    have hmt:t∈Region.ready md ops listed:=mem_ready.2 ⟨hlt,o,ho,fun e he hbe=>by
     have h1:=backward_at hb ho he hbe
     have h2:=hall e.on (by omega) (by omega)
     have hs:e.on<listed.size:=by omega
     simp [hs] at h2 ⊢
     exact h2⟩
    refine ⟨fun h0=>(by rw [h0] at hmt;cases hmt),fun i hi => ?_⟩
    by_cases hit:i=t
    · subst hit
      exact wpOp_mono (fun a' w' h'=>wpAny_end hr h' _) hq
    · have:=ready_mono hi hit
      rw [hr] at this
      cases this
  · obtain ⟨o,ho,hwt⟩:=waitsAll_at hw
    obtain ⟨j,hj⟩:=List.exists_mem_of_ne_nil _ hr
    obtain ⟨hju,oj,hoj,hjall⟩:=mem_ready.1 hj
    have hjs:j<ops.size:=(Array.getElem?_eq_some_iff.1 hoj).1
    have hjt:j≠t:=fun e=>by
     subst e
     have:j<listed.size:=by omega
     simp [this] at hju
    have hnt:t ∉ Region.ready md ops listed:=fun hm=>by
     obtain ⟨-,o',ho',hall⟩:=mem_ready.1 hm
     rw [ho] at ho'
     cases ho'
     obtain ⟨e,he,hbe,hej⟩:=hwt j hjs hjt
     have h1:=hall e he hbe
     rw [hej] at h1
     rw [getD_set_ne true (Ne.symm hjt)] at hju
     have hs:j<listed.size:=by omega
     simp [hs] at h1 hju
     rw [h1] at hju
     cases hju
    have hsome:∃ i,i∈Region.ready md ops listed:=by
     have hex:∃ i,i<ops.size∧i≠t∧listed.getD i true=false:=⟨j,hjs,hjt,by rwa [getD_set_ne true (Ne.symm hjt)] at hju⟩
     refine Classical.byContradiction fun hno => ?_
     obtain ⟨i,hi,hit,hiu⟩:=hex
     have hall:∀ i,i<ops.size→i≠t→listed.getD i true=true:=by
      intro i
      induction i using Nat.strongRecOn with
      | ind i ihh =>
       intro hi hne
       cases hc:listed.getD i true with
       | true=>rfl
       | false =>
        exfalso
        by_cases hti:∃ e∈ops[i].after,Region.binds md e=true∧e.on=t
        · obtain ⟨e1,he1,hb1,h1t⟩:=hti
          obtain ⟨e2,he2,hb2,h2i⟩:=hwt i hi hne
          have g1:=backward_at hb (Array.getElem?_eq_getElem hi) he1 hb1
          have g2:=backward_at hb ho he2 hb2
          omega
        · refine hno ⟨i,mem_ready.2 ⟨hc,ops[i],Array.getElem?_eq_getElem hi,fun e he hbe => ?_⟩⟩
          have hlt':=backward_at hb (Array.getElem?_eq_getElem hi) he hbe
          have h1:=ihh e.on hlt' (by omega) (fun het=>hti ⟨e,he,hbe,het⟩)
          have hs:e.on<listed.size:=by omega
          simp [hs] at h1 ⊢
          exact h1
     rw [hall i hi hit] at hiu
     cases hiu
    refine ⟨fun h0=>(by obtain ⟨i,hi⟩:=hsome;rw [h0] at hi;cases hi),fun i hi => ?_⟩
    have hit:i≠t:=fun e=>hnt (e ▸ hi)
    have h1:=h.2 i (ready_mono hi hit)
    refine wpOp_swap (Q':=LastQ P ops Q t) (fun _ _ _ h=>h) (fun h=>h) (wpOp_mono (fun a' w' h' => ?_) h1)
    refine ih (listed.setIfInBounds i true) a' w' (by simpa using hz) (by rw [getD_set_ne true hit];exact hlt) ?_
    rw [Array.setIfInBounds_comm _ _ hit]
    exact h'
theorem wpIn_last {l n id:Nat} (t:Nat) (hm:P.follows .mixedOrders=true) (hd:noDefer ops=true) (ht:t+1=ops.size) (hb:backward .any ops=true) (hw:waitsAll .any ops t=true) (hS:S w.drew)
 (h:S w.drew→wpAnyH P .any ops (LastQ P ops (OnlyN Q) t) S t ((Array.replicate (t+1) false).setIfInBounds t true) a w.drew):(Code.region id ops true).wpIn (Fence.wide.inRound l) n P Q a w:=by
 refine wpIn_mono (wpIn_region_any hm (any_in hd OnlyN.stays _ _ _ _ ?_)) OnlyN.imp
 rw [←ht]
 refine wpAny_last (by omega) hb hw t _ a _ (by simp [ht]) (by simp) ?_
 exact wpAny_of_held _ _ _ _ (h hS)
theorem wp_last {id:Nat} (t:Nat) (hm:P.follows .mixedOrders=true) (ht:t+1=ops.size) (hb:backward .any ops=true) (hw:waitsAll .any ops t=true) (hS:S w.drew)
 (h:S w.drew→wpAnyH P .any ops (LastQ P ops (NoPanic Q) t) S t ((Array.replicate (t+1) false).setIfInBounds t true) a w.drew):(Code.region id ops true).wp P Q a w:=by
 refine wp_region_noPanic (wp_region_any hm ?_)
 rw [←ht]
 refine wpAny_last (by omega) hb hw t _ a _ (by simp [ht]) (by simp) ?_
 exact wpAny_of_held _ _ _ _ (h hS)
theorem lastRow (t:Nat) {ot:Oper} (ty x y:Nat) {g off:Nat} {cs:List Value} (ds:List Value) (r:RW w g off cs) (hl:ds.length=cs.length) (hin:(P.info? ty).map (·.size)=some ds.toArray.size) (h1:ds.toArray.all (·.oneCell')=true) (h:RW (w.setCells g off ds) g off ds→Q .normal (a.put ot.dst undef) (w.setCells g off ds))
 (hi:ops.toList[t]? = some ot:=by rfl) (ho:ot.op = .store ty (.tmp x) (.tmp y):=by rfl) (hx:a.eval (.tmp x) = .pointer (some ⟨g,off,none⟩):=by rfl) (hy:a.eval (.tmp y) = .agg ds.toArray:=by rfl) (hw:Region.wanted ot (yielded ops a.tmps)=true:=by rfl):LastQ P ops Q t .normal a w:=by
 show wpOp P ops Q t (Q .normal) a w
 unfold wpOp
 rw [at_list hi]
 dsimp only
 rw [if_pos hw]
 exact .inl (wp_store_mid ty _ _ ho g off ds.toArray hx hy (by rw [List.size_toArray,hl];exact r.there) hin h1 (h (r.stored ds hl)))
theorem lastRun (t:Nat) {ot:Oper} {w':World} (h:Q .normal (a.put ot.dst undef) w') (hi:ops.toList[t]? = some ot:=by rfl) (hw:Region.wanted ot (yielded ops a.tmps)=true:=by rfl)
 (hrun:(execOp a.eval ot).run P w = .ok .skip w':=by go_simp;try with_reducible rfl):LastQ P ops Q t .normal a w:=by
 show wpOp P ops Q t (Q .normal) a w
 unfold wpOp
 rw [at_list hi]
 dsimp only
 rw [if_pos hw]
 refine .inl ?_
 unfold Oper.wp
 rw [hrun]
 exact h
end
end Go.Proofs.YtibdhadbflfdpaaGreatDoor
namespace Go.Proofs.YtibdhadbflfdpaaGreatDoor
open Go.RowKit Go.Shelf
section
variable {P:Program} {md:Region.Mode} {ops:Array Oper} {Q:Exit→Act→World→Prop} {S:World→Prop} {fuel:Nat} {listed:Array Bool} {a:Act} {w:World}
theorem tlS (i:Nat) {oi:Oper} {g off k:Nat} {cs:List Value} (r:∀ u,S u→RW u g off cs) (hS:S w) (ty:Nat) {d:TypeDesc} (hu:P.underlying ty=some d) (hin:(P.info? ty).map (·.size)=some cs.length)
 (h:wpAnyH P md ops Q S fuel (listed.setIfInBounds i true) (a.put oi.dst (.agg cs.toArray)) w) (hi:ops.toList[i]? = some oi:=by rfl) (ho:oi.op = .load ty (.tmp k):=by rfl)
 (hd:d.isRow=true:=by rfl) (hw:Region.wanted oi (yielded ops a.tmps)=true:=by rfl) (hx:a.eval (.tmp k) = .pointer (some ⟨g,off,none⟩):=by rfl)
 (hQ:∀ c b w,Q (.panic c) (b.put oi.dst (.agg cs.toArray)) w→Q (.panic c) b w:=by exact fun _ _ _ h=>h) (hs:Region.noSelect ops=true:=by kernel_rfl) (hf:Region.free md ops listed i=true:=by kernel_rfl) (hr:(Region.ready md ops listed).contains i=true:=by kernel_rfl):wpAnyH P md ops Q S (fuel+1) listed a w :=
 tkH i oi _ hS (yieldsIf_load_mid hw ty _ ho g off hx cs d (fun u hu=>(r u hu).range) hu hd hin) h hQ (at_list hi) hs hf hr
theorem wo (i:Nat) {oi:Oper} {v:Value} {w':World} (hrun:(execOp a.eval oi).run P w = .ok (.value v) w') (hk:S w') (h:wpAnyH P md ops Q S fuel (listed.setIfInBounds i true) (a.put oi.dst v) w')
 (hi:ops.toList[i]? = some oi:=by rfl) (hr:Region.ready md ops listed=[i]:=by kernel_rfl) (hw:Region.wanted oi (yielded ops a.tmps)=true:=by rfl):wpAnyH P md ops Q S (fuel+1) listed a w:=by
 refine wpAnyH_ready hr (by simp) (AllReadyH.cons (at_list hi) (fun K hK => ?_) AllReadyH.nil)
 rw [if_pos hw]
 unfold Oper.wp
 rw [hrun,Oper.upon_value]
 exact hK.out _ _ hk (fun _=>h)
theorem cR {i:Nat} {rs:List Nat} {oi:Oper} {f:FuncId} {args:Array Value} {R:Ending→World→Prop} (c:Calls P f args w R) (h:∀ e w',R e w'→∃ r,e = .returned r∧S w'∧wpAnyH P md ops Q S fuel (listed.setIfInBounds i true) (a.put oi.dst r) w') (hs:AllReadyH P md ops Q S fuel listed a w rs)
 (hi:ops.toList[i]? = some oi:=by rfl) (hw:Region.wanted oi (yielded ops a.tmps)=true:=by rfl) (hrun:(execOp a.eval oi).run P w = .ok (.enter f args) w:=by kernel_rfl):AllReadyH P md ops Q S fuel listed a w (i :: rs):=arC oi c h hs (at_list hi) hw hrun
theorem gR {i:Nat} {rs:List Nat} {oi:Oper} (v:Nat→Value) (cs:List Value) (t:TypeId) (hk:∀ u,Below w.heap.size w u→S u) (h:∀ w1 g,w.heap.size≤g→Below w.heap.size w w1→RW w1 g 0 cs→wpAnyH P md ops Q S fuel (listed.setIfInBounds i true) (a.put oi.dst (v g)) w1) (hs:AllReadyH P md ops Q S fuel listed a w rs)
 (hi:ops.toList[i]? = some oi:=by rfl) (hrun:(execOp a.eval oi).run P w = .ok (.value (v w.heap.size)) (w.alloc (.cells cs.toArray t)):=by kernel_rfl) (hw:Region.wanted oi (yielded ops a.tmps)=true:=by rfl):AllReadyH P md ops Q S fuel listed a w (i :: rs):=aG oi v cs t hk h hs hrun (at_list hi) hw
end
section
variable {md:Region.Mode} {ops:Array Oper} {Q:Exit→Act→World→Prop} {S:World→Prop} {fuel:Nat} {listed:Array Bool} {a:Act} {w:World}
theorem ao (i:Nat) {oi:Oper} (s x:Nat) (base g k cap:Nat) (X:Nat→Nat) (hown:Own base w (.slice (some ⟨g,0,none⟩) k cap) k X) (b m c:Nat) (B:Nat→Nat) (hsrc:∀ j,j<m→w.cell? ⟨b,j,none⟩=some (.int .u8 (B j))) (hfit:k+m≤cap)
 (h:∀ w',Own base w' (.slice (some ⟨g,0,none⟩) (k+m) cap) (k+m) (cat k X B)→But (fun q=>q=g) w w'→S w'∧wpAnyH Tryz.prog md ops Q S fuel (listed.setIfInBounds i true) (a.put oi.dst (.slice (some ⟨g,0,none⟩) (k+m) cap)) w')
 (hi:ops.toList[i]? = some oi:=by rfl) (hr:Region.ready md ops listed=[i]:=by kernel_rfl) (ho:oi.op = .call { callee := .builtin .append,args:=#[.tmp s,.tmp x],argTypes:=#[22,22] }:=by rfl)
 (hs:a.eval (.tmp s) = .slice (some ⟨g,0,none⟩) k cap:=by rfl) (hx:a.eval (.tmp x) = .slice (some ⟨b,0,none⟩) m c:=by rfl) (hw:Region.wanted oi (yielded ops a.tmps)=true:=by rfl):wpAnyH Tryz.prog md ops Q S (fuel+1) listed a w:=by
 obtain ⟨i0,hi0,hz0,hz1,hz2⟩:=info_parts Tryz.info5
 obtain ⟨w',hrun,h1,h2⟩:=run_append_fits (P:=Tryz.prog) w base 22 oi.type 5 i0 1 Tryz.underlying22 hi0 hz1 g k cap _ hown ⟨b,0,none⟩ m c (ints .u8 m B) (by rw [ints_len,Nat.mul_one]) (fun j u hu=>by
  have hj:j<m:=by have:=(List.getElem?_eq_some_iff.1 hu).1;rwa [ints_len] at this
  rw [ints_at _ _ _ j hj] at hu
  cases hu
  rw [Addr.add_mid,Nat.zero_add]
  exact hsrc j hj) (ints_one _ _ _) hfit
 rw [ints_add] at h1
 obtain ⟨hk,hh⟩:=h w' h1 ⟨h2.os,h2.tape,h2.output,h2.size,fun q hq hne=>h2.block q hq (fun e=>hne (by cases e;rfl))⟩
 refine wo i ?_ hk hh hi hr hw
 simp [execOp,ho,resolve,invoke,builtin,hs,hx,hrun,Result.andThen]
end
end Go.Proofs.YtibdhadbflfdpaaGreatDoor
namespace Go.Proofs.YtibdhadbflfdpaaGreatDoor
open Go.RowKit
set_option maxHeartbeats 2000000 in
theorem rSeal_bad (v u m t:Value) (a b ml n:Nat) (ks nn M X:Nat→Nat) (w:World) (hv:BytesIn w v a ks) (hu:BytesIn w u b nn) (hm:BytesIn w m ml M) (ht:BytesIn w t n X) (h:¬(a=16∧b=12)) :
 Calls Tryz.prog 145 #[v,u,m,t] w fun e w'=>e = .returned (.tuple #[.slice none 0 0,.int .i64 1])∧w'=w:=by
 obtain ⟨xv,cv,rfl,-,-,-⟩:=hv.src
 obtain ⟨xu,cu,rfl,-,-,-⟩:=hu.src
 obtain ⟨xm,cm,rfl,-,-,-⟩:=hm.src
 obtain ⟨xt,ct,rfl,-,-,-⟩:=ht.src
 clear hv hu hm ht
 by_cases ha:a=16
 · subst ha
   have hb':¬(b:Int)=12:=by omega
   clear h
   go_enter Tryz.func145,Tryz.ntmps145
   go_wp2
   go_ret2
   exact ⟨rfl,rfl⟩
 · have ha':¬(a:Int)=16:=by omega
   clear h ha
   go_enter Tryz.func145,Tryz.ntmps145
   go_wp2
   go_ret2
   exact ⟨rfl,rfl⟩
set_option maxHeartbeats 2000000 in
theorem rSeal_size (v u m t:Value) (ml n:Nat) (ks nn M X:Nat→Nat) (w:World) (hv:BytesIn w v 16 ks) (hu:BytesIn w u 12 nn) (hm:BytesIn w m ml M) (ht:BytesIn w t n X) (h:¬(ml≤65536∧n≤65536)) :
 Calls Tryz.prog 145 #[v,u,m,t] w fun e w'=>e = .returned (.tuple #[.slice none 0 0,.int .i64 6])∧w'=w:=by
 obtain ⟨xv,cv,rfl,-,-,-⟩:=hv.src
 obtain ⟨xu,cu,rfl,-,-,-⟩:=hu.src
 obtain ⟨xm,cm,rfl,-,-,-⟩:=hm.src
 obtain ⟨xt,ct,rfl,-,-,-⟩:=ht.src
 clear hv hu hm ht
 by_cases ha:ml≤65536
 · have ha':¬(65536:Int)<(ml:Int):=by omega
   have hb':(65536:Int)<(n:Int):=by omega
   clear h ha
   go_enter Tryz.func145,Tryz.ntmps145
   go_wp2
   go_ret2
   exact ⟨rfl,rfl⟩
 · have ha':(65536:Int)<(ml:Int):=by omega
   clear h ha
   go_enter Tryz.func145,Tryz.ntmps145
   go_wp2
   go_ret2
   exact ⟨rfl,rfl⟩
set_option maxHeartbeats 2000000 in
theorem rOpen_bad (v u m t:Value) (a b ml n:Nat) (ks nn M X:Nat→Nat) (w:World) (hv:BytesIn w v a ks) (hu:BytesIn w u b nn) (hm:BytesIn w m ml M) (ht:BytesIn w t n X) (h:¬(a=16∧b=12)) :
 Calls Tryz.prog 149 #[v,u,m,t] w fun e w'=>e = .returned (.tuple #[.slice none 0 0,.int .i64 1])∧w'=w:=by
 obtain ⟨xv,cv,rfl,-,-,-⟩:=hv.src
 obtain ⟨xu,cu,rfl,-,-,-⟩:=hu.src
 obtain ⟨xm,cm,rfl,-,-,-⟩:=hm.src
 obtain ⟨xt,ct,rfl,-,-,-⟩:=ht.src
 clear hv hu hm ht
 by_cases ha:a=16
 · subst ha
   have hb':¬(b:Int)=12:=by omega
   clear h
   go_enter Tryz.func149,Tryz.ntmps149
   go_wp2
   go_ret2
   exact ⟨rfl,rfl⟩
 · have ha':¬(a:Int)=16:=by omega
   clear h ha
   go_enter Tryz.func149,Tryz.ntmps149
   go_wp2
   go_ret2
   exact ⟨rfl,rfl⟩
set_option maxHeartbeats 2000000 in
theorem rOpen_size (v u m t:Value) (ml n:Nat) (ks nn M X:Nat→Nat) (w:World) (hv:BytesIn w v 16 ks) (hu:BytesIn w u 12 nn) (hm:BytesIn w m ml M) (ht:BytesIn w t n X) (h:¬(ml≤65536∧n≤65552)) :
 Calls Tryz.prog 149 #[v,u,m,t] w fun e w'=>e = .returned (.tuple #[.slice none 0 0,.int .i64 6])∧w'=w:=by
 obtain ⟨xv,cv,rfl,-,-,-⟩:=hv.src
 obtain ⟨xu,cu,rfl,-,-,-⟩:=hu.src
 obtain ⟨xm,cm,rfl,-,-,-⟩:=hm.src
 obtain ⟨xt,ct,rfl,-,-,-⟩:=ht.src
 clear hv hu hm ht
 by_cases ha:ml≤65536
 · have ha':¬(65536:Int)<(ml:Int):=by omega
   have hb':(65552:Int)<(n:Int):=by omega
   clear h ha
   go_enter Tryz.func149,Tryz.ntmps149
   go_wp2
   go_ret2
   exact ⟨rfl,rfl⟩
 · have ha':(65536:Int)<(ml:Int):=by omega
   clear h ha
   go_enter Tryz.func149,Tryz.ntmps149
   go_wp2
   go_ret2
   exact ⟨rfl,rfl⟩
set_option maxHeartbeats 2000000 in
theorem rOpen_short (v u m t:Value) (ml n:Nat) (ks nn M X:Nat→Nat) (w:World) (hv:BytesIn w v 16 ks) (hu:BytesIn w u 12 nn) (hm:BytesIn w m ml M) (ht:BytesIn w t n X) (hml:ml≤65536) (hn:n<16) :
 Calls Tryz.prog 149 #[v,u,m,t] w fun e w'=>e = .returned (.tuple #[.slice none 0 0,.int .i64 32])∧Below w.heap.size w w':=by
 obtain ⟨xv,cv,rfl,-,-,-⟩:=hv.src
 obtain ⟨xu,cu,rfl,-,-,-⟩:=hu.src
 obtain ⟨xm,cm,rfl,-,-,-⟩:=hm.src
 obtain ⟨xt,ct,rfl,-,-,-⟩:=ht.src
 have ha':¬(65536:Int)<(ml:Int):=by omega
 have hb':¬(65552:Int)<(n:Int):=by omega
 have hc':(n:Int) - 16<0:=by omega
 have hd':IntKind.i64.wrap ((n:Int) - 16)=(n:Int) - 16:=by simp only [IntKind.wrap_i64];omega
 have b0:Below w.heap.size w w.drew:=(Below.refl _ _).drew
 clear hv hu hm ht
 go_enter Tryz.func149,Tryz.ntmps149
 go_wp2
 go_region
 go_wp2
 go_ret2
 exact ⟨rfl,b0⟩
theorem own_downR {base base':Nat} {w:World} {v:Value} {n:Nat} {X:Nat→Nat} (h:Own base w v n X) (hb:base'≤base):Own base' w v n X :=
 ⟨h.1,h.2.imp id fun ⟨g,cap,cur,e,h1,h2⟩=>⟨g,cap,cur,e,Nat.le_trans hb h1,h2⟩⟩
set_option maxRecDepth 20000 in
set_option maxHeartbeats 8000000 in
theorem rOpen_long (v u m t:Value) (ml k:Nat) (ks nn M X:Nat→Nat) (hml:ml≤65536) (hk:k≤65536) (hks:∀ j,ks j<256) (hnn:∀ j,nn j<256) (hM:∀ j,M j<256) (hX:∀ j,X j<256) (w:World) (hv:BytesIn w v 16 ks) (hu:BytesIn w u 12 nn) (hm:BytesIn w m ml M) (ht:BytesIn w t (k+16) X) :
 Calls Tryz.prog 149 #[v,u,m,t] w fun e w'=>(S16 (tgN ks nn ml M k X) (fun j=>X (k+j))→∃ s,e = .returned (.tuple #[s,.int .i64 0])∧Own w.heap.size w' s k (trN ks nn X))∧(¬S16 (tgN ks nn ml M k X) (fun j=>X (k+j))→e = .returned (.tuple #[.slice none 0 0,.int .i64 32]))∧Below w.heap.size w w':=by
 obtain ⟨bb,ob,ct,rfl,hbb,hct,hcell⟩:=ht.resolve_left (fun ⟨_,_,h⟩=>by omega)
 have hd:BytesIn w (.slice (some ⟨bb,ob,none⟩) k ct) k X := .inr ⟨bb,ob,ct,rfl,hbb,by omega,fun j hj=>hcell j (by omega)⟩
 have c2:=fun W hb=>rtag_any v u m (.slice (some ⟨bb,ob,none⟩) k ct) ml k ks nn M X (by omega) (by omega) hks hnn hM hX W (hv.keep hb) (hu.keep hb) (hm.keep hb) (hd.keep hb)
 have c3:=fun W hb=>turned_r v u (.slice (some ⟨bb,ob,none⟩) k ct) k ks nn X (by omega) hks hnn hX W (hv.keep hb) (hu.keep hb) (hd.keep hb)
 have hTB:B16 (tgN ks nn ml M k X):=fun j hj=>xor_byte (ctB_B hks hnn 1 j hj) (hsN_lt _ _ _ j)
 have cv2:∀ W,Below w.heap.size w W→∀ c,(convert 22 9 (.slice (some ⟨bb,ob+k,none⟩) 16 c)).run Tryz.prog W = .ok (.string (strB 16 (fun j=>X (k+j)))) W:=fun W hb c=>conv_bytes W bb (ob+k) 16 c _ (fun j=>hX _) (fun j hj=>by
  have:=(hb.cell (p:=⟨bb,ob+(k+j),none⟩) hbb).trans (hcell (k+j) (by omega))
  rwa [←Nat.add_assoc] at this)
 have hiff:S16 (tgN ks nn ml M k X) (fun j=>X (k+j))↔((strB 16 (tgN ks nn ml M k X)).toList == (strB 16 (fun j=>X (k+j))).toList)=true:=by
  refine ⟨fun h => ?_,fun h => ?_⟩
  · rw [strB_congr h];simp
  · exact strB16g hTB (fun _ _=>hX _) (WideShapes.bytes_inj (by simpa [ByteArray.toList_eq] using h))
 rw [hiff]
 have cv1:=fun W g (h:RowAt .u8 W g 0 16 (tgN ks nn ml M k X)) W' hb c=>conv16g h hTB (W':=W') hb c
 generalize tgN ks nn ml M k X=T at *
 generalize trN ks nn X=Tr at *
 obtain ⟨B,hB⟩:∃ B,B=((strB 16 T).toList == (strB 16 (fun j=>X (k+j))).toList):=⟨_,rfl⟩
 rw [←hB]
 have hB':=hB.symm
 generalize strB 16 T=S1 at *
 generalize strB 16 (fun j=>X (k+j))=S2 at *
 obtain ⟨xv,cv,rfl,-,-,-⟩:=hv.src
 obtain ⟨xu,cu,rfl,-,-,-⟩:=hu.src
 obtain ⟨xm,cm,rfl,-,-,-⟩:=hm.src
 obtain ⟨n,hn⟩:∃ n,n=k+16:=⟨_,rfl⟩
 rw [←hn]
 have ha':¬(65536:Int)<(ml:Int):=by omega
 have hb':¬(65552:Int)<(n:Int):=by omega
 have hc':(n:Int) - 16=(k:Int):=by omega
 have hd':IntKind.i64.wrap ((n:Int) - 16)=(k:Int):=by simp only [IntKind.wrap_i64];omega
 have i1:(0:Int)≤(k:Int)∧(k:Int)≤(n:Int):=by omega
 have i2:(k:Int)≤(ct:Int):=by omega
 have i3:n - k=16:=by omega
 have i5:(n:Int)≤(ct:Int):=by omega
 have i6:(n:Int) - (k:Int)=16:=by omega
 have i7:¬ct=k:=by omega
 have i8:decide ((k:Int)<0)=false:=decide_eq_false (by omega)
 have b0:Below w.heap.size w w.drew:=(Below.refl _ _).drew
 have c2':=c2 w.drew b0
 clear hv hu hm ht hks hnn hM hX hd hTB hcell c2 hn hct hB hiff
 go_enter Tryz.func149,Tryz.ntmps149
 go_upto_region 6 with (fail)
 refine wp_region_noPanic ?_
 refine wp_region_held_drew (S:=fun u=>Below w.drew.heap.size w.drew u) (by kernel_rfl) (Below.refl _ _) (fun hS => ?_)
 generalize w.drew=V at *
 refine tg 0 hS ?_
 (try simp only [pS])
 refine tg 1 hS ?_
 (try simp only [pS])
 refine tg 2 hS ?_
 (try simp only [pS])
 refine tg 3 hS ?_
 (try simp only [pS])
 refine tg 4 hS ?_
 (try simp only [pS])
 refine tg 5 hS ?_
 (try simp only [pS])
 refine tg 6 hS ?_
 (try simp only [pS])
 refine tg 7 hS ?_
 (try simp only [pS])
 refine tg 8 hS ?_
 (try simp only [pS])
 refine tg 11 hS ?_
 (try simp only [pS])
 refine tg 12 hS ?_
 (try simp only [pS])
 refine tg 13 hS ?_
 (try simp only [pS])
 refine tg 14 hS (v := .string S2) ?_ (hy:=fun u hu=>by
  have hq:=cv2 u (below_next b0 hu)
  go_simp)
 (try simp only [pS])
 refine cn 9 c2' ?_
 rintro e V2 ⟨s2,rfl,⟨g2,k2,hs2,hg2,hk2,r2⟩,hb2⟩
 subst hs2
 refine ⟨_,rfl,hb2,?_⟩
 have b2:=below_next b0 hb2
 have hS2:Below V2.heap.size V2 V2:=Below.refl _ _
 (try simp only [pS])
 refine tg 10 hS2 (v := .string S1) ?_ (hy:=fun u hu=>by
  have hq:=cv1 V2 g2 r2 u hu k2
  go_simp)
 (try simp only [pS])
 refine tg 15 hS2 (v := .bool (!B)) ?_
 (try simp only [pS])
 refine tg 16 hS2 (v := .bool (!B)) ?_
 (try simp only [pS])
 refine wpAnyH_done (by kernel_rfl) ?_ _
 refine NoPanic.normal ?_
 have c3':=c3 V2 b2
 clear c3 cv1 cv2 r2 hS hS2 hb2 hB'
 cases B with
 | false =>
  go_wp2
  go_ret2
  exact ⟨rfl,b2⟩
 | true =>
  go_wp2_with (go_at_call 201;refine c3'.mono ?_;clear c3';rintro e w9 ⟨s9,rfl,own9,b9⟩)
  go_ret2
  exact ⟨⟨_,rfl,own_downR own9 b2.size⟩,below_next b2 b9⟩
end Go.Proofs.YtibdhadbflfdpaaGreatDoor
namespace Go.Proofs.YtibdhadbflfdpaaGreatDoor
open Go.RowKit
def wdB (v:V8) (o:Nat):Nat→Nat
 | 0=>0
 | t+1=>wdB v o t ||| (if v.getLsbD (o+(63 - t)) then 2 ^ t else 0)
def wd (v:V8) (o:Nat):Nat:=wdB v o 64
theorem wdB_bit (v:V8) (o t:Nat):∀ n,(wdB v o n).testBit t=(decide (t<n) && v.getLsbD (o+(63 - t)))
 | 0=>by simp [wdB]
 | n+1=>by
  show (wdB v o n ||| (if v.getLsbD (o+(63 - n)) then 2 ^ n else 0)).testBit t=_
  rw [Nat.testBit_or,wdB_bit v o t n]
  by_cases e:t=n
  · subst e
    by_cases h:v.getLsbD (o+(63 - t))
    · rw [if_pos h,Nat.testBit_two_pow_self];simp [h]
    · rw [if_neg h];simp [h]
  · have e1:(if v.getLsbD (o+(63 - n))=true then 2 ^ n else 0).testBit t=false:=by
     split
     · rw [Nat.testBit_two_pow];simp;omega
     · simp
    rw [e1,Bool.or_false]
    congr 1
    exact decide_eq_decide.2 ⟨fun h=>by omega,fun h=>by omega⟩
theorem wdB_lt (v:V8) (o:Nat):∀ n,wdB v o n<2 ^ n
 | 0=>(by decide:0<1)
 | n+1=>by
  show (wdB v o n ||| (if v.getLsbD (o+(63 - n)) then 2 ^ n else 0))<2 ^ (n+1)
  refine Nat.or_lt_two_pow (Nat.lt_trans (wdB_lt v o n) (Nat.pow_lt_pow_right (by decide) (by omega))) ?_
  split
  · exact Nat.pow_lt_pow_right (by decide) (by omega)
  · exact Nat.two_pow_pos _
theorem wd_bit (v:V8) (o t:Nat):(wd v o).testBit t=(decide (t<64) && v.getLsbD (o+(63 - t))):=wdB_bit v o t 64
theorem wd_lt (v:V8) (o:Nat):wd v o<18446744073709551616:=wdB_lt v o 64
theorem word_eq {a b:Nat} (ha:a<18446744073709551616) (hb:b<18446744073709551616) (h:∀ t,t<64→a.testBit t=b.testBit t):a=b:=by
 apply Nat.eq_of_testBit_eq
 intro t
 by_cases ht:t<64
 · exact h t ht
 · have hp:18446744073709551616≤2 ^ t:=Nat.pow_le_pow_right (n:=2) (by decide) (show 64≤t by omega)
   rw [Nat.testBit_lt_two_pow (Nat.lt_of_lt_of_le ha hp),Nat.testBit_lt_two_pow (Nat.lt_of_lt_of_le hb hp)]
theorem wd_xor (u v:V8) (o:Nat):wd (u ^^^ v) o=wd u o ^^^ wd v o:=by
 refine word_eq (wd_lt _ _) (Nat.xor_lt_two_pow (n:=64) (wd_lt _ _) (wd_lt _ _)) fun t ht => ?_
 rw [Nat.testBit_xor,wd_bit,wd_bit,wd_bit,decide_eq_true ht,BitVec.getLsbD_xor]
 simp
theorem wd_zero (o:Nat):wd vZ o=0:=by
 refine word_eq (wd_lt _ _) (by decide) fun t ht => ?_
 rw [wd_bit]
 simp
theorem wd_inj {u v:V8} (h0:wd u 0=wd v 0) (h1:wd u 64=wd v 64):u=v:=by
 apply BitVec.eq_of_getLsbD_eq
 intro j hj
 by_cases h:j<64
 · have e:=congrArg (fun x=>Nat.testBit x (63 - j)) h0
   simp only [wd_bit] at e
   rw [decide_eq_true (show 63 - j<64 by omega),Bool.true_and,Bool.true_and,show 0+(63 - (63 - j))=j by omega] at e
   exact e
 · have e:=congrArg (fun x=>Nat.testBit x (127 - j)) h1
   simp only [wd_bit] at e
   rw [decide_eq_true (show 127 - j<64 by omega),Bool.true_and,Bool.true_and,show 64+(63 - (127 - j))=j by omega] at e
   exact e
theorem red_hi:∀ t,t<64→(vC:V8).getLsbD (63 - t)=(16212958658533785600:Nat).testBit t:=by decide +kernel
theorem gX_hi (v:V8):wd (gX v) 0=wd v 0 / 2 ^^^ (if v.getLsbD 127 then 16212958658533785600 else 0):=by
 refine word_eq (wd_lt _ _) (Nat.xor_lt_two_pow (n:=64) (Nat.lt_of_le_of_lt (Nat.div_le_self _ _) (wd_lt _ _)) (by split <;> decide)) fun t ht => ?_
 rw [wd_bit,decide_eq_true ht,Bool.true_and,gX_bit _ _ (by omega),Nat.testBit_xor,Nat.testBit_div_two,wd_bit,show 0+(63 - t)=63 - t by omega,red_hi t ht]
 have e1:(decide (0<63 - t) && v.getLsbD (63 - t - 1))=(decide (t+1<64) && v.getLsbD (0+(63 - (t+1)))):=by
  rw [show 63 - t - 1=0+(63 - (t+1)) by omega]
  congr 1
  exact decide_eq_decide.2 ⟨fun h=>by omega,fun h=>by omega⟩
 rw [e1]
 congr 1
 by_cases h:v.getLsbD 127
 · rw [if_pos h,h,Bool.true_and]
 · rw [if_neg h,eq_false_of_ne_true h,Bool.false_and,Nat.zero_testBit]
theorem gX_lo (v:V8):wd (gX v) 64=wd v 64 / 2 ||| wd v 0*9223372036854775808%18446744073709551616:=by
 refine word_eq (wd_lt _ _) (Nat.or_lt_two_pow (n:=64) (Nat.lt_of_le_of_lt (Nat.div_le_self _ _) (wd_lt _ _)) (Nat.mod_lt _ (by decide))) fun t ht => ?_
 show _=(wd v 64 / 2 ||| wd v 0*2 ^ 63%2 ^ 64).testBit t
 rw [wd_bit,decide_eq_true ht,Bool.true_and,gX_bit _ _ (by omega),Nat.testBit_or,Nat.testBit_div_two,wd_bit,c135' _ (by omega) (by omega),Bool.and_false,Bool.xor_false,decide_eq_true (show 0<64+(63 - t) by omega),Bool.true_and,Nat.testBit_mod_two_pow,Nat.testBit_mul_two_pow,decide_eq_true ht,Bool.true_and]
 by_cases h:t=63
 · subst h
   rw [wd_bit]
   simp
 · rw [decide_eq_true (show t+1<64 by omega),decide_eq_false (show ¬t≥63 by omega),Bool.true_and,Bool.false_and,Bool.or_false,show 64+(63 - t) - 1=64+(63 - (t+1)) by omega]
theorem wd_top (v:V8) (o t:Nat) (ht:t<64):wd v o*2 ^ t%18446744073709551616 / 9223372036854775808=if v.getLsbD (o+t) then 1 else 0:=by
 have h1:(wd v o*2 ^ t%2 ^ 64 / 2 ^ 63).testBit 0=v.getLsbD (o+t):=by
  rw [Nat.testBit_div_two_pow,Nat.testBit_mod_two_pow,Nat.testBit_mul_two_pow,wd_bit,decide_eq_true (show 0+63<64 by decide),decide_eq_true (show 0+63≥t by omega),decide_eq_true (show 0+63 - t<64 by omega),show 63 - (0+63 - t)=t by omega]
  simp
 have h2:wd v o*2 ^ t%2 ^ 64 / 2 ^ 63<2:=by
  have:wd v o*2 ^ t%2 ^ 64<2 ^ 64:=Nat.mod_lt _ (by decide)
  omega
 show wd v o*2 ^ t%2 ^ 64 / 2 ^ 63=_
 generalize wd v o*2 ^ t%2 ^ 64 / 2 ^ 63=x at *
 rw [←h1]
 rcases (show x=0∨x=1 by omega) with rfl | rfl <;> decide
theorem wd_low (v:V8):wd v 64 &&& 1=if v.getLsbD 127 then 1 else 0:=by
 have h:=wd_bit v 64 0
 rw [decide_eq_true (by decide),Bool.true_and,show 64+(63 - 0)=127 by decide] at h
 rw [←h,Nat.and_one_is_mod,Nat.testBit_zero]
 rcases Nat.mod_two_eq_zero_or_one (wd v 64) with e | e <;> simp [e]
theorem wd_next (x t:Nat):x*2 ^ t%18446744073709551616*2%18446744073709551616=x*2 ^ (t+1)%18446744073709551616:=by
 rw [Nat.pow_succ,←Nat.mul_assoc,Nat.mod_mul_mod]
abbrev blV (v:V8):Value := .agg #[.int .u64 (wd v 0),.int .u64 (wd v 64)]
theorem wd_byte (v:V8) (j:Nat):wd v (64*(j / 8)) / 2 ^ (56 - 8*(j%8))%256=byV v j:=by
 apply Nat.eq_of_testBit_eq
 intro t
 show (wd v (64*(j / 8)) / 2 ^ (56 - 8*(j%8))%2 ^ 8).testBit t=_
 unfold byV
 rw [byB_bit,Nat.testBit_mod_two_pow,Nat.testBit_div_two_pow,wd_bit]
 by_cases h:t<8
 · rw [decide_eq_true h,decide_eq_true (show t+(56 - 8*(j%8))<64 by omega),Bool.true_and,Bool.true_and,Bool.true_and]
   congr 1
   omega
 · rw [decide_eq_false h,Bool.false_and,Bool.false_and]
theorem pad_bit (X:Nat→Nat) (k i:Nat) (hi:i<128):(toV (gpadN (k+1) X)).getLsbD i=((toV (gpadN k X)).getLsbD i || (decide (i / 8=k) && (X k).testBit (7 - i%8))):=by
 rw [toV_bit _ i hi,toV_bit _ i hi]
 unfold gbitN gpadN
 by_cases h:i / 8=k
 · rw [if_pos (by omega),if_neg (by omega),decide_eq_true h,h]
   simp
 · by_cases h2:i / 8<k
   · rw [if_pos (by omega),if_pos h2,decide_eq_false h]
     simp
   · rw [if_neg (by omega),if_neg h2,decide_eq_false h]
     simp
theorem pad_word (X:Nat→Nat) (hX:∀ j,X j<256) (k:Nat) (hk:k<16):wd (toV (gpadN (k+1) X)) (64*(k / 8))=wd (toV (gpadN k X)) (64*(k / 8)) ||| X k*2 ^ (56 - 8*(k%8))%18446744073709551616:=by
 refine word_eq (wd_lt _ _) (Nat.or_lt_two_pow (n:=64) (wd_lt _ _) (Nat.mod_lt _ (by decide))) fun t ht => ?_
 show _=(_ ||| X k*2 ^ (56 - 8*(k%8))%2 ^ 64).testBit t
 rw [Nat.testBit_or,wd_bit,wd_bit,decide_eq_true ht,Bool.true_and,Bool.true_and,pad_bit _ _ _ (by omega),Nat.testBit_mod_two_pow,Nat.testBit_mul_two_pow,decide_eq_true ht,Bool.true_and]
 congr 1
 by_cases h:(64*(k / 8)+(63 - t)) / 8=k
 · rw [decide_eq_true h,decide_eq_true (show t≥56 - 8*(k%8) by omega),Bool.true_and,Bool.true_and]
   congr 1
   omega
 · rw [decide_eq_false h,Bool.false_and]
   by_cases h2:t≥56 - 8*(k%8)
   · rw [decide_eq_true h2,Bool.true_and]
     exact (Nat.testBit_lt_two_pow (Nat.lt_of_lt_of_le (hX k) (Nat.pow_le_pow_right (n:=2) (by decide) (show 8≤t - (56 - 8*(k%8)) by omega)))).symm
   · rw [decide_eq_false h2,Bool.false_and]
theorem pad_other (X:Nat→Nat) (k o:Nat) (hk:k<16) (ho:o=0∧8≤k∨o=64∧k<8):wd (toV (gpadN (k+1) X)) o=wd (toV (gpadN k X)) o:=by
 refine word_eq (wd_lt _ _) (wd_lt _ _) fun t ht => ?_
 rw [wd_bit,wd_bit,pad_bit _ _ _ (by omega),decide_eq_false (show ¬(o+(63 - t)) / 8=k by omega)]
 simp
theorem pad_none (X:Nat→Nat):toV (gpadN 0 X)=vZ:=by
 rw [←toV_zero]
 exact toV_S fun j _=>by unfold gpadN;rw [if_neg (by omega)]
def lnV (m d:Nat):V8:=toV (cat 8 (lnN m) (lnN d))
theorem ln_bit (n i:Nat) (hn:n<200000) (hi:i<64):(lnN n (i / 8)).testBit (7 - i%8)=(8*n).testBit (63 - i):=by
 have h8:(8*n)<2 ^ 32:=by omega
 unfold lnN
 by_cases h:i / 8<4
 · rw [if_pos h,Nat.zero_testBit]
   exact (Nat.testBit_lt_two_pow (Nat.lt_of_lt_of_le h8 (Nat.pow_le_pow_right (n:=2) (by decide) (show 32≤63 - i by omega)))).symm
 · rw [if_neg h]
   unfold be4
   show (8*n / 2 ^ (8*(3 - (i / 8 - 4)))%2 ^ 8).testBit (7 - i%8)=_
   rw [Nat.testBit_mod_two_pow,Nat.testBit_div_two_pow,decide_eq_true (show 7 - i%8<8 by omega),Bool.true_and]
   congr 1
   omega
theorem ln_words (m d:Nat) (hm:m<200000) (hd:d<200000):wd (lnV m d) 0=8*m∧wd (lnV m d) 64=8*d:=by
 refine ⟨word_eq (wd_lt _ _) (by omega) fun t ht => ?_,word_eq (wd_lt _ _) (by omega) fun t ht => ?_⟩
 · unfold lnV
   rw [wd_bit,decide_eq_true ht,Bool.true_and,toV_bit _ _ (by omega)]
   unfold gbitN cat
   rw [if_pos (by omega),ln_bit m _ hm (by omega)]
   congr 1
   omega
 · unfold lnV
   rw [wd_bit,decide_eq_true ht,Bool.true_and,toV_bit _ _ (by omega)]
   unfold gbitN cat
   rw [if_neg (by omega),show (64+(63 - t)) / 8 - 8=(63 - t) / 8 by omega,show (64+(63 - t))%8=(63 - t)%8 by omega,ln_bit d _ hd (by omega)]
   congr 1
   omega
end Go.Proofs.YtibdhadbflfdpaaGreatDoor
