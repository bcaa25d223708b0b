/- What the proof stands on: T4Q, T5Q, T4T, T4X, T4Y. -/
import Derived.Test.YtpmkiegabaidjaaGreatDoorN3laM
namespace Go.Proofs.YtpmkiegabaidjaaGreatDoor
open Go.RowKit Go.Shelf
attribute [local go_sem] Oper.semAt_some
section
variable {P:Program} {md:Region.Mode} {ops:Array Oper} {Q:Exit→Act→World→Prop} {S:World→Prop} {fuel:Nat} {listed:Array Bool} {a:Act} {w:World}
theorem wpIn_last4 {l n id:Nat} (t:Nat) (hm:P.follows .mixedOrders=true) (hd:noDefer ops=true) (ht:t+1=ops.size) (hb:backward .any ops=true) (hw:waitsAll .any ops t=true) (hS:S w.drew)
 (h:S w.drew→wpAnyH P .any ops (LastQ P ops (OnlyN Q) t) S t ((Array.replicate (t+1) false).setIfInBounds t true) a w.drew):(Code.region id ops true).wpIn (Fence.wide.inRound l) n P Q a w:=by
 refine wpIn_mono (wpIn_region_any hm (any_in hd OnlyN.stays _ _ _ _ ?_)) OnlyN.imp
 rw [←ht]
 refine wpAny_last (by omega) hb hw t _ a _ (by simp [ht]) (by simp) ?_
 exact wpAny_of_held _ _ _ _ (h hS)
theorem tn (i:Nat) (hS:S w) {oi:Oper} (h:wpAnyH P md ops Q S fuel (listed.setIfInBounds i true) (a.put oi.dst undef) w) (hi:ops.toList[i]? = some oi:=by rfl) (hw:Region.wanted oi (yielded ops a.tmps)=false:=by rfl)
 (hQ:∀ c b w,Q (.panic c) (b.put oi.dst undef) w→Q (.panic c) b w:=by exact fun _ _ _ h=>h) (hs:Region.noSelect ops=true:=by kernel_rfl) (hf:Region.free md ops listed i=true:=by kernel_rfl) (hr:(Region.ready md ops listed).contains i=true:=by kernel_rfl):wpAnyH P md ops Q S (fuel+1) listed a w :=
 tkH i oi undef hS (.inr ⟨hw,rfl⟩) h hQ (at_list hi) hs hf hr
end
def um1 (i:Int):Option Nd→Option Nd
 | some (.pr p)=>some (.pr { p with um:=insZ p.um i })
 | o=>o
def umgL (i:Int) (F:Int→Option Nd):List Int→Int→Option Nd
 | []=>F
 | x :: r=>umgL i (upn F x (um1 i (F x))) r
theorem umgL_append (i:Int) (r:List Int) (x:Int):∀ F,umgL i F (r ++ [x])=upn (umgL i F r) x (um1 i (umgL i F r x)):=by
 induction r with
 | nil=>intro F;rfl
 | cons y r ih=>intro F;exact ih _
def addN (T:Tr):Nat:=if fbL T.nd T.n=T.n then 2*T.n else T.n
def addT (T:Tr) (d:LfD):Tr:=⟨addN T,umgL (fbL T.nd T.n) (upn T.nd (2*(fbL T.nd T.n:Int)) (some (.lf d))) (pathL (fbL T.nd T.n) (addN T))⟩
theorem lfR_L {d:LfD} {z:Int} (h:lfR d z):lfL d:=by
 obtain ⟨h0,h1,h2,-,h4,h5⟩:=h
 refine ⟨by omega,by omega,by omega,?_,by omega⟩
 split at h4 <;> omega
theorem TrAt.leaves {ok:Nat→Prop} {w:World} {tb mb:Nat} {T:Tr} (h:TrAt ok w tb mb T) (m:Nat):TrAt ok (w.setCell ⟨tb,0,none⟩ (.int .i64 (m:Int))) tb mb ⟨m,T.nd⟩∧But (fun j=>j=tb) w (w.setCell ⟨tb,0,none⟩ (.int .i64 (m:Int))):=by
 have hb:But (fun j=>j=tb) w (w.setCell ⟨tb,0,none⟩ (.int .i64 (m:Int))):=⟨rfl,rfl,rfl,by simp,fun b _ hb=>Below.heap_setCell _ _ _ _ hb⟩
 obtain ⟨f,h1,h2⟩:=h.mp
 refine ⟨⟨World.cell?_setCell_same _ _ _ h.lv,by rw [World.frozen?_setCell];exact h.lf,?_,⟨f,h1.same (hb.block mb h1.lt (fun e=>h.ne e.symm)),h2.same hb.size (fun b hl ho=>hb.block b hl (fun e=>h.ntb (e ▸ ho)))⟩,h.ntb,h.nmb⟩,hb⟩
 rw [World.cell?_setCell_other _ _ _ _ (fun e=>by cases e)];exact h.st
theorem wpList_load_wd4 {P:Program} {ops:Array Oper} {rest:List Oper} {op:Oper} {a:Act} {w:World} {Q:Exit→Act→World→Prop} (hw:Region.wanted op (yielded ops a.tmps)=true) (ty:TypeId) (x:Operand) (ho:op.op = .load ty x)
 (b o:Nat) (hx:a.eval x = .pointer (some ⟨b,o,none⟩)) (cs:List Value) (d:TypeDesc) (hc:w.rangeAt b o cs)
 (hu:P.underlying ty=some d) (hd:d.isRow=true) (hi:(P.info? ty).map (·.size)=some cs.length)
 (h:wpList P ops Q rest (a.put op.dst (.agg cs.toArray)) w):wpList P ops Q (op :: rest) a w :=
 wpList_step fun K hK=>by
  simp only [hw,if_true]
  unfold Oper.wp execOp
  simp only [ho,hx,Instr.loadAt,Instr.sureAddr,Sem.run_bind,Sem.run_pure,Result.andThen_ok,run_loadVar_mid w b o ty cs d hc hu hd hi]
  exact hK _ _ h
theorem add_boxes (tb:Nat) (cs:List Value) (w:World) {W1:World} (hW:W1=(w.alloc (.cells #[pA tb 0] 23)).alloc (.cells cs.toArray 54)):RW W1 w.heap.size 0 [pA tb 0]∧RW W1 (w.heap.size+1) 0 cs∧Below w.heap.size w W1∧W1.heap.size=w.heap.size+2:=by
 have k1:=RW.fresh w [pA tb 0] 23
 have b1:Below w.heap.size w (w.alloc (.cells #[pA tb 0] 23)):=(Below.refl _ _).alloc (Nat.le_refl _) _
 have k2:=RW.fresh (w.alloc (.cells #[pA tb 0] 23)) cs 54
 have b2:Below (w.alloc (.cells #[pA tb 0] 23)).heap.size (w.alloc (.cells #[pA tb 0] 23)) W1:=by rw [hW];exact (Below.refl _ _).alloc (Nat.le_refl _) _
 rw [←hW] at k2
 rw [World.size_alloc] at k2
 exact ⟨k1.still b2,k2,below_next b1 b2,by rw [hW];simp⟩
structure TrF (ok:Nat→Prop) (w:World) (tb mb n:Nat) (f:Int→Option Value) (F:Int→Option Nd):Prop where
 lv:w.cell? ⟨tb,0,none⟩=some (.int .i64 (n:Int))
 lf:w.frozen? ⟨tb,0,none⟩=false
 st:w.cell? ⟨tb,1,none⟩=some (.map (some mb))
 mp:MpAt w mb f
 hd:HoldsN ok w f F
 ntb:¬ok tb
 nmb:¬ok mb
theorem TrAt.f {ok:Nat→Prop} {w:World} {tb mb:Nat} {T:Tr} (h:TrAt ok w tb mb T):∃ f,TrF ok w tb mb T.n f T.nd:=by
 obtain ⟨f,h1,h2⟩:=h.mp
 exact ⟨f,h.lv,h.lf,h.st,h1,h2,h.ntb,h.nmb⟩
theorem TrF.at {ok:Nat→Prop} {w:World} {tb mb n:Nat} {f:Int→Option Value} {F:Int→Option Nd} (h:TrF ok w tb mb n f F):TrAt ok w tb mb ⟨n,F⟩:=⟨h.lv,h.lf,h.st,⟨f,h.mp,h.hd⟩,h.ntb,h.nmb⟩
theorem TrF.same {ok:Nat→Prop} {w w':World} {tb mb n:Nat} {f:Int→Option Value} {F:Int→Option Nd} (h:TrF ok w tb mb n f F) (hs:w.heap.size≤w'.heap.size) (e:∀ b,b<w.heap.size→(ok b∨b=tb∨b=mb)→w'.heap[b]? = w.heap[b]?):TrF ok w' tb mb n f F:=by
 have et:=e tb (block_lt_of_cell h.lv) (.inr (.inl rfl))
 exact ⟨(World.cell?_of_block (w:=w) et).trans h.lv,(World.frozen?_of_block (w:=w) et).trans h.lf,(World.cell?_of_block (w:=w) et).trans h.st,h.mp.same (e mb h.mp.lt (.inr (.inr rfl))),h.hd.same hs (fun b hb ho=>e b hb (.inl ho)),h.ntb,h.nmb⟩
theorem TrF.wide {ok ok':Nat→Prop} {w:World} {tb mb n:Nat} {f:Int→Option Value} {F:Int→Option Nd} (h:TrF ok w tb mb n f F) (e:∀ b,b<w.heap.size→ok b→ok' b) (h1:¬ok' tb) (h2:¬ok' mb):TrF ok' w tb mb n f F:=⟨h.lv,h.lf,h.st,h.mp,h.hd.wide e,h1,h2⟩
theorem TrF.ne {ok:Nat→Prop} {w:World} {tb mb n:Nat} {f:Int→Option Value} {F:Int→Option Nd} (h:TrF ok w tb mb n f F):tb≠mb:=h.at.ne
theorem TrF.put {ok:Nat→Prop} {w:World} {tb mb n:Nat} {f:Int→Option Value} {F:Int→Option Nd} (h:TrF ok w tb mb n f F) (k:Int) (v:Value) {d:Nd} (hd:NdO ok w v d):∃ w',(Instr.mapUpdate 69 (.map (some mb)) (.int .i64 k) v).run Tryz.prog w = .ok () w'∧TrF ok w' tb mb n (upm f k (some v)) (upn F k (some d))∧But (fun j=>j=mb) w w'∧w'.heap.size=w.heap.size:=by
 obtain ⟨w',hr,hm,hb,hs⟩:=mput_any h.mp k v
 have et:=hb.block tb (block_lt_of_cell h.lv) h.ne
 exact ⟨w',hr,⟨(World.cell?_of_block (w:=w) et).trans h.lv,(World.frozen?_of_block (w:=w) et).trans h.lf,(World.cell?_of_block (w:=w) et).trans h.st,hm,(h.hd.put k hd).same hb.size (fun b hl ho=>hb.block b hl (fun e=>h.nmb (e ▸ ho))),h.ntb,h.nmb⟩,hb,hs⟩
theorem TrAt.dbt {ok:Nat→Prop} {w w':World} {tb mb:Nat} {T:Tr} (h:TrAt ok w tb mb T) (hT:DbT w) (hb:But (fun j=>j=mb∨j=tb) w w'):DbT w':=by
 have n1:3≠tb:=fun e=>by
  have c:=hT.cell 0 (by decide)
  rw [e,h.lv] at c;cases c
 have n2:3≠mb:=fun e=>by
  obtain ⟨f,h1,-⟩:=h.mp
  have c:=hT.cell 0 (by decide)
  rw [e,h1.nocell] at c;cases c
 exact ⟨Nat.lt_of_lt_of_le hT.lt hb.size,fun j hj=>hb.cell (hT.cell j hj) (fun e=>by rcases e with e | e;exact n2 e;exact n1 e)⟩
theorem LfIn.setLv {ok:Nat→Prop} {w:World} {tb mb:Nat} {T:Tr} (h:TrAt ok w tb mb T) {cs:List Value} {d:LfD} (hd:LfIn w cs d) (v:Value):LfIn (w.setCell ⟨tb,0,none⟩ v) cs d:=by
 have k:∀ {u:Value} {n:Nat} {b:Nat→Nat},BytesIn w u n b→BytesIn (w.setCell ⟨tb,0,none⟩ v) u n b:=fun hu=>((BI.all hu).put h.lv (fun z e=>by cases e) v).of (by simp)
 obtain ⟨v0,v1,v2,v4,v5,e,h0,h1,h2,h4,h5⟩:=hd
 exact ⟨v0,v1,v2,v4,v5,e,k h0,k h1,k h2,k h4,k h5⟩
end Go.Proofs.YtpmkiegabaidjaaGreatDoor
namespace Go.Proofs.YtpmkiegabaidjaaGreatDoor
open Go.RowKit Go.Shelf
section
variable {P:Program} {md:Region.Mode} {ops:Array Oper} {Q:Exit→Act→World→Prop} {S:World→Prop} {fuel:Nat} {listed:Array Bool} {a:Act} {w:World}
def waitsN (md:Region.Mode) (ops:Array Oper):Nat→Nat→Nat→Bool
 | 0,_,_=>false
 | n+1,t,i=>match ops[t]? with
  | none=>false
  | some o=>o.after.toList.any fun e=>Region.binds md e && (decide (e.on=i) || waitsN md ops n e.on i)
def waitsBut (md:Region.Mode) (ops:Array Oper) (t d:Nat):Bool:=(List.range ops.size).all fun i=>decide (i=t) || decide (i=d) || waitsN md ops 8 t i
theorem waitsBut_at {t d:Nat} (h:waitsBut md ops t d=true) {i:Nat} (hi:i<ops.size) (hne:i≠t) (hnd:i≠d):waitsN md ops 8 t i=true:=by
 unfold waitsBut at h
 have h1:=List.all_eq_true.1 h i (List.mem_range.2 hi)
 rwa [decide_eq_false hne,decide_eq_false hnd,Bool.false_or,Bool.false_or] at h1
theorem waitsN_one {n t i:Nat} (h:waitsN md ops (n+1) t i=true):∃ o e,ops[t]? = some o∧e∈o.after∧Region.binds md e=true∧(e.on=i∨waitsN md ops n e.on i=true):=by
 unfold waitsN at h
 split at h
 · cases h
 · rename_i o ho
   obtain ⟨e,he,h2⟩:=List.any_eq_true.1 h
   rw [Bool.and_eq_true,Bool.or_eq_true,decide_eq_true_eq] at h2
   exact ⟨o,e,ho,Array.mem_toList_iff.1 he,h2.1,h2.2⟩
theorem waitsN_lt (hb:backward md ops=true):∀ {n t i:Nat},waitsN md ops n t i=true→i<t
 | 0,_,_,h=>by simp [waitsN] at h
 | n+1,t,i,h=>by
  obtain ⟨o,e,ho,he,hbe,h2⟩:=waitsN_one h
  have h1:=backward_at hb ho he hbe
  rcases h2 with h2 | h2
  · omega
  · have:=waitsN_lt hb h2
    omega
def Closed (md:Region.Mode) (ops:Array Oper) (t:Nat) (l:Array Bool):Prop:=∀ k o,k<t→ops[k]? = some o→l.getD k true=true→∀ e∈o.after,Region.binds md e=true→l.getD e.on true=true
theorem waitsN_listed (hb:backward md ops=true) {t:Nat} {l:Array Bool} (hc:Closed md ops t l):∀ {n k i:Nat},k≤t→(∀ o,ops[k]? = some o→∀ e∈o.after,Region.binds md e=true→l.getD e.on true=true)→waitsN md ops n k i=true→l.getD i true=true
 | 0,_,_,_,_,h=>by simp [waitsN] at h
 | n+1,k,i,hk,h0,h=>by
  obtain ⟨o,e,ho,he,hbe,h2⟩:=waitsN_one h
  have h1:=backward_at hb ho he hbe
  have hl:=h0 o ho e he hbe
  rcases h2 with h2 | h2
  · rw [←h2];exact hl
  · exact waitsN_listed hb hc (by omega) (fun o' ho' e' he' hb'=>hc e.on o' (by omega) ho' hl e' he' hb') h2
theorem getD_stay {l:Array Bool} {i d:Nat} (h:l.getD d true=true):(l.setIfInBounds i true).getD d true=true:=by
 by_cases e:i=d
 · subst e
   by_cases hs:i<l.size
   · simp [hs]
   · simp [hs]
 · rw [getD_set_ne true e]
   exact h
theorem Closed.add {t i:Nat} {l:Array Bool} (h:Closed md ops t l) (hi:∀ o,ops[i]? = some o→∀ e∈o.after,Region.binds md e=true→l.getD e.on true=true):Closed md ops t (l.setIfInBounds i true):=fun k o hk ho hl e he hbe=>by
 by_cases e1:k=i
 · subst e1
   exact getD_stay (hi o ho e he hbe)
 · rw [getD_set_ne true (Ne.symm e1)] at hl
   exact getD_stay (h k o hk ho hl e he hbe)
theorem wpAny_lastD {t d:Nat} (ht:t<ops.size) (hb:backward md ops=true) (hw:waitsBut md ops t d=true) (htd:t<d):∀ (fuel:Nat) (listed:Array Bool) (a:Act) (w:World),listed.size=ops.size→listed.getD t true=false→listed.getD d true=true→Closed md ops t listed →
 wpAny P md ops (LastQ P ops Q t) fuel (listed.setIfInBounds t true) a w→wpAny P md ops Q (fuel+1) listed a w:=by
 intro fuel
 induction fuel with
 | zero =>
  intro listed a w hz hlt hld hcl h
  have hall:=all_listed hb hz h.1
  have hq:wpOp P ops Q t (Q .normal) a w:=h.2
  obtain ⟨o,ho⟩:∃ o,ops[t]? = some o:=⟨_,Array.getElem?_eq_getElem ht⟩
  have hmt:t∈Region.ready md ops listed:=mem_ready.2 ⟨hlt,o,ho,fun e he hbe=>by
   have h1:=backward_at hb ho he hbe
   have h2:=hall e.on (by omega) (by omega)
   have hs:e.on<listed.size:=by omega
   simp [hs] at h2 ⊢
   exact h2⟩
  refine ⟨fun h0=>(by rw [h0] at hmt;cases hmt),fun i hi => ?_⟩
  by_cases hit:i=t
  · subst hit
    exact wpOp_mono (fun a' w' h'=>wpAny_end h.1 h' _) hq
  · have:=ready_mono hi hit
    rw [h.1] at this
    cases this
 | succ fuel ih =>
  intro listed a w hz hlt hld hcl h
  by_cases hr:Region.ready md ops (listed.setIfInBounds t true)=[]
  · have hall:=all_listed hb hz hr
    have hq:wpOp P ops Q t (Q .normal) a w:=h.1 hr
    obtain ⟨o,ho⟩:∃ o,ops[t]? = some o:=⟨_,Array.getElem?_eq_getElem ht⟩
    have hmt:t∈Region.ready md ops listed:=mem_ready.2 ⟨hlt,o,ho,fun e he hbe=>by
     have h1:=backward_at hb ho he hbe
     have h2:=hall e.on (by omega) (by omega)
     have hs:e.on<listed.size:=by omega
     simp [hs] at h2 ⊢
     exact h2⟩
    refine ⟨fun h0=>(by rw [h0] at hmt;cases hmt),fun i hi => ?_⟩
    by_cases hit:i=t
    · subst hit
      exact wpOp_mono (fun a' w' h'=>wpAny_end hr h' _) hq
    · have:=ready_mono hi hit
      rw [hr] at this
      cases this
  · obtain ⟨o,ho⟩:∃ o,ops[t]? = some o:=⟨_,Array.getElem?_eq_getElem ht⟩
    obtain ⟨j,hj⟩:=List.exists_mem_of_ne_nil _ hr
    obtain ⟨hju,oj,hoj,hjall⟩:=mem_ready.1 hj
    have hjs:j<ops.size:=(Array.getElem?_eq_some_iff.1 hoj).1
    have hjt:j≠t:=fun e=>by
     subst e
     have:j<listed.size:=by omega
     simp [this] at hju
    have hnt:t ∉ Region.ready md ops listed:=fun hm=>by
     obtain ⟨-,o',ho',hall⟩:=mem_ready.1 hm
     rw [getD_set_ne true (Ne.symm hjt)] at hju
     have hjd:j≠d:=fun e=>by rw [e,hld] at hju;cases hju
     have h1:=waitsN_listed hb hcl (Nat.le_refl t) (fun o2 ho2 e he hbe=>by
      rw [ho'] at ho2
      cases ho2
      have h2:=hall e he hbe
      have h3:=backward_at hb ho' he hbe
      have hs:e.on<listed.size:=by omega
      simp [hs] at h2 ⊢
      exact h2) (waitsBut_at hw hjs hjt hjd)
     rw [hju] at h1
     cases h1
    have hsome:∃ i,i∈Region.ready md ops listed:=by
     have hex:∃ i,i<ops.size∧i≠t∧listed.getD i true=false:=⟨j,hjs,hjt,by rwa [getD_set_ne true (Ne.symm hjt)] at hju⟩
     refine Classical.byContradiction fun hno => ?_
     obtain ⟨i,hi,hit,hiu⟩:=hex
     have hall:∀ i,i<ops.size→i≠t→listed.getD i true=true:=by
      intro i
      induction i using Nat.strongRecOn with
      | ind i ihh =>
       intro hi hne
       cases hc:listed.getD i true with
       | true=>rfl
       | false =>
        exfalso
        by_cases hti:∃ e∈ops[i].after,Region.binds md e=true∧e.on=t
        · obtain ⟨e1,he1,hb1,h1t⟩:=hti
          have g2:=waitsN_lt hb (waitsBut_at hw hi hne (fun e=>by rw [e,hld] at hc;cases hc))
          have g1:=backward_at hb (Array.getElem?_eq_getElem hi) he1 hb1
          omega
        · refine hno ⟨i,mem_ready.2 ⟨hc,ops[i],Array.getElem?_eq_getElem hi,fun e he hbe => ?_⟩⟩
          have hlt':=backward_at hb (Array.getElem?_eq_getElem hi) he hbe
          have h1:=ihh e.on hlt' (by omega) (fun het=>hti ⟨e,he,hbe,het⟩)
          have hs:e.on<listed.size:=by omega
          simp [hs] at h1 ⊢
          exact h1
     rw [hall i hi hit] at hiu
     cases hiu
    refine ⟨fun h0=>(by obtain ⟨i,hi⟩:=hsome;rw [h0] at hi;cases hi),fun i hi => ?_⟩
    have hit:i≠t:=fun e=>hnt (e ▸ hi)
    have h1:=h.2 i (ready_mono hi hit)
    refine wpOp_swap (Q':=LastQ P ops Q t) (fun _ _ _ h=>h) (fun h=>h) (wpOp_mono (fun a' w' h' => ?_) h1)
    refine ih (listed.setIfInBounds i true) a' w' (by simpa using hz) (by rw [getD_set_ne true hit];exact hlt) (getD_stay hld) (hcl.add (fun o2 ho2 e he hbe=>by
     obtain ⟨-,o3,ho3,h3⟩:=mem_ready.1 hi
     rw [ho3] at ho2
     cases ho2
     have h2:=h3 e he hbe
     have h4:=backward_at hb ho3 he hbe
     have hs:e.on<listed.size:=by
      have:=(Array.getElem?_eq_some_iff.1 ho3).1
      omega
     simp [hs] at h2 ⊢
     exact h2)) ?_
    rw [Array.setIfInBounds_comm _ _ hit]
    exact h'
theorem wpIn_last2 {l n id:Nat} (t:Nat) (hm:P.follows .mixedOrders=true) (hd:noDefer ops=true) (ht:t+2=ops.size) (hb:backward .any ops=true) (hw:waitsAll .any ops (t+1)=true) (hw2:waitsBut .any ops t (t+1)=true) (hS:S w.drew)
 (h:S w.drew→wpAnyH P .any ops (LastQ P ops (LastQ P ops (OnlyN Q) (t+1)) t) S t (((Array.replicate (t+2) false).setIfInBounds (t+1) true).setIfInBounds t true) a w.drew):(Code.region id ops true).wpIn (Fence.wide.inRound l) n P Q a w:=by
 refine wpIn_mono (wpIn_region_any hm (any_in hd OnlyN.stays _ _ _ _ ?_)) OnlyN.imp
 rw [←ht]
 refine wpAny_last (by omega) hb hw (t+1) _ a _ (by simp [ht]) (by simp) ?_
 refine wpAny_lastD (d:=t+1) (by omega) hb hw2 (by omega) t _ a _ (by simp [ht]) (by rw [getD_set_ne true (by omega)];simp) (by simp) (fun k o hk ho hl=>by rw [getD_set_ne true (show t+1≠k by omega)] at hl;have hk2:k<t+2:=(by omega);simp [hk2] at hl) ?_
 exact wpAny_of_held _ _ _ _ (h hS)
end
end Go.Proofs.YtpmkiegabaidjaaGreatDoor
namespace Go.Proofs.YtpmkiegabaidjaaGreatDoor
open Go.RowKit Go.Shelf
theorem upF_lev (l:Int):∀ (f x:Nat) (y:Int),y∈upF l f x→∃ p:Nat,y=(p:Int)∧levN x<levN p
 | 0,_,_,h=>by simp [upF] at h
 | f+1,x,y,h=>by
  unfold upF at h
  split at h
  · rename_i p hp
    have hl:=(par_lev hp).2
    rcases List.mem_cons.1 h with rfl | h
    · exact ⟨p,rfl,by omega⟩
    · obtain ⟨q,e,hq⟩:=upF_lev l f p y h
      exact ⟨q,e,by omega⟩
  · cases h
theorem upF_nodup (l:Int):∀ (f x:Nat),(upF l f x).Nodup
 | 0,_=>by simp [upF]
 | f+1,x=>by
  unfold upF
  split
  · rename_i p hp
    refine List.nodup_cons.2 ⟨fun h => ?_,upF_nodup l f p⟩
    obtain ⟨q,e,hq⟩:=upF_lev l f p _ h
    have:p=q:=by omega
    subst this;omega
  · simp
theorem pathL_nodup (i l:Int):(pathL i l).Nodup:=by
 unfold pathL
 split
 · exact upF_nodup _ _ _
 · simp
theorem nodup_take {l:List Int} (h:l.Nodup) {k:Nat} {x:Int} (hx:l[k]? = some x):x ∉ l.take k:=fun hm=>by
 obtain ⟨j,hj⟩:=List.getElem?_of_mem hm
 have hjk:j<k:=by have:=(List.getElem?_eq_some_iff.1 hj).1;simp at this;omega
 rw [List.getElem?_take_of_lt hjk] at hj
 have:=nodup_at h hj hx
 omega
theorem umgL_out (i:Int) {x:Int}:∀ (l:List Int) (F:Int→Option Nd),x ∉ l→umgL i F l x=F x
 | [],_,_=>rfl
 | y :: r,F,h=>by
  show umgL i (upn F y _) r x=F x
  rw [umgL_out i r _ (fun hm=>h (List.mem_cons_of_mem _ hm))]
  unfold upn
  rw [if_neg (fun e=>h (by rw [e];exact List.mem_cons_self))]
theorem lastZ_eq (l:List Int):∀ k,lastZ l k=if k=0 then -1 else zat l (k - 1)
 | 0=>rfl
 | k+1=>by simp [lastZ]
theorem risU_at4 {l:List Int}:∀ n,risU l n=true→∀ k,k<n→lastZ l k<zat l k∧zat l k<64
 | 0,_,k,hk=>by omega
 | n+1,h,k,hk=>by
  simp only [risU,Bool.and_eq_true,decide_eq_true_eq] at h
  by_cases e:k=n
  · subst e;exact h.2
  · exact risU_at4 n h.1 k (by omega)
theorem zat_some {l:List Int} {k:Nat} {z:Int} (h:l[k]? = some z):zat l k=z:=by unfold zat;rw [h];rfl
theorem risU_more {l:List Int} (h:risU l l.length=true):∀ (d i:Nat),i+d<l.length→zat l i+(d:Int)≤zat l (i+d)
 | 0,i,_=>by simp
 | d+1,i,hi=>by
  have h1:=risU_more h d i (by omega)
  have h2:=(risU_at4 _ h (i+d+1) (by omega)).1
  rw [lastZ_eq,if_neg (by omega)] at h2
  simp only [Nat.add_sub_cancel] at h2
  rw [show i+(d+1)=i+d+1 by omega]
  omega
theorem risU_rises {l:List Int} (h:risU l l.length=true):Rises l∧l.length≤64∧∀ z∈l,0≤z∧z<64:=by
 have h0:∀ k,k<l.length→(k:Int)≤zat l k:=fun k hk=>by
  have h1:=risU_more h k 0 (by omega)
  have h2:=(risU_at4 _ h 0 (by omega)).1
  simp only [lastZ] at h2
  rw [Nat.zero_add] at h1
  omega
 refine ⟨fun i j a b hi hj hl => ?_,?_,fun z hz => ?_⟩
 · have hj':=(List.getElem?_eq_some_iff.1 hj).1
   have h1:=risU_more h (j - i) i (by omega)
   rw [show i+(j - i)=j by omega,zat_some hi,zat_some hj] at h1
   omega
 · by_cases hl:l.length=0
   · omega
   · have h1:=(risU_at4 _ h (l.length - 1) (by omega)).2
     have h2:=h0 (l.length - 1) (by omega)
     omega
 · obtain ⟨k,hk⟩:=List.getElem?_of_mem hz
   have hk':=(List.getElem?_eq_some_iff.1 hk).1
   have h1:=(risU_at4 _ h k hk').2
   have h2:=h0 k hk'
   rw [zat_some hk] at h1 h2
   omega
structure AddJ (w:World) (B ib tB jb pB tb mb N:Nat) (i:Int) (ok3:Nat→Prop) (f0:Int→Option Value) (F0:Int→Option Nd) (xs:List Int) (k:Nat) (M:Nat→Prop) (W:World):Prop where
 kT:RW W tB 0 [pA tb 0]
 kI:RW W ib 0 [.int .i64 i]
 kP:RW W pB 0 [pA tb 0]
 kJ:RW W jb 0 [.int .i64 i]
 tr:∃ f,TrF (fun b=>ok3 b∨M b) W tb mb N f (umgL i F0 (xs.take k))∧∀ j x,k≤j→xs[j]? = some x→f x=f0 x
 bt:But (fun j=>j=mb∨j=tb) w W
 mB:∀ b,M b→B≤b
theorem Loc.but {B:Nat} {M:Nat→Prop} {W W':World} (h:Loc B M W W') (w:World) (hw:w.heap.size≤B) (hW:w.heap.size≤W.heap.size) {bad:Nat→Prop} (hb:But bad w W):But bad w W' :=
 ⟨h.os.trans hb.os,h.tape.trans hb.tape,h.output.trans hb.output,Nat.le_trans hb.size h.size,fun k hk hn=>(h.block k (by omega) (.inl (by omega))).trans (hb.block k hk hn)⟩
theorem AddJ.loc {w:World} {B ib tB jb pB tb mb N:Nat} {i:Int} {ok3:Nat→Prop} {f0:Int→Option Value} {F0:Int→Option Nd} {xs:List Int} {k:Nat} {M:Nat→Prop} {W W':World} (h:AddJ w B ib tB jb pB tb mb N i ok3 f0 F0 xs k M W) (hL:Loc B M W W') (h1:ib<B∧tB<B∧jb<B∧pB<B∧tb<B∧mb<B) (h3:∀ b,ok3 b→b<B) (hw:w.heap.size≤B):AddJ w B ib tB jb pB tb mb N i ok3 f0 F0 xs k M W':=by
 obtain ⟨f,h4,h5⟩:=h.tr
 exact ⟨hL.rw h.kT (.inl h1.2.1),hL.rw h.kI (.inl h1.1),hL.rw h.kP (.inl h1.2.2.2.1),hL.rw h.kJ (.inl h1.2.2.1),⟨f,h4.same hL.size (fun b hb ho=>hL.block b hb (by
  rcases ho with (ho | ho) | rfl | rfl
  · exact .inl (h3 b ho)
  · exact .inr ho
  · exact .inl h1.2.2.2.2.1
  · exact .inl h1.2.2.2.2.2)),h5⟩,hL.but w hw h.bt.size h.bt,h.mB⟩
end Go.Proofs.YtpmkiegabaidjaaGreatDoor
namespace Go.Proofs.YtpmkiegabaidjaaGreatDoor
open Go.RowKit Go.Shelf
def rsoF (F:Int→Option Nd):Nat→Int→List Int
 | 0,_=>[]
 | f+1,x=>match F x with
  | some (.lf _)=>[x]
  | some (.pr p)=>x :: p.um.map (fun z=>2*z)
  | none=>if innB x then rsoF F f (lftN x.toNat) ++ rsoF F f (rgtN x.toNat) else []
theorem rsoF_len {T:Tr} (hK:TrOK T):∀ (f:Nat) (x:Int),(rsoF T.nd f x).length≤65*2 ^ f
 | 0,_=>by simp [rsoF]
 | f+1,x=>by
  have h1:=fun y=>rsoF_len hK f y
  have hp:65*2 ^ (f+1)=65*2 ^ f+65*2 ^ f:=by rw [Nat.pow_succ];omega
  have hq:1≤2 ^ f:=Nat.one_le_two_pow
  unfold rsoF
  split
  · simp;omega
  · rename_i p hp'
    have:=(risU_rises (hK.pr x p hp').2.2.2).2.1
    simp;omega
  · split
    · have a:=h1 (lftN x.toNat);have b:=h1 (rgtN x.toNat)
      simp;omega
    · simp
theorem OwnZ.one (base:Nat) (w:World) (x:Int) (h:base≤w.heap.size):OwnZ base (w.alloc (.cells #[.int .i64 x] 3)) (.slice (some ⟨w.heap.size,0,none⟩) 1 1) [x]:=World.ownsRow_lit w #[.int .i64 x] 1 h (by decide) rfl
theorem OwnZ.mono {base base':Nat} {w:World} {v:Value} {l:List Int} (h:OwnZ base w v l) (hb:base'≤base):OwnZ base' w v l:=by
 obtain ⟨h1,h2 | ⟨g,cap,cur,e,h3,h4⟩⟩:=h
 · exact ⟨h1,.inl h2⟩
 · exact ⟨h1,.inr ⟨g,cap,cur,e,Nat.le_trans hb h3,h4⟩⟩
theorem innB_parts {x:Int} (h:innB x=true):0≤x∧x<127∧lftN x.toNat<127∧rgtN x.toNat<127∧levN (lftN x.toNat)+1=levN x.toNat∧levN (rgtN x.toNat)+1=levN x.toNat:=by
 simp only [innB,Bool.and_eq_true,decide_eq_true_eq] at h
 obtain ⟨⟨h0,h1⟩,h2⟩:=h
 have e:x.toNat<127∧x.toNat%2=1:=by omega
 have hl:=lev_parts x.toNat e.1 e.2
 have ht:=left_tab x.toNat e.1 e.2
 have hb:∀ y,y<127→y%2=1→lftN y<127∧rgtN y<127:=by decide
 have:=hb x.toNat e.1 e.2
 omega
set_option maxRecDepth 20000 in
set_option maxHeartbeats 4000000 in
theorem resolution_any (ok:Nat→Prop) (tb mb:Nat) (T:Tr) (hK:TrOK T):∀ (f:Nat) (x:Int),f≤7→0≤x→x<127→levN x.toNat<f→∀ w:World,DbT w→TrAt ok w tb mb T →
 Calls Tryz.prog 108 #[pA tb 0,.int .i64 x] w fun e w'=>∃ v,e = .returned v∧OwnZ w.heap.size w' v (rsoF T.nd f x)∧Below w.heap.size w w':=by
 intro f
 induction f with
 | zero=>intro x _ _ _ h;omega
 | succ f ih =>
  intro x hf hx0 hx1 hlev w hT h
  obtain ⟨fm,hF⟩:=h.f
  have hst:=h.st
  have hlk:=look_any hF.mp x
  rcases hF.hd.look x with ⟨e1,e2⟩ | ⟨nd,v,e1,e2,hnd⟩
  · have hta:=fun W=>ta_ln W
    have htb:=fun W=>ta_pn W
    rw [e2] at hlk
    simp only [Option.getD_none] at hlk
    unfold zLf at hta
    unfold zPr at htb
    have cL:=iLeft_any x w hT
    by_cases hin:innB x=true
    · obtain ⟨-,-,l1,l2,l3,l4⟩:=innB_parts hin
      have er:rsoF T.nd (f+1) x=rsoF T.nd f (lftN x.toNat) ++ rsoF T.nd f (rgtN x.toNat):=by rw [rsoF,e1];simp only [hin,if_true]
      have cA:=fun W hW1 hW2=>ih (lftN x.toNat) (by omega) (by omega) (by omega) (by rw [Int.toNat_natCast];omega) W hW1 hW2
      have cB:=fun W hW1 hW2=>ih (rgtN x.toNat) (by omega) (by omega) (by omega) (by rw [Int.toNat_natCast];omega) W hW1 hW2
      have cR:=fun W hW=>iRight_any x W hW
      have hlA:=rsoF_len hK f (lftN x.toNat)
      have hlB:=rsoF_len hK f (rgtN x.toNat)
      have h27:65*2 ^ f≤8320:=by
       have:2 ^ f≤2 ^ 7:=Nat.pow_le_pow_right (by decide) (by omega)
       omega
      have ea:lftA x=((lftN x.toNat:Int),true):=by unfold lftA;rw [if_pos hin]
      have eb:rgtA x=((rgtN x.toNat:Int),true):=by unfold rgtA;rw [if_pos hin]
      rw [ea] at cL
      rw [eb] at cR
      rw [er]
      generalize lftN x.toNat=a at *
      generalize rgtN x.toNat=b at *
      have HT:=Hid.mk' hT
      have Hh:=Hid.mk' h
      have Hla:=Hid.mk' (And.intro hlA (And.intro hlB h27))
      clear ih hF e1 e2 er h hT ea eb hin l1 l2 l3 l4 hlA hlB h27 hlev hf hx0 hx1
      go_enter Tryz.func108,Tryz.ntmps108
      go_wp2_with (first
       | (go_at_call 44;refine cL.mono ?_;clear cL;rintro e w1 ⟨rfl,b1⟩)
       | (go_at_call 45;refine (cR w1 (HT.out.keep b1)).mono ?_;clear cR;rintro e w2 ⟨rfl,b2⟩;(replace b2:=below_next b1 b2))
       | (go_at_call 108;refine (cA w2 (HT.out.keep b2) (Hh.out.below b2)).mono ?_;clear cA;rintro e w3 ⟨v3,rfl,o3,b3⟩;(have b3w:=below_next b2 b3);(obtain ⟨x3,c3,rfl⟩:=o3.slice))
       | (go_at_call 108;refine (cB w3 (HT.out.keep b3w) (Hh.out.below b3w)).mono ?_;clear cB;rintro e w4 ⟨v4,rfl,o4,b4⟩;(have b4w:=below_next b3w b4);(replace o3:=o3.below b4);(have z4:=ZO.own o4);(obtain ⟨x4,c4,rfl⟩:=o4.slice);(have s2:=b2.size);(have s4:=b4w.size);(have s34:=Nat.le_trans b3.size b4.size))
       | (at_builtin;refine wpList_append_zs rfl (.tmp 58) (.tmp 61) rfl w2.heap.size _ _ _ rfl o3 _ _ _ rfl z4 (by have:=Hla.out;omega) s34 ?_;intro v5 w5 o5 _ _ b5))
      go_ret
      refine ⟨_,rfl,?_,b4w.trans (b5.mono s2)⟩
      exact OwnZ.mono o5 s2
    · have ea:lftA x=(-1,false):=by unfold lftA;rw [if_neg hin]
      have er:rsoF T.nd (f+1) x=[]:=by rw [rsoF,e1];simp [hin]
      rw [ea] at cL
      rw [er]
      clear ih hF e1 e2 er h hT ea hin
      go_enter Tryz.func108,Tryz.ntmps108
      go_wp2_with (go_at_call 44;refine cL.mono ?_;clear cL;rintro e w1 ⟨rfl,b1⟩)
      go_ret
      exact ⟨_,rfl,OwnZ.nil _ _,b1⟩
  · cases nd with
    | lf d =>
     obtain ⟨cs,rfl,hO⟩:=hnd
     have hr:=hO.of.row
     have hta:=fun W=>ta_ll (.agg cs.toArray) W
     rw [e2] at hlk
     simp only [Option.getD_some] at hlk
     have hi:=iszL cs.toArray (by simpa using hr.1)
     have th:=fun W=>thLf4 W cs.toArray (by simpa using hr.1)
     have er:rsoF T.nd (f+1) x=[x]:=by unfold rsoF;rw [e1]
     rw [er]
     clear ih hF hO e1 e2 er h hT
     go_enter Tryz.func108,Tryz.ntmps108
     go_wp2_with (refine wpList_store_mid rfl 117 _ _ rfl _ 0 cs.toArray rfl rfl (th _) hi hr.2 ?_;obtain ⟨X,hX⟩:∃ X,X=(w.alloc (.cells #[.slice none 0 0,.slice none 0 0,.slice none 0 0,.int .i64 0,.slice none 0 0,.slice none 0 0] 117)).setCells w.heap.size 0 cs.toArray.toList:=⟨_,rfl⟩;rw [←hX];have bX:=(stLf4 w cs.toArray (by simpa using hr.1) hX).2;clear hX)
     go_ret
     exact ⟨_,rfl,OwnZ.one _ _ _ bX.size,bX.trans (((Below.refl _ _).alloc (Nat.le_refl _) _).mono bX.size)⟩
    | pr p =>
     obtain ⟨cs,rfl,hO⟩:=hnd
     have hr:cs.length=3∧cs.toArray.all (·.oneCell')=true:=by
      obtain ⟨x0,c0,x1,c1,x2,c2,rfl,-⟩:=hO.form
      exact ⟨rfl,by rw [List.all_toArray];simp [Value.oneCell']⟩
     have hta:=fun W=>ta_lp (.agg cs.toArray) W
     have htb:=fun W=>ta_pp (.agg cs.toArray) W
     rw [e2] at hlk
     simp only [Option.getD_some] at hlk
     have hi:=iszP cs.toArray (by simpa using hr.1)
     have th:=fun W=>thPr4 W cs.toArray (by simpa using hr.1)
     have er:rsoF T.nd (f+1) x=x :: p.um.map (fun z=>2*z):=by unfold rsoF;rw [e1]
     obtain ⟨-,hl64,hum⟩:=risU_rises (hK.pr x p e1).2.2.2
     rw [er]
     unfold zLf at hta
     obtain ⟨X,hX⟩:∃ X,X=(w.alloc (.cells #[.slice none 0 0,.slice none 0 0,.slice none 0 0] 121)).setCells w.heap.size 0 cs:=⟨_,rfl⟩
     obtain ⟨kX,bX⟩:=stPr4 w cs.toArray (by simpa using hr.1) hX
     rw [List.toList_toArray] at kX
     obtain ⟨x0,c0,x1,c1,x2,c2,ecs,-,-,hz⟩:=hO.form
     have hzX:=hz.keep bX
     rw [ecs] at kX
     have q2:=kX.range 2 _ rfl
     rw [Nat.zero_add] at q2
     have HX:=Hid.mk' hX
     obtain ⟨X2,hX2⟩:∃ X2,X2=X.alloc (.cells #[.int .i64 x] 3):=⟨_,rfl⟩
     have oX2:=OwnZ.one w.heap.size X x bX.size
     rw [←hX2] at oX2
     have bX2:Below X.heap.size X X2:=by rw [hX2];exact (Below.refl _ _).alloc (Nat.le_refl _) _
     have q22:=(kX.still bX2).range 2 _ rfl
     rw [Nat.zero_add] at q22
     have bw2:=below_next bX bX2
     have hzX2:=hz.keep bw2
     have HX2:=Hid.mk' hX2
     have Hum:=Hid.mk' hum
     have Hz:=Hid.mk' hz
     have hsX:=bX.size
     clear ih hzX hzX2 hF hO e1 e2 er h hT hX hX2 hum hz hK ecs kX
     go_enter Tryz.func108,Tryz.ntmps108
     go_wp2_with (first
      | (refine wpList_store_mid rfl 121 _ _ rfl _ 0 cs.toArray rfl rfl (th _) hi hr.2 ?_;rw [List.toList_toArray,←HX.out];clear HX th)
      | (rw [←HX2.out];clear HX2 q2))
     clear q22
     go_loopw [7,33] (fun o s wr=>∃ k:Nat,k≤p.um.length∧s = .int .i64 (k:Int)∧(∃ xo co,o = .slice xo (k+1) co∧OwnZ w.heap.size wr (.slice xo (k+1) co) (x :: (p.um.take k).map fun z=>2*z))∧Below w.heap.size w wr) (fun _ s _=>p.um.length - (intOf s).toNat)
     case atStart=>exact ⟨0,Nat.zero_le _,rfl,⟨_,_,rfl,oX2⟩,bw2⟩
     case round =>
      clear oX2 bw2 bX bX2
      obtain ⟨k,hk,rfl,⟨xo,co,rfl,own⟩,hb⟩:=hrel
      by_cases hlt:k<p.um.length
      · have hlt':(k:Int)<(p.um.length:Int):=by omega
        have hk0:(0:Int)≤(k:Int):=by omega
        obtain ⟨z,hz⟩:∃ z,p.um[k]? = some z:=⟨_,List.getElem?_eq_getElem hlt⟩
        obtain ⟨xa,ca,e,hca,-,hzc⟩:=Hz.out.keep hb
        cases e
        obtain ⟨g,o,rfl,-,-,hgc⟩:=hzc k z hz
        have hzr:=Hum.out z (List.mem_of_getElem? hz)
        have cP:=placeOf_any z ⟨hzr.1,by omega⟩
        have e9:(x :: (p.um.take k).map fun z=>2*z) ++ [2*z]=x :: (p.um.take (k+1)).map fun z=>2*z:=by
         rw [List.take_add_one,hz];simp
        have hll:(x :: (p.um.take k).map fun z=>2*z).length=k+1:=by simp;omega
        have Hl:=Hid.mk' hll
        have He:=Hid.mk' e9
        have hbs:=hb.size
        clear hzc hzr hll e9
        go_wp2_with (first
         | (go_at_call 89;refine (cP _).mono ?_;clear cP;rintro e w1 ⟨rfl,rfl⟩)
         | (at_builtin;refine wpList_append_z rfl (.tmp 37) (.tmp 40) rfl w.heap.size _ _ (2*z) rfl own rfl (by rw [Hl.out];omega) hbs ?_;intro v2 w2 own2 hb2;rw [He.out] at own2;(obtain ⟨y2,d2,rfl⟩:=own2.slice)))
        have hl2:(x :: (p.um.take (k+1)).map fun z=>2*z).length=k+1+1:=by simp;omega
        have hm:min (k+1) p.um.length+1=k+1+1:=by omega
        rw [hl2] at own2
        exact ⟨⟨k+1,hlt,by simp,⟨y2,d2,by rw [hm],own2⟩,hb.trans hb2⟩,by simp [intOf];omega⟩
      · obtain rfl:k=p.um.length:=by omega
        have hlt':¬((p.um.length:Nat):Int)<(p.um.length:Int):=by omega
        rw [List.take_length] at own
        go_wp2
        go_ret
        exact ⟨_,rfl,own,hb⟩
end Go.Proofs.YtpmkiegabaidjaaGreatDoor
namespace Go.Proofs.YtpmkiegabaidjaaGreatDoor
open Go.RowKit Go.Shelf
attribute [local go_sem] Oper.semAt_some
section
variable {P:Program} {n:Nat} {md:Region.Mode} {ops:Array Oper} {Q:Exit→Act→World→Prop} {fuel:Nat} {listed:Array Bool} {a:Act} {w:World}
theorem yg (i:Nat) {oi:Oper} {v:Value} (h:wpAnyIn Fence.wide n P md ops Q fuel (listed.setIfInBounds i true) (a.put oi.dst v) w) (hi:ops.toList[i]? = some oi:=by rfl)
 (hy:∀ w,(execOp a.eval oi).run P w = .ok (.value v) w:=by intro w;go_simp;try with_reducible rfl) (hab:∀ w,oi.about P w a.eval=none:=by intro w;rfl) (hw:Region.wanted oi (yielded ops a.tmps)=true:=by rfl)
 (hQ:∀ c b w,Q (.panic c) (b.put oi.dst v) w→Q (.panic c) b w:=by exact fun _ _ _ h=>h) (hs:Region.noSelect ops=true:=by kernel_rfl) (hf:Region.free md ops listed i=true:=by kernel_rfl) (hr:(Region.ready md ops listed).contains i=true:=by kernel_rfl):wpAnyIn Fence.wide n P md ops Q (fuel+1) listed a w :=
 wpAnyIn_take rfl (at_list hi) hs hf hr hQ ⟨.inl ⟨hw,hy⟩,hab⟩ h
theorem yn (i:Nat) {oi:Oper} (h:wpAnyIn Fence.wide n P md ops Q fuel (listed.setIfInBounds i true) (a.put oi.dst undef) w) (hi:ops.toList[i]? = some oi:=by rfl) (hab:∀ w,oi.about P w a.eval=none:=by intro w;rfl) (hw:Region.wanted oi (yielded ops a.tmps)=false:=by rfl)
 (hQ:∀ c b w,Q (.panic c) (b.put oi.dst undef) w→Q (.panic c) b w:=by exact fun _ _ _ h=>h) (hs:Region.noSelect ops=true:=by kernel_rfl) (hf:Region.free md ops listed i=true:=by kernel_rfl) (hr:(Region.ready md ops listed).contains i=true:=by kernel_rfl):wpAnyIn Fence.wide n P md ops Q (fuel+1) listed a w :=
 wpAnyIn_take rfl (at_list hi) hs hf hr hQ ⟨.inr ⟨hw,rfl⟩,hab⟩ h
theorem yv {i:Nat} {rs:List Nat} {oi:Oper} {v:Value} {w':World} (hrun:(execOp a.eval oi).run P w = .ok (.value v) w') (h:wpAnyIn Fence.wide n P md ops Q fuel (listed.setIfInBounds i true) (a.put oi.dst v) w') (hs:AllReadyIn Fence.wide n P md ops Q fuel listed a w rs)
 (hi:ops.toList[i]? = some oi:=by rfl) (hw:Region.wanted oi (yielded ops a.tmps)=true:=by rfl):AllReadyIn Fence.wide n P md ops Q fuel listed a w (i :: rs) :=
 AllReadyIn.cons (at_list hi) (fun K hK=>by
  rw [if_pos hw]
  refine ⟨fun _ _=>trivial,?_⟩
  rw [show oi.semAt Fence.wide.round a.eval=execOp a.eval oi from rfl,hrun,Oper.uponIn_value]
  exact hK _ _ h) hs
theorem yo (i:Nat) {oi:Oper} {v:Value} {w':World} (hrun:(execOp a.eval oi).run P w = .ok (.value v) w') (h:wpAnyIn Fence.wide n P md ops Q fuel (listed.setIfInBounds i true) (a.put oi.dst v) w')
 (hi:ops.toList[i]? = some oi:=by rfl) (hr:Region.ready md ops listed=[i]:=by kernel_rfl) (hw:Region.wanted oi (yielded ops a.tmps)=true:=by rfl):wpAnyIn Fence.wide n P md ops Q (fuel+1) listed a w :=
 wpAnyIn_ready hr (by simp) (yv hrun h AllReadyIn.nil hi hw)
theorem yc (i:Nat) {oi:Oper} {f:FuncId} {args:Array Value} {R:Ending→World→Prop} (c:Calls P f args w R) (h:∀ e w',R e w'→∃ r,e = .returned r∧wpAnyIn Fence.wide n P md ops Q fuel (listed.setIfInBounds i true) (a.put oi.dst r) w')
 (hi:ops.toList[i]? = some oi:=by rfl) (hr:Region.ready md ops listed=[i]:=by kernel_rfl) (hw:Region.wanted oi (yielded ops a.tmps)=true:=by rfl) (hrun:(execOp a.eval oi).run P w = .ok (.enter f args) w:=by kernel_rfl):wpAnyIn Fence.wide n P md ops Q (fuel+1) listed a w :=
 wpAnyIn_ready hr (by simp) (AllReadyIn.cons (at_list hi) (fun K hK=>by
  rw [if_pos hw]
  refine ⟨fun _ _=>trivial,?_⟩
  rw [show oi.semAt Fence.wide.round a.eval=execOp a.eval oi from rfl,hrun,Oper.uponIn_enter]
  refine ⟨(fun h=>by cases h),(callsIn_wide.2 c).mono ?_⟩
  intro e w' hR
  obtain ⟨r,rfl,h'⟩:=h e w' hR
  exact hK _ _ h') AllReadyIn.nil)
theorem yy (i:Nat) {oi:Oper} {l:Nat} {args:Array Value} {R:Ending→World→Prop} (c:YieldAt Fence.wide 0 P l args w R) (h:∀ e w',R e w'→∃ r,e = .returned r∧wpAnyIn Fence.wide n P md ops Q fuel (listed.setIfInBounds i true) (a.put oi.dst r) w')
 (hi:ops.toList[i]? = some oi:=by rfl) (hr:Region.ready md ops listed=[i]:=by kernel_rfl) (hw:Region.wanted oi (yielded ops a.tmps)=true:=by rfl) (hrun:(execOp a.eval oi).run P w=(Instr.yield l args).run P w:=by rfl):wpAnyIn Fence.wide n P md ops Q (fuel+1) listed a w :=
 wpAnyIn_ready hr (by simp) (AllReadyIn.cons (at_list hi) (fun K hK=>by
  obtain ⟨fn,tmps,assign,body,hy,hR⟩:=c
  rw [if_pos hw]
  refine ⟨fun _ _=>trivial,?_⟩
  rw [show oi.semAt Fence.wide.round a.eval=execOp a.eval oi from rfl,hrun,hy,Oper.uponIn_round]
  refine ⟨(fun h=>by cases h),(roundIn_deep hR).mono ?_⟩
  intro e w' hR
  obtain ⟨r,rfl,h'⟩:=h e w' hR
  exact hK _ _ h') AllReadyIn.nil)
end
theorem coF_at (l:Int):∀ (f x k:Nat),(coF l f x).length=(upF l f x).length∧∀ y,(coF l f x)[k]? = some y→0≤y∧y<127∧levN y.toNat<7
 | 0,_,_=>⟨rfl,fun y h=>by simp [coF] at h⟩
 | f+1,x,k=>by
  unfold coF upF
  cases hp:parN (x:Int) l with
  | none=>exact ⟨rfl,fun y h=>by simp at h⟩
  | some p =>
   have ih:=coF_at l f p
   refine ⟨by simp [(ih 0).1],fun y h => ?_⟩
   cases k with
   | succ k=>exact (ih k).2 y (by simpa using h)
   | zero =>
    simp only [List.getElem?_cons_zero,Option.some.injEq] at h
    subst h
    have hh:=(parF_some _ _ _ hp).2.2
    have hp127:=(par_lev hp).1
    simp only [hitB,Bool.and_eq_true,Bool.or_eq_true,beq_iff_eq] at hh
    have hb:∀ y,y<127→y%2=1→lftN y<127∧rgtN y<127:=by decide
    have h1:=hb p hp127 hh.1
    have hq:=lev_parts p hp127 hh.1
    have h6:=lev_le6 hp127
    rcases hh.2 with e | e
    · rw [show (lftN p:Int)+(rgtN p:Int) - (x:Int)=(rgtN p:Int) by omega,Int.toNat_natCast];omega
    · rw [show (lftN p:Int)+(rgtN p:Int) - (x:Int)=(lftN p:Int) by omega,Int.toNat_natCast];omega
theorem copath_at (i l:Int):(copathL i l).length=(pathL i l).length∧∀ (k:Nat) (y:Int),(copathL i l)[k]? = some y→0≤y∧y<127∧levN y.toNat<7:=by
 unfold copathL pathL
 split
 · exact ⟨(coF_at l 7 _ 0).1,fun k y h=>(coF_at l 7 _ k).2 y h⟩
 · exact ⟨rfl,fun k y h=>by simp at h⟩
def rso (T:Tr) (x:Int):List Int:=rsoF T.nd 7 x
def filA (T:Tr) (xs ys:List Int) (k:Nat):Option (Array Value):=if (rso T ((ys[k]?).getD 0)).isEmpty then none else some #[.int .i64 ((xs[k]?).getD 0),.int .i64 ((ys[k]?).getD 0)]
def HasFi (ok:Nat→Prop) (ib pb tb mb:Nat) (T:Tr) (i:Int) (_:Nat) (W:World):Prop:=W.cell? ⟨pb,0,none⟩=some (pA tb 0)∧W.cell? ⟨ib,0,none⟩=some (.int .i64 i)∧DbT W∧TrAt ok W tb mb T
theorem filtered_call (tb:Nat) (i:Int) (w:World):Calls Tryz.prog 102 #[pA tb 0,.int .i64 i] w fun e w'=>e = .returned (.func (.func 170) #[] #[pA (w.heap.size+1) 0,pA w.heap.size 0])∧w'=(w.alloc (.cells #[pA tb 0] 23)).alloc (.cells #[.int .i64 i] 3):=by
 go_enter Tryz.func102,Tryz.ntmps102
 go_wp2
 go_ret
 exact ⟨rfl,rfl⟩
set_option maxRecDepth 100000 in
set_option maxHeartbeats 4000000 in
theorem filtered_it (ok:Nat→Prop) (ib pb tb mb:Nat) (T:Tr) (hK:TrOK T) (i:Int) :
 Iter Tryz.prog 170 #[pA ib 0,pA pb 0] (pathL i T.n).length (filA T (pathL i T.n) (copathL i T.n)) (HasFi ok ib pb tb mb T i):=by
 intro l B Inv Brk hI hBr hH hsk hY M W hBW hM h0
 obtain ⟨c1,c4,hT,hTr⟩:=hH 0 M W (Nat.zero_le _) h0
 have bd:Below W.heap.size W W.drew:=(Below.refl _ _).drew
 have cC:=iCopathO_any i T.n W.drew (hT.keep bd)
 have cW:=fun (V:World) (hb:Below W.heap.size W V)=>iPathO_any i T.n V (hT.keep hb)
 have hxl:=pathL_len i T.n
 have hyl:=(copath_at i T.n).1
 have hyr:=(copath_at i T.n).2
 generalize pathL i T.n=xs at *
 generalize copathL i T.n=ys at *
 have c1':∀ u,Below W.heap.size W u→u.cell? ⟨pb,0,none⟩=some (pA tb 0):=fun u hu=>(hu.cell (p:=⟨pb,0,none⟩) (block_lt_of_cell c1)).trans c1
 have c2':∀ u,Below W.heap.size W u→u.cell? ⟨tb,0,none⟩=some (.int .i64 (T.n:Int)):=fun u hu=>(hTr.below hu).lv
 have c4':∀ u,Below W.heap.size W u→u.cell? ⟨ib,0,none⟩=some (.int .i64 i):=fun u hu=>(hu.cell (p:=⟨ib,0,none⟩) (block_lt_of_cell c4)).trans c4
 clear c1 c4 hTr hT
 obtain ⟨nn,-⟩:∃ nn:Nat,True:=⟨1,trivial⟩
 refine (callsIn_wide (n:=nn)).1 ?_
 refine callsIn_of_wp Tryz.func170 rfl trivial ?_ rfl
 simp only [Tryz.ntmps170,List.size_toArray,List.length_cons,List.length_nil,Nat.reduceAdd,Nat.reduceSub,Array.replicate_succ,Array.replicate_zero,List.push_toArray,List.append_toArray,List.nil_append,List.cons_append]
 gi_wp2
 refine wpIn_heldW (S:=fun u=>Below W.heap.size W u) (by kernel_rfl) (by kernel_rfl) bd (fun hS => ?_)
 refine tc 0 hS c4' ?_
 (try simp only [pS])
 refine tc 1 hS c1' ?_
 (try simp only [pS])
 refine tg 2 hS ?_
 (try simp only [pS])
 refine tg 3 hS ?_
 (try simp only [pS])
 refine tc 4 hS c2' ?_
 (try simp only [pS])
 refine cl 5 cC ?_
 rintro e W1 ⟨v,rfl,hv,hb1⟩
 replace hb1:=below_next bd hb1
 replace hv:OwnZ W.heap.size W1 v ys:=hv
 obtain ⟨ya,da,rfl⟩:=hv.slice
 refine ⟨_,rfl,hb1,?_⟩
 (try simp only [pS])
 refine tg 6 hb1 ?_
 (try simp only [pS])
 refine wpAnyH_done (by kernel_rfl) ?_ _
 refine OnlyN.normal ?_
 clear cC hS
 have bd1:Below W1.heap.size W1 W1.drew:=(Below.refl _ _).drew
 have cP:=cW W1.drew (below_next hb1 bd1)
 clear cW
 have hb1d:=below_next hb1 bd1
 gi_wp2
 refine wpIn_heldW (S:=fun u=>Below W.heap.size W u) (by kernel_rfl) (by kernel_rfl) hb1d (fun hS => ?_)
 refine tc 0 hS c4' ?_
 (try simp only [pS])
 refine tc 1 hS c1' ?_
 (try simp only [pS])
 refine tg 2 hS ?_
 (try simp only [pS])
 refine tg 3 hS ?_
 (try simp only [pS])
 refine tc 4 hS c2' ?_
 (try simp only [pS])
 refine tg 7 hS ?_
 (try simp only [pS])
 refine cl 5 cP ?_
 rintro e W2 ⟨v,rfl,hx,hb2⟩
 replace hb2:=below_next bd1 hb2
 have hbW2:=below_next hb1 hb2
 replace hx:OwnZ W1.heap.size W2 v xs:=hx
 obtain ⟨xa,ca,rfl⟩:=hx.slice
 refine ⟨_,rfl,hbW2,?_⟩
 (try simp only [pS])
 refine tg 6 hbW2 ?_
 (try simp only [pS])
 refine wpAnyH_done (by kernel_rfl) ?_ _
 refine OnlyN.normal ?_
 have hsz2:=hbW2.size
 have zx:ZO (fun b=>W.heap.size≤b∧b<W2.heap.size∧¬M b) W2 (.slice xa xs.length ca) xs:=(ZO.own hx).wide (fun b hb h=>⟨Nat.le_trans hb1.size h,hb,fun h'=>by have:=hM b h';have:=hb1.size;omega⟩)
 have zy:ZO (fun b=>W.heap.size≤b∧b<W2.heap.size∧¬M b) W2 (.slice ya ys.length da) ys:=((ZO.own hv).keep hb2).wide (fun b hb h=>⟨h,hb,fun h'=>by have:=hM b h';omega⟩)
 have hI1:=hI 0 M W W2 h0 (Loc.of_below hbW2)
 rw [hyl] at zy
 clear cP hS h0 hM hb1d bd bd1 hv hx c1' c2' c4' hb1 hb2 hbW2
 gi_wp2
 gi_loopw [20] (fun s wr=>∃ k:Nat,k≤xs.length∧s = .int .i64 (k:Int)∧W2.heap.size≤wr.heap.size∧∃ M,Inv k M wr∧ZO (fun b=>W.heap.size≤b∧b<W2.heap.size∧¬M b) wr (.slice xa xs.length ca) xs∧ZO (fun b=>W.heap.size≤b∧b<W2.heap.size∧¬M b) wr (.slice ya xs.length da) ys) (fun s _=>xs.length - (intOf s).toNat)
 case atStart=>exact ⟨0,Nat.zero_le _,rfl,Nat.le_refl _,M,hI1,zx,zy⟩
 case round =>
  clear hI1 zx zy
  obtain ⟨k,hk,rfl,hsz,M,hI0,zx,zy⟩:=hrel
  by_cases hlt:k<xs.length
  · obtain ⟨c1,-,hT,hTr⟩:=hH k M wr hk hI0
    obtain ⟨x,hx⟩:∃ x,xs[k]? = some x:=⟨_,List.getElem?_eq_getElem hlt⟩
    obtain ⟨y,hy⟩:∃ y,ys[k]? = some y:=⟨_,List.getElem?_eq_getElem (by omega)⟩
    have hyk:=hyr k y hy
    have hlt':(k:Int)<(xs.length:Int):=by omega
    have hk0:(0:Int)≤(k:Int):=by omega
    obtain ⟨xa',ca',e,hca,-,hzc⟩:=id zx
    cases e
    obtain ⟨g,o,rfl,-,-,hgc⟩:=hzc k x hx
    obtain ⟨ya',da',e,hda,-,hwc⟩:=id zy
    have e2:ya'=ya∧da'=da:=by injection e with a1 _ a3;exact ⟨a1.symm,a3.symm⟩
    obtain ⟨rfl,rfl⟩:=e2
    obtain ⟨g2,o2,rfl,-,-,hgd⟩:=hwc k y hy
    have bV:Below wr.heap.size wr wr.drew:=(Below.refl _ _).drew
    have c1V:wr.drew.cell? ⟨pb,0,none⟩=some (pA tb 0):=c1
    have hgdV:wr.drew.cell? ⟨g2,o2+k,none⟩=some (.int .i64 y):=hgd
    have cR:=resolution_any ok tb mb T hK 7 y (Nat.le_refl _) hyk.1 hyk.2.1 hyk.2.2 wr.drew (hT.keep bV) (hTr.below bV)
    have ear:filA T xs ys k=if (rso T y).isEmpty then none else some #[.int .i64 x,.int .i64 y]:=by unfold filA;rw [hx,hy];rfl
    have hskk:=hsk k M
    have hYk:=hY k M
    rw [ear] at hskk hYk
    clear hzc hwc hyk hH hsk hY hTr hT c1 hgd e ear
    gi_wp2
    refine wpIn_region_any (by kernel_rfl) ?_
    show wpAnyIn Fence.wide nn Tryz.prog .any _ _ _ _ _ wr.drew
    refine yg 1 ?_
    (try simp only [pS])
    refine yg 2 ?_
    (try simp only [pS])
    refine yg 3 (v:=pA g2 (o2+k)) ?_
    (try simp only [pS])
    refine wpAnyIn_ready (rs:=[0,4]) (by kernel_rfl) (by simp) (yv (i:=0) (v:=pA tb 0) (w':=wr.drew) ?hr0 ?A (yv (i:=4) (v := .int .i64 y) (w':=wr.drew) ?hr4 ?B AllReadyIn.nil))
    case hr0=>go_simp
    case hr4=>go_simp
    case A =>
     (try simp only [pS])
     refine yo 4 (v := .int .i64 y) (w':=wr.drew) ?hr4 ?_
     case hr4=>go_simp
     (try simp only [pS])
     refine yc 5 cR ?_
     rintro e W3 ⟨v5,rfl,h5,b3⟩
     refine ⟨_,rfl,?_⟩
     replace h5:OwnZ wr.heap.size W3 v5 (rso T y):=h5
     replace b3:=below_next bV b3
     obtain ⟨ra,rc,rfl⟩:=h5.slice
     clear h5 cR
     have hIX:=hI k M wr W3 hI0 (Loc.of_below b3)
     have hb3:=b3.size
     have zx3:=zx.keep b3
     have zy3:=zy.keep b3
     have hgd3:W3.cell? ⟨g2,o2+k,none⟩=some (.int .i64 y):=(b3.cell (p:=⟨g2,o2+k,none⟩) (block_lt_of_cell hgdV)).trans hgdV
     generalize rso T y=R at hskk hYk ⊢
     cases R with
     | nil =>
      have hI2:=hskk W3 hlt rfl hIX
      clear hYk hskk
      (try simp only [pS])
      refine yg 6 (v := .int .i64 0) ?_
      (try simp only [pS])
      refine yg 7 (v := .bool false) ?_
      (try simp only [pS])
      refine yg 8 (v := .bool false) ?_
      (try simp only [pS])
      refine yn 9 ?_
      (try simp only [pS])
      refine yn 10 ?_
      (try simp only [pS])
      refine yn 11 ?_
      (try simp only [pS])
      refine yn 12 ?_
      (try simp only [pS])
      refine yn 13 ?_
      (try simp only [pS])
      refine yn 14 ?_
      (try simp only [pS])
      refine yn 15 ?_
      (try simp only [pS])
      refine yn 16 ?_
      (try simp only [pS])
      refine yg 17 (v := .bool false) ?_
      (try simp only [pS])
      refine wpAnyIn_done (by kernel_rfl) ?_ _
      clear hgd3 hgdV hgc
      gi_wp2
      go_roundw
      case rel=>exact ⟨k+1,by omega,by go_num,by omega,M,hI2,zx3,zy3⟩
      case measure=>simp [intOf];omega
     | cons r0 R =>
      have hYX:=hYk W3 _ hlt rfl hIX (by omega)
      clear hYk hskk
      have hne:(r0 :: R).length≠0:=by simp
      generalize (r0 :: R).length=L at hne ⊢
      (try simp only [pS])
      refine yg 6 (v := .int .i64 (L:Int)) ?_
      (try simp only [pS])
      refine yg 7 (v := .bool true) ?_
      (try simp only [pS])
      refine yg 8 (v := .bool true) ?_
      (try simp only [pS])
      refine yg 9 ?_
      (try simp only [pS])
      refine yg 10 ?_
      (try simp only [pS])
      refine yg 11 ?_
      (try simp only [pS])
      refine yg 12 ?_
      (try simp only [pS])
      refine yg 13 (v:=pA g2 (o2+k)) ?_
      (try simp only [pS])
      refine yo 14 (v := .int .i64 y) (w':=W3) ?hr14 ?_
      case hr14=>go_simp
      (try simp only [pS])
      refine yy 15 hYX ?_ (hrun:=by first | rfl | kernel_rfl | (unfold execOp;rfl) | (go_simp;trace_state;rfl))
      rintro e W' ⟨hF,M2,hM2,⟨rfl,hI'⟩ | ⟨rfl,hB'⟩⟩
      · refine ⟨_,rfl,?_⟩
        (try simp only [pS])
        refine yg 16 (v := .bool false) ?_
        (try simp only [pS])
        refine yg 17 (v := .bool false) ?_
        (try simp only [pS])
        refine wpAnyIn_done (by kernel_rfl) ?_ _
        clear hgd3 hgdV hgc hYX
        have hfs:=hF.size
        gi_wp2
        go_roundw
        case rel=>exact ⟨k+1,by omega,by go_num,by omega,M2,hI',(zx3.same hF.size (fun b hb h=>hF.block b hb (by omega) h.2.2)).wide (fun b hb h=>⟨h.1,h.2.1,fun h'=>by rcases hM2 b h' with h2 | h2;exact h.2.2 h2;omega⟩),(zy3.same hF.size (fun b hb h=>hF.block b hb (by omega) h.2.2)).wide (fun b hb h=>⟨h.1,h.2.1,fun h'=>by rcases hM2 b h' with h2 | h2;exact h.2.2 h2;omega⟩)⟩
        case measure=>simp [intOf];omega
      · refine ⟨_,rfl,?_⟩
        (try simp only [pS])
        refine yg 16 (v := .bool true) ?_
        (try simp only [pS])
        refine yg 17 (v := .bool true) ?_
        (try simp only [pS])
        refine wpAnyIn_done (by kernel_rfl) ?_ _
        clear hgd3 hgdV hgc hYX
        have hfs:=hF.size
        gi_wp2
        refine bodyPost_ret (results_none rfl _ _ _) rfl ?_
        exact ⟨⟨_,rfl⟩,by omega,M2,.inr hB'⟩
    case B =>
     (try simp only [pS])
     refine yo 0 (v:=pA tb 0) (w':=wr.drew) ?hr0 ?_
     case hr0=>go_simp
     (try simp only [pS])
     refine yc 5 cR ?_
     rintro e W3 ⟨v5,rfl,h5,b3⟩
     refine ⟨_,rfl,?_⟩
     replace h5:OwnZ wr.heap.size W3 v5 (rso T y):=h5
     replace b3:=below_next bV b3
     obtain ⟨ra,rc,rfl⟩:=h5.slice
     clear h5 cR
     have hIX:=hI k M wr W3 hI0 (Loc.of_below b3)
     have hb3:=b3.size
     have zx3:=zx.keep b3
     have zy3:=zy.keep b3
     have hgd3:W3.cell? ⟨g2,o2+k,none⟩=some (.int .i64 y):=(b3.cell (p:=⟨g2,o2+k,none⟩) (block_lt_of_cell hgdV)).trans hgdV
     generalize rso T y=R at hskk hYk ⊢
     cases R with
     | nil =>
      have hI2:=hskk W3 hlt rfl hIX
      clear hYk hskk
      (try simp only [pS])
      refine yg 6 (v := .int .i64 0) ?_
      (try simp only [pS])
      refine yg 7 (v := .bool false) ?_
      (try simp only [pS])
      refine yg 8 (v := .bool false) ?_
      (try simp only [pS])
      refine yn 9 ?_
      (try simp only [pS])
      refine yn 10 ?_
      (try simp only [pS])
      refine yn 11 ?_
      (try simp only [pS])
      refine yn 12 ?_
      (try simp only [pS])
      refine yn 13 ?_
      (try simp only [pS])
      refine yn 14 ?_
      (try simp only [pS])
      refine yn 15 ?_
      (try simp only [pS])
      refine yn 16 ?_
      (try simp only [pS])
      refine yg 17 (v := .bool false) ?_
      (try simp only [pS])
      refine wpAnyIn_done (by kernel_rfl) ?_ _
      clear hgd3 hgdV hgc
      gi_wp2
      go_roundw
      case rel=>exact ⟨k+1,by omega,by go_num,by omega,M,hI2,zx3,zy3⟩
      case measure=>simp [intOf];omega
     | cons r0 R =>
      have hYX:=hYk W3 _ hlt rfl hIX (by omega)
      clear hYk hskk
      have hne:(r0 :: R).length≠0:=by simp
      generalize (r0 :: R).length=L at hne ⊢
      (try simp only [pS])
      refine yg 6 (v := .int .i64 (L:Int)) ?_
      (try simp only [pS])
      refine yg 7 (v := .bool true) ?_
      (try simp only [pS])
      refine yg 8 (v := .bool true) ?_
      (try simp only [pS])
      refine yg 9 ?_
      (try simp only [pS])
      refine yg 10 ?_
      (try simp only [pS])
      refine yg 11 ?_
      (try simp only [pS])
      refine yg 12 ?_
      (try simp only [pS])
      refine yg 13 (v:=pA g2 (o2+k)) ?_
      (try simp only [pS])
      refine yo 14 (v := .int .i64 y) (w':=W3) ?hr14 ?_
      case hr14=>go_simp
      (try simp only [pS])
      refine yy 15 hYX ?_ (hrun:=by first | rfl | kernel_rfl | (unfold execOp;rfl) | (go_simp;trace_state;rfl))
      rintro e W' ⟨hF,M2,hM2,⟨rfl,hI'⟩ | ⟨rfl,hB'⟩⟩
      · refine ⟨_,rfl,?_⟩
        (try simp only [pS])
        refine yg 16 (v := .bool false) ?_
        (try simp only [pS])
        refine yg 17 (v := .bool false) ?_
        (try simp only [pS])
        refine wpAnyIn_done (by kernel_rfl) ?_ _
        clear hgd3 hgdV hgc hYX
        have hfs:=hF.size
        gi_wp2
        go_roundw
        case rel=>exact ⟨k+1,by omega,by go_num,by omega,M2,hI',(zx3.same hF.size (fun b hb h=>hF.block b hb (by omega) h.2.2)).wide (fun b hb h=>⟨h.1,h.2.1,fun h'=>by rcases hM2 b h' with h2 | h2;exact h.2.2 h2;omega⟩),(zy3.same hF.size (fun b hb h=>hF.block b hb (by omega) h.2.2)).wide (fun b hb h=>⟨h.1,h.2.1,fun h'=>by rcases hM2 b h' with h2 | h2;exact h.2.2 h2;omega⟩)⟩
        case measure=>simp [intOf];omega
      · refine ⟨_,rfl,?_⟩
        (try simp only [pS])
        refine yg 16 (v := .bool true) ?_
        (try simp only [pS])
        refine yg 17 (v := .bool true) ?_
        (try simp only [pS])
        refine wpAnyIn_done (by kernel_rfl) ?_ _
        clear hgd3 hgdV hgc hYX
        have hfs:=hF.size
        gi_wp2
        refine bodyPost_ret (results_none rfl _ _ _) rfl ?_
        exact ⟨⟨_,rfl⟩,by omega,M2,.inr hB'⟩
  · obtain rfl:k=xs.length:=by omega
    have hlt':¬((xs.length:Nat):Int)<(xs.length:Int):=by omega
    clear hY hH hsk
    gi_wp2
    refine bodyPost_end (results_none rfl _ _ _) rfl ?_
    exact ⟨⟨_,rfl⟩,by omega,M,.inl hI0⟩
end Go.Proofs.YtpmkiegabaidjaaGreatDoor
