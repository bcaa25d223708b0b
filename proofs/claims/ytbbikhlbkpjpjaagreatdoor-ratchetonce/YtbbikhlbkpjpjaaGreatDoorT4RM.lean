/- What the proof stands on: T4R, R7H. -/
import Derived.Test.YtbbikhlbkpjpjaaGreatDoorI2CaM
import Derived.Test.YtbbikhlbkpjpjaaGreatDoorR7EM
import Derived.Test.YtbbikhlbkpjpjaaGreatDoorR8TM
namespace Go.Proofs.YtbbikhlbkpjpjaaGreatDoor
open Go.RowKit Go.Shelf
structure Loc (B:Nat) (M:Nat→Prop) (W W':World):Prop where
 os:W'.os=W.os
 tape:W'.tape=W.tape
 output:W'.output=W.output
 size:W.heap.size≤W'.heap.size
 block:∀ k,k<W.heap.size→(k<B∨M k)→W'.heap[k]? = W.heap[k]?
structure Fro (B:Nat) (M:Nat→Prop) (W W':World):Prop where
 size:W.heap.size≤W'.heap.size
 block:∀ k,k<W.heap.size→B≤k→¬M k→W'.heap[k]? = W.heap[k]?
theorem Loc.mono {B C:Nat} {M:Nat→Prop} {W W':World} (h:Loc C M W W') (hb:B≤C):Loc B M W W':=⟨h.os,h.tape,h.output,h.size,fun k hk hm=>h.block k hk (hm.imp (fun h=>by omega) id)⟩
theorem Loc.of_below {B:Nat} {M:Nat→Prop} {W W':World} (h:Below W.heap.size W W'):Loc B M W W':=⟨h.os,h.tape,h.output,h.size,fun k hk _=>h.block k hk⟩
theorem Loc.below {B:Nat} {M:Nat→Prop} {W W':World} (h:Loc B M W W') (hB:B≤W.heap.size):Below B W W':=⟨h.os,h.tape,h.output,h.size,fun k hk=>h.block k (by omega) (.inl hk)⟩
theorem Loc.put {B l:Nat} {M:Nat→Prop} {W:World} (o:Obj) (hl:B≤l) (hm:¬M l):Loc B M W (W.putObj l o) :=
 ⟨rfl,rfl,rfl,by simp,fun k _ h=>World.putObj_heap_other (fun e=>by subst e;rcases h with h | h;omega;exact hm h)⟩
theorem Loc.trans {B:Nat} {M:Nat→Prop} {U V W:World} (h:Loc B M U V) (k:Loc B M V W):Loc B M U W:=⟨k.os.trans h.os,k.tape.trans h.tape,k.output.trans h.output,Nat.le_trans h.size k.size,fun i hi hb=>(k.block i (Nat.lt_of_lt_of_le hi h.size) hb).trans (h.block i hi hb)⟩
theorem Loc.cell {B:Nat} {M:Nat→Prop} {W W':World} (h:Loc B M W W') {b o:Nat} {v:Value} (hc:W.cell? ⟨b,o,none⟩=some v) (hb:b<B∨M b):W'.cell? ⟨b,o,none⟩=some v :=
 (World.cell?_of_block (w:=W) (h.block b (block_lt_of_cell hc) hb)).trans hc
theorem Loc.rw {B:Nat} {M:Nat→Prop} {W W':World} (h:Loc B M W W') {g o:Nat} {cs:List Value} (hr:RW W g o cs) (hb:g<B∨M g):RW W' g o cs :=
 ⟨fun j v hv=>(World.cell?_of_block (w:=W) (h.block g hr.lt hb)).trans (hr.range j v hv),fun j hj=>by
   rw [World.cell?_of_block (w:=W) (h.block g hr.lt hb),World.frozen?_of_block (w:=W) (h.block g hr.lt hb)];exact hr.there j hj,Nat.lt_of_lt_of_le hr.lt h.size⟩
theorem Fro.mono {B C:Nat} {M:Nat→Prop} {W W':World} (h:Fro B M W W') (hb:B≤C):Fro C M W W':=⟨h.size,fun k hk hB hm=>h.block k hk (by omega) hm⟩
theorem Fro.of_below {B:Nat} {M:Nat→Prop} {W W':World} (h:Below W.heap.size W W'):Fro B M W W':=⟨h.size,fun k hk _ _=>h.block k hk⟩
theorem Fro.refl (B:Nat) (M:Nat→Prop) (W:World):Fro B M W W:=⟨Nat.le_refl _,fun _ _ _ _=>rfl⟩
theorem Fro.trans {B:Nat} {M:Nat→Prop} {U V W:World} (h:Fro B M U V) (k:Fro B M V W):Fro B M U W:=⟨Nat.le_trans h.size k.size,fun i hi hB hm=>(k.block i (Nat.lt_of_lt_of_le hi h.size) hB hm).trans (h.block i hi hB hm)⟩
theorem Fro.rw {B:Nat} {M:Nat→Prop} {W W':World} (h:Fro B M W W') {g o:Nat} {cs:List Value} (hr:RW W g o cs) (hb:B≤g) (hm:¬M g):RW W' g o cs :=
 ⟨fun j v hv=>(World.cell?_of_block (w:=W) (h.block g hr.lt hb hm)).trans (hr.range j v hv),fun j hj=>by
   rw [World.cell?_of_block (w:=W) (h.block g hr.lt hb hm),World.frozen?_of_block (w:=W) (h.block g hr.lt hb hm)];exact hr.there j hj,Nat.lt_of_lt_of_le hr.lt h.size⟩
theorem Fro.of_but {B:Nat} {M bad:Nat→Prop} {W W':World} (h:But bad W W') (hb:∀ k,bad k→k<B∨M k):Fro B M W W' :=
 ⟨h.size,fun k hk hB hm=>h.block k hk (fun e=>by rcases hb k e with h | h;omega;exact hm h)⟩
theorem roundIn_deep {n m:Nat} {P:Program} {l:Nat} {f:FuncId} {tmps:Array Value} {assign body:Code} {w:World} {R:Ending→World→Prop} (h:RoundIn Fence.wide n P l f tmps assign body w R):RoundIn Fence.wide m P l f tmps assign body w R :=
 ⟨trivial,fun c cs _=>h.2 c cs (room_wide _)⟩
theorem YieldAt.mono {n:Nat} {P:Program} {l:Nat} {args:Array Value} {W:World} {R S:Ending→World→Prop} (h:YieldAt Fence.wide n P l args W R) (hr:∀ e w',R e w'→S e w'):YieldAt Fence.wide n P l args W S:=by
 obtain ⟨fn,tmps,assign,body,h1,h2⟩:=h
 exact ⟨fn,tmps,assign,body,h1,h2.mono hr⟩
theorem wpListIn_load_rd {P:Program} {n l:Nat} {ops:Array Oper} {rest:List Oper} {op:Oper} {a:Act} {w:World} {Q:Exit→Act→World→Prop} (hw:Region.wanted op (yielded ops a.tmps)=true) (ty:TypeId) (x:Operand) (ho:op.op = .load ty x)
 (b o:Nat) (hx:a.eval x = .pointer (some ⟨b,o,none⟩)) (cs:List Value) (d:TypeDesc) (hc:w.rangeAt b o cs)
 (hu:P.underlying ty=some d) (hd:d.isRow=true) (hi:(P.info? ty).map (·.size)=some cs.length)
 (h:wpListIn (Fence.wide.inRound l) n P ops Q rest (a.put op.dst (.agg cs.toArray)) w):wpListIn (Fence.wide.inRound l) n P ops Q (op :: rest) a w :=
 wpListIn_step fun K hK=>by
  simp only [hw,if_true]
  refine ⟨fun _ _=>trivial,?_⟩
  have hsem:(op.semAt (Fence.wide.inRound l).round a.eval)=execOp a.eval op:=Oper.semAt_some l _ _ (fun c e=>by rw [ho] at e;cases e)
  rw [hsem]
  unfold execOp
  simp only [ho,hx,Instr.loadAt,Instr.sureAddr,Sem.run_bind,Sem.run_pure,Result.andThen_ok,run_loadVar_mid w b o ty cs d hc hu hd hi]
  exact hK _ _ h
theorem wpListIn_store_rd {P:Program} {n l:Nat} {ops:Array Oper} {rest:List Oper} {op:Oper} {a:Act} {w:World} {Q:Exit→Act→World→Prop} (hw:Region.wanted op (yielded ops a.tmps)=true) (ty:TypeId) (x y:Operand) (ho:op.op = .store ty x y)
 (b o:Nat) (cells:Array Value) (hx:a.eval x = .pointer (some ⟨b,o,none⟩)) (hy:a.eval y = .agg cells) (ht:w.there b o cells.size) (hi:(P.info? ty).map (·.size)=some cells.size) (h1:cells.all (·.oneCell')=true)
 (h:wpListIn (Fence.wide.inRound l) n P ops Q rest (a.put op.dst undef) (w.setCells b o cells.toList)):wpListIn (Fence.wide.inRound l) n P ops Q (op :: rest) a w :=
 wpListIn_step fun K hK=>by
  simp only [hw,if_true]
  refine ⟨fun _ _=>trivial,?_⟩
  have hsem:(op.semAt (Fence.wide.inRound l).round a.eval)=execOp a.eval op:=Oper.semAt_some l _ _ (fun c e=>by rw [ho] at e;cases e)
  rw [hsem]
  unfold execOp
  simp only [ho,hx,hy,Instr.storeAt,Instr.sureAddr,Sem.run_bind,Sem.run_pure,Result.andThen_ok,run_storeVar_mid w b o ty cells ht hi h1]
  exact hK _ _ h
def Ans (B:Nat) (M:Nat→Prop) (Nxt Brk:(Nat→Prop)→World→Prop) (W:World) (e:Ending) (W':World):Prop :=
 Fro B M W W'∧∃ M':Nat→Prop,(∀ b,M' b→M b∨W.heap.size≤b)∧(e = .returned (.bool true)∧Nxt M' W'∨e = .returned (.bool false)∧Brk M' W')
def Iter (P:Program) (gf:Nat) (lb:Array Value) (K:Nat) (ar:Nat→Option (Array Value)) (Has:Nat→World→Prop):Prop :=
 ∀ (l B:Nat) (Inv:Nat→(Nat→Prop)→World→Prop) (Brk:(Nat→Prop)→World→Prop),
  (∀ k M W W',Inv k M W→Loc B M W W'→Inv k M W')→(∀ M W W',Brk M W→Loc B M W W'→Brk M W') →
  (∀ k M W,k≤K→Inv k M W→Has k W)→(∀ k M W,k<K→ar k=none→Inv k M W→Inv (k+1) M W) →
  (∀ k M W a,k<K→ar k=some a→Inv k M W→B≤W.heap.size→YieldAt Fence.wide 0 P l a W (Ans B M (Inv (k+1)) Brk W)) →
  ∀ M W,B≤W.heap.size→(∀ b,M b→b<W.heap.size)→Inv 0 M W →
   Calls P gf (#[.func (.yield l) #[] #[]] ++ lb) W fun e W'=>(∃ v,e = .returned v)∧W.heap.size≤W'.heap.size∧∃ M',Inv K M' W'∨Brk M' W'
def RoundQ (B S:Nat) (M:Nat→Prop) (J:(Nat→Prop)→World→Prop) (Jx:Code→(Nat→Prop)→World→Prop) (W:World) (ex:Exit) (_:Act) (W':World):Prop :=
 Fro B M W W'∧∃ M':Nat→Prop,(∀ b,M' b→M b∨S≤b)∧match ex with
  | .normal=>J M' W'
  | .ret=>Jx .ret M' W'
  | .exit i=>Jx (.exit i) M' W'
  | .goto t=>Jx (.goto t) M' W'
  | _=>False
theorem range_it {P:Program} {gf:Nat} {lb:Array Value} {K:Nat} {ar:Nat→Option (Array Value)} {Has:Nat→World→Prop} (hit:Iter P gf lb K ar Has)
 {g:Operand} {ps:Array Tmp} {assign body:Code} {Q:Exit→Act→World→Prop} {a:Act} {w:World} {n:Nat} (hg:a.eval g = .func (.func gf) #[] lb) (eg:∀ args w,(callFunc gf args).run P w = .ok (.enter gf args) w)
 (J:Nat→(Nat→Prop)→World→Prop) (Jx:Code→(Nat→Prop)→World→Prop) (M0:Nat→Prop)
 (hJ:∀ k M W W',J k M W→Loc w.heap.size M W W'→J k M W') (hJx:∀ c M W W',Jx c M W→Loc w.heap.size M W W'→Jx c M W')
 (hHas:∀ k M W,k≤K→J k M W→Has k W) (hskip:∀ k M W,k<K→ar k=none→J k M W→J (k+1) M W) (hps:∀ k a',ar k=some a'→a'.size=ps.size)
 (hM0:∀ b,M0 b→b<w.heap.size) (h0:∀ W,Below w.heap.size w W→J 0 M0 W)
 (hround:∀ k M W l a',k<K→ar k=some a'→J k M W→w.heap.size<l→l<W.heap.size→¬M l →
   assign.wpIn (Fence.wide.inRound l) 0 P (Exit.then (fun a₁ W₁=>Below W.heap.size W W₁∧∀ W₂,But (fun k=>k=l) W₁ W₂→W₂.heap.size=W₁.heap.size→J k M W₂ →
    body.wpIn (Fence.wide.inRound l) 0 P (RoundQ w.heap.size W.heap.size M (J (k+1)) Jx W₂) a₁ W₂) (fun _ _ _=>False)) { tmps:=(ps.zip a').foldl (fun tmps (t,a)=>tmps.setIfInBounds t a) a.tmps,defers:=[] } W)
 (hdone:∀ D M W,w.heap.size≤D→D<W.heap.size→¬M D→J K M W→W.heap[D]? = some (.deferred (some []))→Q .normal { a with defers:={ target := .collected D,args:=#[] } :: a.defers } W)
 (hstop:∀ D c M W,w.heap.size≤D→D<W.heap.size→¬M D→Jx c M W→W.heap[D]? = some (.deferred (some []))→c.wpIn Fence.wide n P Q { a with defers:={ target := .collected D,args:=#[] } :: a.defers } W) :
 (Code.rangeFunc g ps assign body).wpIn Fence.wide n P Q a w:=by
 refine wpIn_range_with rfl (fun _=>trivial) (fun h=>by cases h) hg eg (fun r0 e1 e2 e4 e5 e6 e7=>callsIn_wide.2 ?_)
 obtain ⟨W1,hW1⟩:∃ W1,W1=(w.alloc (.deferred (some []))).alloc (.loop r0):=⟨_,rfl⟩
 obtain ⟨l,hl⟩:∃ l,l=w.heap.size+1:=⟨_,rfl⟩
 have hbl1:Below w.heap.size w W1:=by rw [hW1];exact ((Below.refl _ _).alloc (Nat.le_refl _) _).alloc (by simp) _
 have hl1:W1.heap[l]? = some (.loop r0):=by
  rw [hW1,hl];have:=World.alloc_heap_new (w.alloc (.deferred (some []))) (.loop r0);rwa [World.size_alloc] at this
 have hD1:W1.heap[w.heap.size]? = some (.deferred (some [])):=by
  rw [hW1];exact (Below.heap_alloc _ _ _ (by simp)).trans (World.alloc_heap_new w _)
 have hs1:W1.heap.size=w.heap.size+2:=by rw [hW1];simp
 rw [←hW1,←hl]
 clear hW1
 have hm0:∀ b,w.heap.size≤b→¬M0 b:=fun b hb hm=>by have:=hM0 b hm;omega
 obtain ⟨rd,hrd⟩:∃ rd:Code→Loop,∀ c,rd c={ r0 with state := .done,pending:=some c }:=⟨_,fun _=>rfl⟩
 refine (hit l (w.heap.size+2)
  (fun k M W=>J k M W∧W.heap[l]? = some (.loop r0)∧W.heap[w.heap.size]? = some (.deferred (some []))∧¬M l∧¬M w.heap.size)
  (fun M W=>∃ c,Jx c M W∧W.heap[l]? = some (.loop (rd c))∧W.heap[w.heap.size]? = some (.deferred (some []))∧¬M l∧¬M w.heap.size)
  ?_ ?_ ?_ ?_ ?_ M0 W1 (by omega) (fun b hb=>by have:=hM0 b hb;omega) ⟨h0 W1 hbl1,hl1,hD1,hm0 l (by omega),hm0 _ (Nat.le_refl _)⟩).mono ?_
 · rintro k M W W' ⟨h1,h2,h3,h4⟩ hL
   have l2:=(Array.getElem?_eq_some_iff.1 h2).1
   have l3:=(Array.getElem?_eq_some_iff.1 h3).1
   exact ⟨hJ k M W W' h1 (hL.mono (by omega)),(hL.block l l2 (.inl (by omega))).trans h2,(hL.block _ l3 (.inl (by omega))).trans h3,h4⟩
 · rintro M W W' ⟨c,h1,h2,h3,h4⟩ hL
   have l2:=(Array.getElem?_eq_some_iff.1 h2).1
   have l3:=(Array.getElem?_eq_some_iff.1 h3).1
   exact ⟨c,hJx c M W W' h1 (hL.mono (by omega)),(hL.block l l2 (.inl (by omega))).trans h2,(hL.block _ l3 (.inl (by omega))).trans h3,h4⟩
 · rintro k M W hk ⟨h1,-⟩;exact hHas k M W hk h1
 · rintro k M W hk ha ⟨h1,h2⟩;exact ⟨hskip k M W hk ha h1,h2⟩
 · rintro k M W a' hk ha ⟨h1,h2,h3,h4,h5⟩ hB
   have l2:=(Array.getElem?_eq_some_iff.1 h2).1
   have l3:=(Array.getElem?_eq_some_iff.1 h3).1
   refine yield_round h2 (by rw [e5];exact hps k a' ha) ?_
   rw [e4,e5,e6,e7]
   refine wpIn_mono (hround k M W l a' hk ha h1 (by omega) l2 h4) ?_
   intro ex a1 V1 hx
   cases ex with
   | normal =>
    obtain ⟨hb1,hbody⟩:=hx
    have h2':=(hb1.block l l2).trans h2
    have h3':=(hb1.block _ l3).trans h3
    have l2':=(Array.getElem?_eq_some_iff.1 h2').1
    obtain ⟨V2,hV2⟩:∃ V2,V2=V1.putObj l (.loop { r0 with state := .busy }):=⟨_,rfl⟩
    have hbt:But (fun k=>k=l) V1 V2:=by rw [hV2];exact but_put V1 l _
    have hsz:V2.heap.size=V1.heap.size:=by rw [hV2];simp
    have hl2:V2.heap[l]? = some (.loop { r0 with state := .busy }):=by rw [hV2];exact World.putObj_heap_same l2'
    have hD2:V2.heap[w.heap.size]? = some (.deferred (some [])):=(hbt.block _ (Nat.lt_of_lt_of_le l3 hb1.size) (by omega)).trans h3'
    have hj2:J k M V2:=hJ k M V1 V2 (hJ k M W V1 h1 (Loc.of_below hb1)) (by rw [hV2];exact Loc.put _ (by omega) h4)
    refine ⟨V2,by rw [hV2];exact run_beginRound h2' e1,wpIn_mono (hbody V2 hbt hsz hj2) ?_⟩
    intro ex a3 V3 hq
    obtain ⟨hF,M',hM',hq⟩:=hq
    have hl3:V3.heap[l]? = some (.loop { r0 with state := .busy }):=(hF.block l (by omega) (by omega) h4).trans hl2
    have hD3:V3.heap[w.heap.size]? = some (.deferred (some [])):=(hF.block _ (by have:=hb1.size;omega) (Nat.le_refl _) h5).trans hD2
    have l23:=(Array.getElem?_eq_some_iff.1 hl3).1
    have nl:¬M' l:=fun h=>by rcases hM' l h with h | h;exact h4 h;omega
    have nD:¬M' w.heap.size:=fun h=>by rcases hM' _ h with h | h;exact h5 h;omega
    have hFr:∀ o,Fro (w.heap.size+2) M W (V3.putObj l o):=fun o=>⟨by have:=hb1.size;have:=hF.size;simp;omega,fun k hk hB hm =>
     (World.putObj_heap_other (by omega)).trans ((hF.block k (by have:=hb1.size;omega) (by omega) hm).trans ((hbt.block k (by have:=hb1.size;omega) (by omega)).trans (hb1.block k hk)))⟩
    have hDl:∀ o,(V3.putObj l o).heap[w.heap.size]? = some (.deferred (some [])):=fun o=>(World.putObj_heap_other (by omega)).trans hD3
    cases ex with
    | normal =>
     refine ⟨_,_,run_endRound none hl3,hFr _,M',hM',.inl ⟨rfl,hJ _ _ _ _ hq (Loc.put _ (by omega) nl),?_,hDl _,nl,nD⟩⟩
     rw [World.putObj_heap_same l23]
     simp only [Option.isNone_none,if_true]
     rw [loop_back r0 e1 e2]
    | ret=>exact ⟨_,_,run_endRound (some .ret) hl3,hFr _,M',hM',.inr ⟨rfl,.ret,hJx _ _ _ _ hq (Loc.put _ (by omega) nl),by rw [World.putObj_heap_same l23,hrd];rfl,hDl _,nl,nD⟩⟩
    | exit i=>exact ⟨_,_,run_endRound (some (.exit i)) hl3,hFr _,M',hM',.inr ⟨rfl,.exit i,hJx _ _ _ _ hq (Loc.put _ (by omega) nl),by rw [World.putObj_heap_same l23,hrd];rfl,hDl _,nl,nD⟩⟩
    | goto t=>exact ⟨_,_,run_endRound (some (.goto t)) hl3,hFr _,M',hM',.inr ⟨rfl,.goto t,hJx _ _ _ _ hq (Loc.put _ (by omega) nl),by rw [World.putObj_heap_same l23,hrd];rfl,hDl _,nl,nD⟩⟩
    | panic ch=>exact hq.elim
    | outgrown=>exact hq.elim
   | ret=>exact hx.elim
   | exit i=>exact hx.elim
   | goto t=>exact hx.elim
   | panic ch=>exact hx.elim
   | outgrown=>exact hx.elim
 · rintro e W2 ⟨⟨v,rfl⟩,-,M',⟨hj,hl2,hD,nl,nD⟩ | ⟨c,hj,hl2,hD,nl,nD⟩⟩
   · have l3:=(Array.getElem?_eq_some_iff.1 hD).1
     exact ⟨none,_,by have:=run_endLoop (P:=P) hl2 (by rw [e1];simp);rw [e2] at this;exact this,hdone _ M' _ (Nat.le_refl _) (by simpa using l3) nD (hJ _ _ _ _ hj (Loc.put _ (by omega) nl)) ((World.putObj_heap_other (by omega)).trans hD)⟩
   · have l3:=(Array.getElem?_eq_some_iff.1 hD).1
     exact ⟨some c,_,by have:=run_endLoop (P:=P) hl2 (by rw [hrd];simp);rw [show (rd c).pending=some c by rw [hrd]] at this;exact this,hstop _ c M' _ (Nat.le_refl _) (by simpa using l3) nD (hJx _ _ _ _ hj (Loc.put _ (by omega) nl)) ((World.putObj_heap_other (by omega)).trans hD)⟩
end Go.Proofs.YtbbikhlbkpjpjaaGreatDoor
namespace Go.Proofs.YtbbikhlbkpjpjaaGreatDoor
open Go.RowKit Go.Shelf
attribute [local go_sem] Oper.semAt_some
theorem halves_any (x:Int) (X:Nat→Nat) (w:World):Calls Tryz.prog 52 #[.int .i64 x,sdV X] w fun e w'=>e = .returned (.func (.func 63) #[] #[pA w.heap.size 0,pA (w.heap.size+1) 0])∧w'=(w.alloc (.cells #[.int .i64 x] 3)).alloc (.cells (ints .u8 32 X).toArray 60):=by
 unfold sdV
 generalize ints .u8 32 X=L
 go_enter Tryz.func52,Tryz.ntmps52
 go_wp2
 go_ret
 exact ⟨rfl,rfl⟩
structure HasH (p q:Nat) (x:Int) (X:Nat→Nat) (W:World):Prop where
 bx:W.cell? ⟨p,0,none⟩=some (.int .i64 x)
 sd:W.rangeAt q 0 (ints .u8 32 X)
 tab:TabAt W
 db:DbT W
theorem HasH.keep {p q:Nat} {x:Int} {X:Nat→Nat} {W W':World} (h:HasH p q x X W) (hb:Below W.heap.size W W'):HasH p q x X W' :=
 ⟨(hb.cell (p:=⟨p,0,none⟩) (block_lt_of_cell h.bx)).trans h.bx,range_keep h.sd (block_lt_of_cell (h.sd 0 _ (ints_at .u8 32 X 0 (by decide)))) hb,h.tab.still hb,h.db.keep hb⟩
def lLef:List Nat:=[108,101,102,116]
def lRig:List Nat:=[114,105,103,104,116]
def halfAr (x:Nat) (X:Nat→Nat) (k:Nat):Array Value:=if k=0 then #[.int .i64 (lftN x:Int),sdV (halfS X lLef)] else #[.int .i64 (rgtN x:Int),sdV (halfS X lRig)]
set_option maxRecDepth 100000 in
set_option maxHeartbeats 4000000 in
theorem halves_none (p q:Nat) (x:Int) (X:Nat→Nat) (hx:innB x=false) (ar:Nat→Option (Array Value)):Iter Tryz.prog 63 #[pA p 0,pA q 0] 0 ar (fun _=>HasH p q x X):=by
 intro l B Inv Brk hI hBr hH _ hY M W hBW hM h0
 have hh:=hH 0 M W (Nat.zero_le _) h0
 have cw:=iLeft_any x W hh.db
 have e0:lftA x=(-1,false):=by unfold lftA;rw [hx];rfl
 rw [e0] at cw
 dsimp only at cw
 have c1:=hh.bx
 obtain ⟨nn,-⟩:∃ nn:Nat,True:=⟨1,trivial⟩
 clear e0 hx hH hY hM
 refine (callsIn_wide (n:=nn)).1 ?_
 refine callsIn_of_wp Tryz.func63 rfl trivial ?_ rfl
 simp only [Tryz.ntmps63,List.size_toArray,List.length_cons,List.length_nil,Nat.reduceAdd,Nat.reduceSub,Array.replicate_succ,Array.replicate_zero,List.push_toArray,List.append_toArray,List.nil_append,List.cons_append]
 gi_wp2_with (refine ⟨trivial,(fun h=>by cases h),?_⟩;gi_at_call 64;refine (callsIn_wide.2 cw).mono ?_;clear cw;rintro e w1 ⟨rfl,hb1⟩)
 refine bodyPost_ret (results_none rfl _ _ _) rfl ?_
 exact ⟨⟨_,rfl⟩,hb1.size,M,.inl (hI 0 M W w1 h0 (Loc.of_below hb1))⟩
set_option maxRecDepth 100000 in
set_option maxHeartbeats 4000000 in
theorem halves_it (p q:Nat) (x:Nat) (X:Nat→Nat) (hX:∀ j,X j<256) (hx:innB (x:Int)=true):Iter Tryz.prog 63 #[pA p 0,pA q 0] 2 (fun k=>some (halfAr x X k)) (fun _=>HasH p q (x:Int) X):=by
 intro l B Inv Brk hI hBr hH _ hY M W hBW hM h0
 have hh:=hH 0 M W (Nat.zero_le _) h0
 have cw:=iLeft_any (x:Int) W hh.db
 have e0:lftA (x:Int)=((lftN x:Int),true):=by unfold lftA;rw [if_pos hx,Int.toNat_natCast]
 have e1:rgtA (x:Int)=((rgtN x:Int),true):=by unfold rgtA;rw [if_pos hx,Int.toNat_natCast]
 rw [e0] at cw
 dsimp only at cw
 have c1:=hh.bx
 have hiX:=infoSd X
 have cRt:=fun (V:World) (h:HasH p q (x:Int) X V)=>iRight_any (x:Int) V h.db
 rw [e1] at cRt
 dsimp only at cRt
 have cL:=fun (V:World) (h:HasH p q (x:Int) X V)=>sdHalf_any X hX lLef (by decide) (by decide) V h.tab
 replace cL:∀ V,HasH p q (x:Int) X V→Calls Tryz.prog 66 #[sdV X,.string { data:=#[108,101,102,116] }] V _:=cL
 have cR:=fun (V:World) (h:HasH p q (x:Int) X V)=>sdHalf_any X hX lRig (by decide) (by decide) V h.tab
 replace cR:∀ V,HasH p q (x:Int) X V→Calls Tryz.prog 66 #[sdV X,.string { data:=#[114,105,103,104,116] }] V _:=cR
 have hY0:∀ M W,Inv 0 M W→B≤W.heap.size→YieldAt Fence.wide 0 Tryz.prog l #[.int .i64 (lftN x:Int),sdV (halfS X lLef)] W (Ans B M (Inv 1) Brk W):=fun M W h1 h2=>hY 0 M W _ (by decide) rfl h1 h2
 have hY1:∀ M W,Inv 1 M W→B≤W.heap.size→YieldAt Fence.wide 0 Tryz.prog l #[.int .i64 (rgtN x:Int),sdV (halfS X lRig)] W (Ans B M (Inv 2) Brk W):=fun M W h1 h2=>hY 1 M W _ (by decide) rfl h1 h2
 have hh1:∀ M W,Inv 1 M W→HasH p q (x:Int) X W:=fun M W h=>hH 1 M W (by decide) h
 obtain ⟨nn,-⟩:∃ nn:Nat,True:=⟨1,trivial⟩
 clear e0 e1 hx hY hM hH
 generalize lftN x=lN at *
 generalize rgtN x=rN at *
 generalize halfS X lLef=YL at *
 generalize halfS X lRig=YR at *
 refine (callsIn_wide (n:=nn)).1 ?_
 refine callsIn_of_wp Tryz.func63 rfl trivial ?_ rfl
 simp only [Tryz.ntmps63,List.size_toArray,List.length_cons,List.length_nil,Nat.reduceAdd,Nat.reduceSub,Array.replicate_succ,Array.replicate_zero,List.push_toArray,List.append_toArray,List.nil_append,List.cons_append]
 gi_wp2_with (first
  | (refine ⟨trivial,(fun h=>by cases h),?_⟩;gi_at_call 64;refine (callsIn_wide.2 cw).mono ?_;clear cw;rintro e w1 ⟨rfl,hb1⟩;have h1:=hh.keep hb1;have c2:=h1.bx;have i1:=hI 0 M W w1 h0 (Loc.of_below hb1);have cRt1:=cRt w1 h1;clear cRt c1)
  | (refine ⟨trivial,(fun h=>by cases h),?_⟩;gi_at_call 65;refine (callsIn_wide.2 cRt1).mono ?_;clear cRt1;rintro e w2 ⟨rfl,hb2⟩;have h2:=h1.keep hb2;have i2:=hI 0 M w1 w2 i1 (Loc.of_below hb2);have cL2:=cL w2 h2;have rd2:=h2.sd;clear cL c2)
  | (refine wpListIn_load_mid rfl 60 _ rfl q 0 rfl (ints .u8 32 X) _ rd2 Tryz.underlying60 rfl hiX ?_;clear rd2)
  | (refine ⟨trivial,(fun h=>by cases h),?_⟩;gi_at_call 66;refine (callsIn_wide.2 cL2).mono ?_;clear cL2;rintro e w3 ⟨rfl,hb3⟩;have i3:=hI 0 M w2 w3 i2 (Loc.of_below hb3);(obtain ⟨fn,tmps,assign,body,hy,hR⟩:=hY0 M w3 i3 (Nat.le_trans hBW (Nat.le_trans hb1.size (Nat.le_trans hb2.size hb3.size))));have hsz:=Nat.le_trans hb1.size (Nat.le_trans hb2.size hb3.size);clear hY0))
 refine ⟨(fun h=>by cases h),(roundIn_deep hR).mono ?_⟩
 rintro e w4 ⟨hF,M',hM',⟨rfl,i4⟩ | ⟨rfl,hB4⟩⟩
 · have hh4:=hh1 M' w4 i4
   have rd4:=hh4.sd
   have cR4:=cR w4 hh4
   have hsz4:=Nat.le_trans hsz hF.size
   clear hy hR i3 i2 i1 h1 h2 hh hh1 cR
   gi_wp2_with (first
    | (refine wpListIn_load_mid rfl 60 _ rfl q 0 rfl (ints .u8 32 X) _ rd4 Tryz.underlying60 rfl hiX ?_;clear rd4)
    | (refine ⟨trivial,(fun h=>by cases h),?_⟩;gi_at_call 66;refine (callsIn_wide.2 cR4).mono ?_;clear cR4;rintro e w5 ⟨rfl,hb5⟩;have i5:=hI 1 M' w4 w5 i4 (Loc.of_below hb5);have hsz5:=Nat.le_trans hsz4 hb5.size;(obtain ⟨fn',tmps',assign',body',hy',hR'⟩:=hY1 M' w5 i5 (Nat.le_trans hBW hsz5));clear hY1))
   refine ⟨(fun h=>by cases h),(roundIn_deep hR').mono ?_⟩
   rintro e w6 ⟨hF6,M6,hM6,⟨rfl,i6⟩ | ⟨rfl,hB6⟩⟩
   · clear hy' hR' i5
     gi_wp2
     refine bodyPost_end (results_none rfl _ _ _) rfl ?_
     exact ⟨⟨_,rfl⟩,Nat.le_trans hsz5 hF6.size,M6,.inl i6⟩
   · clear hy' hR' i5
     gi_wp2
     refine bodyPost_end (results_none rfl _ _ _) rfl ?_
     exact ⟨⟨_,rfl⟩,Nat.le_trans hsz5 hF6.size,M6,.inr hB6⟩
 · clear hy hR i3
   gi_wp2
   refine bodyPost_end (results_none rfl _ _ _) rfl ?_
   exact ⟨⟨_,rfl⟩,Nat.le_trans hsz hF.size,M',.inr hB4⟩
end Go.Proofs.YtbbikhlbkpjpjaaGreatDoor
