/- Ranges over a function: what the kit's laws for them are used through; and what is there but for some blocks. -/
import Derived.Test.YtjbjbnooocbleaaLIter
namespace Go.Proofs.Ytjbjbnooocbleaa
open Go.RowKit Go.Shelf
attribute [local go_sem] Oper.semAt_some
/-- All but some blocks of what was there is as it was. -/
structure But (bad : Nat → Prop) (W W' : World) : Prop where
  os : W'.os = W.os
  tape : W'.tape = W.tape
  output : W'.output = W.output
  size : W.heap.size ≤ W'.heap.size
  block : ∀ k, k < W.heap.size → ¬bad k → W'.heap[k]? = W.heap[k]?
theorem But.refl (bad : Nat → Prop) (W : World) : But bad W W := ⟨rfl, rfl, rfl, Nat.le_refl _, fun _ _ _ => rfl⟩
theorem But.trans {bad : Nat → Prop} {A B C : World} (h : But bad A B) (k : But bad B C) : But bad A C := ⟨k.os.trans h.os, k.tape.trans h.tape, k.output.trans h.output, Nat.le_trans h.size k.size, fun i hi hb => (k.block i (Nat.lt_of_lt_of_le hi h.size) hb).trans (h.block i hi hb)⟩
theorem But.row {bad : Nat → Prop} {W W' : World} (h : But bad W W') {K : IntKind} {b o n : Nat} {X : Nat → Nat} (hr : RowAt K W b o n X) (hb : ¬bad b) : RowAt K W' b o n X := fun j hj => by
  have hl : b < W.heap.size := block_lt_of_cell (hr j hj).1
  exact ⟨(World.cell?_of_block (w := W) (h.block b hl hb)).trans (hr j hj).1, (World.frozen?_of_block (w := W) (h.block b hl hb)).trans (hr j hj).2⟩
theorem But.cell {bad : Nat → Prop} {W W' : World} (h : But bad W W') {b o : Nat} {v : Value} (hc : W.cell? ⟨b, o, none⟩ = some v) (hb : ¬bad b) : W'.cell? ⟨b, o, none⟩ = some v :=
  (World.cell?_of_block (w := W) (h.block b (block_lt_of_cell hc) hb)).trans hc
theorem wpListIn_load_mid {P : Program} {n : Nat} {ops : Array Oper} {rest : List Oper} {op : Oper} {a : Act} {w : World} {Q : Exit → Act → World → Prop} (hgd : op.guard = none) (ty : TypeId) (x : Operand) (ho : op.op = .load ty x)
    (b o : Nat) (hx : a.eval x = .pointer (some ⟨b, o, none⟩)) (cs : List Value) (d : TypeDesc) (hc : w.rangeAt b o cs)
    (hu : P.underlying ty = some d) (hd : d.isRow = true) (hi : (P.info? ty).map (·.size) = some cs.length)
    (h : wpListIn Fence.wide n P ops Q rest (a.put op.dst (.agg cs.toArray)) w) : wpListIn Fence.wide n P ops Q (op :: rest) a w :=
  wpListIn_plain hgd fun _ hK => ⟨fun _ _ => trivial, by
    have hsem : (op.semAt Fence.wide.round a.eval) = execOp a.eval op := rfl
    rw [hsem]
    unfold execOp
    simp only [ho, hx, Instr.loadAt, Instr.sureAddr, Sem.run_bind, Sem.run_pure, Result.andThen_ok, run_loadVar_mid w b o ty cs d hc hu hd hi]
    exact hK _ _ h⟩
theorem wpListIn_store_mid {P : Program} {n : Nat} {ops : Array Oper} {rest : List Oper} {op : Oper} {a : Act} {w : World} {Q : Exit → Act → World → Prop} (hgd : op.guard = none) (ty : TypeId) (x y : Operand) (ho : op.op = .store ty x y)
    (b o : Nat) (cells : Array Value) (hx : a.eval x = .pointer (some ⟨b, o, none⟩)) (hy : a.eval y = .agg cells) (ht : w.there b o cells.size) (hi : (P.info? ty).map (·.size) = some cells.size) (h1 : cells.all (·.oneCell') = true)
    (h : wpListIn Fence.wide n P ops Q rest (a.put op.dst undef) (w.setCells b o cells.toList)) : wpListIn Fence.wide n P ops Q (op :: rest) a w :=
  wpListIn_plain hgd fun _ hK => ⟨fun _ _ => trivial, by
    have hsem : (op.semAt Fence.wide.round a.eval) = execOp a.eval op := rfl
    rw [hsem]
    unfold execOp
    simp only [ho, hx, hy, Instr.storeAt, Instr.sureAddr, Sem.run_bind, Sem.run_pure, Result.andThen_ok, run_storeVar_mid w b o ty cells ht hi h1]
    exact hK _ _ h⟩
theorem But.below {bad : Nat → Prop} {W W' : World} (h : But bad W W') {B : Nat} (hB : B ≤ W.heap.size) (hb : ∀ k, bad k → B ≤ k) : Below B W W' := ⟨h.os, h.tape, h.output, h.size, fun k hk => h.block k (by omega) (fun hk' => by have := hb k hk'; omega)⟩
theorem but_put (W : World) (l : Nat) (o : Obj) : But (fun k => k = l) W (W.putObj l o) := ⟨rfl, rfl, rfl, by simp [World.putObj], fun k _ hb => World.putObj_heap_other (fun e => hb e)⟩
theorem But.mono {b c : Nat → Prop} {W W' : World} (h : But b W W') (hb : ∀ k, b k → c k) : But c W W' := ⟨h.os, h.tape, h.output, h.size, fun k hk hc => h.block k hk (fun e => hc (hb k e))⟩
/-- A range over a function of one's own, in whatever record. -/
theorem wpIn_range_with {F : Fence} {P : Program} {n : Nat} {g : Operand} {ps : Array Tmp} {assign body : Code} {Q : Exit → Act → World → Prop} {a : Act} {w : World} {gf : Nat} {lb : Array Value} (hro : F.round = none) (hF : ∀ f, F.fn f) (hd : F.depth.isSome = true → 1 ≤ n) (hg : a.eval g = .func (.func gf) #[] lb) (eg : ∀ args w, (callFunc gf args).run P w = .ok (.enter gf args) w)
    (h : ∀ r0 : Loop, r0.state = .ready → r0.pending = none → r0.tmps = a.tmps → r0.params = ps → r0.assign = assign → r0.body = body →
      CallsIn F (n - 1) P gf (#[.func (.yield (w.heap.size + 1)) #[] #[]] ++ lb) ((w.alloc (.deferred (some []))).alloc (.loop r0)) (rangePost F n P (w.heap.size + 1) Q { a with defers := [{ target := .collected w.heap.size, args := #[] }] ++ a.defers })) :
    (Code.rangeFunc g ps assign body).wpIn F n P Q a w := by
  refine wpIn_rangeFunc ?_
  intro fn _
  rw [hro]
  obtain ⟨r0, hr0⟩ : ∃ r0 : Loop, r0 = { state := .ready, pending := none, fn, tmps := a.tmps, params := ps, assign, body, defers := w.heap.size } := ⟨_, rfl⟩
  obtain ⟨W1, hW1⟩ : ∃ W1, (w.alloc (.deferred (some []))).alloc (.loop r0) = W1 := ⟨_, rfl⟩
  have hh := h r0 (by rw [hr0]) (by rw [hr0]) (by rw [hr0]) (by rw [hr0]) (by rw [hr0]) (by rw [hr0])
  rw [hW1] at hh
  clear h
  refine ⟨w.heap.size + 1, [{ target := .collected w.heap.size, args := #[] }], W1, { target := .fn (.func gf) lb, args := #[.func (.yield (w.heap.size + 1)) #[] #[]] }, W1, gf,
    #[.func (.yield (w.heap.size + 1)) #[] #[]] ++ lb, W1, ?_, ?_, ?_, ?_, hd, ?_⟩
  · rw [← hW1, hr0]; exact run_enterLoop_outer _ _ _ _ _
  · simp only [resolve, hg]
    simp [go_sem]
  · intro f' _; exact hF f'
  · simp [invoke, go_sem, eg]
  · exact hh
theorem loop_back (r0 : Loop) (h1 : r0.state = .ready) (h2 : r0.pending = none) : ({ { r0 with state := .busy } with state := .ready, pending := none } : Loop) = r0 := by
  cases r0
  cases h1
  cases h2
  rfl
theorem yield_round {P : Program} {n l : Nat} {r0 : Loop} {args : Array Value} {W : World} {R : Ending → World → Prop} (hl : W.heap[l]? = some (.loop r0)) (hs : args.size = r0.params.size)
    (h : r0.assign.wpIn (Fence.wide.inRound l) n P (Exit.then (fun a₁ w₁ => ∃ w₂, (Instr.beginRound l).run P w₁ = .ok () w₂ ∧ r0.body.wpIn (Fence.wide.inRound l) n P (roundPost P l R) a₁ w₂) (fun _ _ _ => False)) { tmps := (r0.params.zip args).foldl (fun tmps (t, a) => tmps.setIfInBounds t a) r0.tmps, defers := [] } W) : YieldAt Fence.wide n P l args W R :=
  ⟨r0.fn, _, r0.assign, r0.body, run_yield hl hs, roundIn_of_wpIn trivial h⟩
theorem RW.but {bad : Nat → Prop} {w w' : World} {g o : Nat} {cs : List Value} (h : RW w g o cs) (hb : But bad w w') (hne : ¬bad g) : RW w' g o cs :=
  ⟨fun j v hv => (World.cell?_of_block (w := w) (hb.block g h.lt hne)).trans (h.range j v hv), fun j hj => by
    rw [World.cell?_of_block (w := w) (hb.block g h.lt hne), World.frozen?_of_block (w := w) (hb.block g h.lt hne)]; exact h.there j hj, Nat.lt_of_lt_of_le h.lt hb.size⟩
theorem Out.but {b o n : Nat} {w w' : World} (h : Out b o n w w') : But (fun k => k = b) w w' := ⟨h.os, h.tape, h.output, h.size, fun k hk hne => h.block k hk hne⟩
theorem BytesIn.but {bad : Nat → Prop} {w w' : World} {bb ob n : Nat} {ks : Nat → Nat} (h : ∀ j, j < n → w.cell? ⟨bb, ob + j, none⟩ = some (.int .u8 (ks j))) (hb : But bad w w') (hne : ¬bad bb) : ∀ j, j < n → w'.cell? ⟨bb, ob + j, none⟩ = some (.int .u8 (ks j)) := fun j hj => hb.cell (h j hj) hne
end Go.Proofs.Ytjbjbnooocbleaa
