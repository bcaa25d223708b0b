/- Laws on an engine in memory: its eight words, its bytes and its count; what a call may change of a block; what write makes of them. -/
import Derived.Test.YtlfofbkanifocaaDoorMix
namespace Go.Proofs.YtlfofbkanifocaaDoor
open Go.RowKit
/-- But for the n cells from o on of block b all that was there is as it was. -/
structure Out (b o n : Nat) (w w' : World) : Prop where
  os : w'.os = w.os
  tape : w'.tape = w.tape
  output : w'.output = w.output
  size : w.heap.size ≤ w'.heap.size
  block : ∀ k, k < w.heap.size → k ≠ b → w'.heap[k]? = w.heap[k]?
  cell : ∀ q, (q < o ∨ o + n ≤ q) → w'.cell? ⟨b, q, none⟩ = w.cell? ⟨b, q, none⟩
  frozen : ∀ q, w'.frozen? ⟨b, q, none⟩ = w.frozen? ⟨b, q, none⟩
theorem Out.refl (b o n : Nat) (w : World) : Out b o n w w := ⟨rfl, rfl, rfl, Nat.le_refl _, fun _ _ _ => rfl, fun _ _ => rfl, fun _ => rfl⟩
theorem Out.trans {b o n : Nat} {u v w : World} (h : Out b o n u v) (k : Out b o n v w) : Out b o n u w :=
  ⟨k.os.trans h.os, k.tape.trans h.tape, k.output.trans h.output, Nat.le_trans h.size k.size, fun i hi hb => (k.block i (Nat.lt_of_lt_of_le hi h.size) hb).trans (h.block i hi hb), fun q hq => (k.cell q hq).trans (h.cell q hq), fun q => (k.frozen q).trans (h.frozen q)⟩
theorem Out.of_below {b o n : Nat} {w w' : World} (h : Below w.heap.size w w') (hb : b < w.heap.size) : Out b o n w w' :=
  ⟨h.os, h.tape, h.output, h.size, fun k hk _ => h.block k hk, fun q _ => h.cell (p := ⟨b, q, none⟩) hb, fun q => h.frozen (p := ⟨b, q, none⟩) hb⟩
theorem heap_setCells_other (b : Nat) : ∀ (vs : List Value) (o : Nat) (w : World) (k : Nat), k ≠ b → (w.setCells b o vs).heap[k]? = w.heap[k]?
  | [], _, _, _, _ => rfl
  | v :: r, o, w, k, h => by rw [World.setCells, heap_setCells_other b r (o + 1) _ k h]; exact Below.heap_setCell w ⟨b, o, none⟩ v k h
theorem setCells_same (b : Nat) : ∀ (vs : List Value) (o : Nat) (w : World), (w.setCells b o vs).os = w.os ∧ (w.setCells b o vs).tape = w.tape ∧ (w.setCells b o vs).output = w.output ∧ (w.setCells b o vs).heap.size = w.heap.size
  | [], _, _ => ⟨rfl, rfl, rfl, rfl⟩
  | v :: r, o, w => by
    have h := setCells_same b r (o + 1) (w.setCell ⟨b, o, none⟩ v)
    rw [World.setCells]
    exact ⟨h.1, h.2.1, h.2.2.1, by rw [h.2.2.2]; simp⟩
theorem Out.setCells {b o n : Nat} (w : World) {p : Nat} (vs : List Value) (h1 : o ≤ p) (h2 : p + vs.length ≤ o + n) : Out b o n w (w.setCells b p vs) := by
  have h := setCells_same b vs p w
  refine ⟨h.1, h.2.1, h.2.2.1, by rw [h.2.2.2]; exact Nat.le_refl _, fun k _ hk => heap_setCells_other b vs p w k hk, fun q hq => ?_, fun q => World.frozen?_setCells b vs p w _⟩
  exact World.cell?_setCells_out b vs p w _ (fun _ _ => by show q < p ∨ p + vs.length ≤ q; omega)
theorem Out.setCell {b o n : Nat} (w : World) {p : Nat} (v : Value) (h1 : o ≤ p) (h2 : p < o + n) : Out b o n w (w.setCell ⟨b, p, none⟩ v) :=
  Out.setCells w [v] h1 (by simp; omega)
theorem Out.below {b o n B : Nat} {w w' : World} (h : Out b o n w w') (hb : B ≤ b) (hB : B ≤ w.heap.size) : Below B w w' :=
  ⟨h.os, h.tape, h.output, h.size, fun k hk => h.block k (by omega) (by omega)⟩
theorem Out.cell' {b o n : Nat} {w w' : World} (h : Out b o n w w') {c q : Nat} (hc : c < w.heap.size) (hb : c ≠ b) : w'.cell? ⟨c, q, none⟩ = w.cell? ⟨c, q, none⟩ := World.cell?_of_block (w := w) (h.block c hc hb)
theorem Out.frozen' {b o n : Nat} {w w' : World} (h : Out b o n w w') {c q : Nat} (hc : c < w.heap.size) (hb : c ≠ b) : w'.frozen? ⟨c, q, none⟩ = w.frozen? ⟨c, q, none⟩ := World.frozen?_of_block (w := w) (h.block c hc hb)
theorem Out.row {b o n : Nat} {w w' : World} (h : Out b o n w w') {K : IntKind} {c p m : Nat} {X : Nat → Nat} (hr : RowAt K w c p m X) (hc : c ≠ b) : RowAt K w' c p m X := fun j hj =>
  ⟨(h.cell' (block_lt_of_cell (hr j hj).1) hc).trans (hr j hj).1, (h.frozen' (block_lt_of_cell (hr j hj).1) hc).trans (hr j hj).2⟩
/-- c places from i on changed. -/
def over (R : Nat → Nat) (i c : Nat) (Y : Nat → Nat) : Nat → Nat := fun j => if i ≤ j ∧ j < i + c then Y (j - i) else R j
theorem over_lt {R Y : Nat → Nat} {i c p : Nat} (hR : ∀ j, R j < p) (hY : ∀ j, Y j < p) : ∀ j, over R i c Y j < p := fun j => by
  unfold over; split
  · exact hY _
  · exact hR _
theorem RowAt.splice {K : IntKind} {w : World} {b o n : Nat} {X : Nat → Nat} (h : RowAt K w b o n X) (i c : Nat) (Y : Nat → Nat) (hi : i + c ≤ n) : RowAt K (w.setCells b (o + i) (ints K c Y)) b o n (over X i c Y) := fun j hj => by
  refine ⟨?_, by rw [World.frozen?_setCells]; exact (h j hj).2⟩
  by_cases e : i ≤ j ∧ j < i + c
  · have hin := World.cell?_setCells_in b (ints K c Y) (o + i) w (fun q hq => by rw [ints_len] at hq; have := (h (i + q) (by omega)).1; rw [← Nat.add_assoc] at this; rw [this]; rfl) (j - i) (by rw [ints_len]; omega)
    rw [show o + i + (j - i) = o + j by omega] at hin
    rw [hin]
    have := ints_at K c Y (j - i) (by omega)
    rw [List.getElem?_eq_getElem (by rw [ints_len]; omega)] at this
    simp only [over, e, and_self, if_true]
    exact this
  · rw [World.cell?_setCells_out b _ _ w _ (fun _ _ => by rw [ints_len]; show o + j < o + i ∨ o + i + c ≤ o + j; omega)]
    simp only [over, e, if_false]
    exact (h j hj).1
theorem RowAt.apart {K : IntKind} {w : World} {b o n : Nat} {X : Nat → Nat} (h : RowAt K w b o n X) (p : Nat) (vs : List Value) (hp : o + n ≤ p ∨ p + vs.length ≤ o) : RowAt K (w.setCells b p vs) b o n X := fun j hj =>
  ⟨by rw [World.cell?_setCells_out b vs p w _ (fun _ _ => by show o + j < p ∨ p + vs.length ≤ o + j; omega)]; exact (h j hj).1, by rw [World.frozen?_setCells]; exact (h j hj).2⟩
/-- An engine's cells. -/
structure EngAt (K : IntKind) (w : World) (b o : Nat) (s : St) (R : Nat → Nat) (c : Nat) : Prop where
  st : RowAt K w b o 8 s.at
  rest : RowAt .u8 w b (o + 8) 128 R
  cnt : w.cell? ⟨b, o + 136, none⟩ = some (.int .i64 c)
  cntf : w.frozen? ⟨b, o + 136, none⟩ = false
theorem EngAt.below {K : IntKind} {w w' : World} {b o : Nat} {s : St} {R : Nat → Nat} {c : Nat} (h : EngAt K w b o s R c) (hb : Below w.heap.size w w') : EngAt K w' b o s R c := by
  have hl : b < w.heap.size := block_lt_of_cell h.cnt
  exact ⟨h.st.below hb hl, h.rest.below hb hl, (hb.cell (p := ⟨b, o + 136, none⟩) hl).trans h.cnt, (hb.frozen (p := ⟨b, o + 136, none⟩) hl).trans h.cntf⟩
theorem EngAt.count {K : IntKind} {w : World} {b o : Nat} {s : St} {R : Nat → Nat} {c : Nat} (h : EngAt K w b o s R c) {v : Int} {c' : Nat} (hv : v = (c' : Int)) : EngAt K (w.setCell ⟨b, o + 136, none⟩ (.int .i64 v)) b o s R c' := by
  refine ⟨h.st.apart (o + 136) [.int .i64 v] (.inl (by omega)), h.rest.apart (o + 136) [.int .i64 v] (.inl (by omega)), ?_, by rw [World.frozen?_setCell]; exact h.cntf⟩
  rw [World.cell?_setCell_same _ _ _ h.cnt, hv]
theorem EngAt.bytes {K : IntKind} {w : World} {b o : Nat} {s : St} {R : Nat → Nat} {c : Nat} (h : EngAt K w b o s R c) (i n : Nat) (Y : Nat → Nat) (hi : i + n ≤ 128) : EngAt K (w.setCells b (o + 8 + i) (ints .u8 n Y)) b o s (over R i n Y) c := by
  refine ⟨h.st.apart _ _ (.inl (by omega)), h.rest.splice i n Y hi, ?_, by rw [World.frozen?_setCells]; exact h.cntf⟩
  rw [World.cell?_setCells_out b _ _ w _ (fun _ _ => by rw [ints_len]; show o + 136 < o + 8 + i ∨ o + 8 + i + n ≤ o + 136; omega)]
  exact h.cnt
theorem vals_ints (K : IntKind) (s : St) : (St.vals K s).toList = ints K 8 s.at := rfl
theorem EngAt.state {K : IntKind} {w : World} {b o : Nat} {s : St} {R : Nat → Nat} {c : Nat} (h : EngAt K w b o s R c) (s' : St) : EngAt K (w.setCells b o (St.vals K s').toList) b o s' R c := by
  have e : over s.at 0 8 s'.at = over s.at 0 8 s'.at := rfl
  have h1 := h.st.splice 0 8 s'.at (by decide)
  rw [Nat.add_zero] at h1
  rw [vals_ints]
  refine ⟨fun j hj => ?_, h.rest.apart _ _ (.inr (by rw [ints_len]; omega)), ?_, by rw [World.frozen?_setCells]; exact h.cntf⟩
  · have := h1 j hj
    have e2 : over s.at 0 8 s'.at j = s'.at j := by simp [over, hj]
    rw [e2] at this
    exact this
  · rw [World.cell?_setCells_out b _ _ w _ (fun _ _ => by rw [ints_len]; show o + 136 < o ∨ o + 8 ≤ o + 136; omega)]
    exact h.cnt
/-- A state behind so many blocks. -/
def loopS (r : Ru) (K : Nat → Nat) (s : St) (bs : Nat → Nat) : Nat → St
  | 0 => s
  | i + 1 => blockS r K (fun j => bs (i * (2 * r.m) + j)) (loopS r K s bs i)
theorem loopS_lt {r : Ru} {K : Nat → Nat} {s : St} {bs : Nat → Nat} (h : s.lt (2 ^ r.m)) : ∀ i, (loopS r K s bs i).lt (2 ^ r.m)
  | 0 => h
  | _ + 1 => addS_lt
def tailE (r : Ru) (K : Nat → Nat) (s : St) (R : Nat → Nat) (n : Nat) (bs : Nat → Nat) : St × (Nat → Nat) :=
  (loopS r K s bs (n / (2 * r.m)), over R 0 (n % (2 * r.m)) (fun j => bs (n / (2 * r.m) * (2 * r.m) + j)))
/-- What write makes of a state and of the bytes that are held. -/
def writeE (r : Ru) (K : Nat → Nat) (s : St) (R : Nat → Nat) (c n : Nat) (bs : Nat → Nat) : St × (Nat → Nat) :=
  if c % (2 * r.m) = 0 then tailE r K s R n bs
  else if c % (2 * r.m) + n < 2 * r.m then (s, over R (c % (2 * r.m)) n bs)
  else tailE r K (blockS r K (over R (c % (2 * r.m)) (2 * r.m - c % (2 * r.m)) bs) s) (over R (c % (2 * r.m)) (2 * r.m - c % (2 * r.m)) bs) (n - (2 * r.m - c % (2 * r.m))) (fun j => bs (2 * r.m - c % (2 * r.m) + j))
/-- The source of a copy: nothing, or bytes in memory. -/
def Src (w : World) (v : Option Addr) (n : Nat) (bs : Nat → Nat) : Prop := n = 0 ∨ ∃ bb ob, v = some ⟨bb, ob, none⟩ ∧ ∀ j, j < n → w.cell? ⟨bb, ob + j, none⟩ = some (.int .u8 (bs j))
theorem run_copy_bytes {P : Program} (w : World) (dT sT ty elem : TypeId) (b o dLen dCap : Nat) (v : Option Addr) (n cap m : Nat) (bs : Nat → Nat)
    (hu : P.underlying dT = some (.slice elem)) (hs : (P.info? elem).map (·.size) = some 1) (hsrc : Src w v n bs) (hm : m = Nat.min n dLen)
    (ht : w.there b o dLen) :
    (Builtin.copy_ #[dT, sT] ty #[.slice (some ⟨b, o, none⟩) dLen dCap, .slice v n cap]).run P w = .ok (goInt m) (w.setCells b o (ints .u8 m bs)) := by
  by_cases h0 : m = 0
  · subst h0; exact run_copy_none w dT sT ty elem _ _ dLen dCap n cap hu hs hm.symm
  · have hn : m ≤ n ∧ m ≤ dLen := by subst hm; exact ⟨Nat.min_le_left _ _, Nat.min_le_right _ _⟩
    rcases hsrc with h | ⟨bb, ob, rfl, hc⟩
    · omega
    · have := run_copy_cells (P := P) w dT sT ty elem b o dLen dCap ⟨bb, ob, none⟩ n cap (ints .u8 m bs) hu hs (by rw [ints_len, hm]) (fun j u hj => by
        have hj' : j < m := by have := (List.getElem?_eq_some_iff.1 hj).1; rwa [ints_len] at this
        rw [ints_at _ _ _ j hj'] at hj
        rw [Addr.add_mid, ← hj]
        exact hc j (by omega)) (fun j hj => (ht j (by rw [ints_len] at hj; omega)).1) (fun j hj => (ht j (by rw [ints_len] at hj; omega)).2) (ints_one _ _ _)
      rw [ints_len] at this
      exact this
theorem wpList_copy_bytes {P : Program} {w : World} {ops : Array Oper} {rest : List Oper} {op : Oper} {a : Act} {Q : Exit → Act → World → Prop} (hgd : op.guard = none) (d s : Operand) (dT sT : TypeId)
    (ho : op.op = .call { callee := .builtin .copy, args := #[d, s], argTypes := #[dT, sT] }) (elem : TypeId) (hu : P.underlying dT = some (.slice elem)) (hsz : (P.info? elem).map (·.size) = some 1)
    (b o dLen dCap : Nat) (v : Option Addr) (n cap : Nat) (hd : a.eval d = .slice (some ⟨b, o, none⟩) dLen dCap) (hs : a.eval s = .slice v n cap)
    (m : Nat) (bs : Nat → Nat) (hsrc : Src w v n bs) (hm : m = Nat.min n dLen) (ht : w.there b o dLen)
    (h : wpList P ops Q rest (a.put op.dst (goInt m)) (w.setCells b o (ints .u8 m bs))) : wpList P ops Q (op :: rest) a w := by
  refine wpList_plain hgd fun K hK => ?_
  have hrun := run_copy_bytes (P := P) w dT sT op.type elem b o dLen dCap v n cap m bs hu hsz hsrc hm ht
  unfold Oper.wp
  simp [execOp, ho, resolve, invoke, builtin, hd, hs, hrun, Result.andThen]
  exact hK _ _ h
end Go.Proofs.YtlfofbkanifocaaDoor
