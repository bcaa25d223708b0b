/- What the proof stands on: Base, W64, Bts, IRow, Words, ICar, RefSub, RefApi, RefPow, Limbs, Number. -/
import Derived.Test.YtdgkmloabificaaDoorRows
import Derived.ArgAppend
import Derived.BigQuiet
import Derived.Deep.AppendLies
import Derived.Deep.MidRow
import Derived.Deep.QuietTactic
import Derived.Deep.RegionHeld3
import Derived.Deep.RegionLawGrows
import Derived.Deep.Upon
import Derived.Laws.Bits64
import Derived.Laws.Bits64b
import Derived.Laws.BitsAllLaws
import Derived.Laws.Externs
import Derived.Shelf.Bits.Mul64
import Derived.Shelf.Spec.BitsCarry
import Derived.WalkKit
import Derived.WalkLawsBesides
import Derived.WalkSpells
namespace Go.Proofs.YtdgkmloabificaaDoor
open Go.RowKit
theorem retInt {k : IntKind} {a b : Int} (h : a = b) : Ending.returned (.int k a) = .returned (.int k b) := by rw [h]
theorem below_drewN {B : Nat} {a w : World} (h : Below B a w) (n : Nat) : Below B a (w.drewN n) := ⟨h.os, h.tape, h.output, h.size, h.block⟩
/-- A function with one place changed. -/
def upd (X : Nat → Nat) (i v : Nat) : Nat → Nat := fun j => if j = i then v else X j
/-- n cells from o on of block b hold the numbers X, and may be written. -/
def RowAt (K : IntKind) (w : World) (b o n : Nat) (X : Nat → Nat) : Prop := ∀ j, j < n → w.cell? ⟨b, o + j, none⟩ = some (.int K (X j)) ∧ w.frozen? ⟨b, o + j, none⟩ = false
theorem RowAt.drew {K : IntKind} {w : World} {b o n : Nat} {X : Nat → Nat} (h : RowAt K w b o n X) : RowAt K w.drew b o n X := fun j hj => h j hj
theorem RowAt.set {K : IntKind} {w : World} {b o n : Nat} {X : Nat → Nat} (h : RowAt K w b o n X) {i : Nat} (hi : i < n) {v : Int} {u : Nat} (hv : v = (u : Int)) : RowAt K (w.setCell ⟨b, o + i, none⟩ (.int K v)) b o n (upd X i u) := fun j hj => by
 refine ⟨?_, by rw [World.frozen?_setCell]; exact (h j hj).2⟩
 by_cases e : j = i
 · subst e; rw [World.cell?_setCell_same _ _ _ (h j hj).1]; simp [upd, hv]
 · have hne : (⟨b, o + i, none⟩ : Addr) ≠ ⟨b, o + j, none⟩ := fun h => by injection h; omega
   rw [World.cell?_setCell_other _ _ _ _ hne]; simp [upd, e, (h j hj).1]
theorem RowAt.far {K : IntKind} {w : World} {b o n : Nat} {X : Nat → Nat} (h : RowAt K w b o n X) {a : Addr} (ha : a.block ≠ b) (v : Value) : RowAt K (w.setCell a v) b o n X := fun j hj => by
 refine ⟨?_, by rw [World.frozen?_setCell]; exact (h j hj).2⟩
 rw [World.cell?_setCell_other _ _ _ _ (fun e => ha (by rw [e]))]; exact (h j hj).1
theorem RowAt.below {K : IntKind} {B : Nat} {w w' : World} {b o n : Nat} {X : Nat → Nat} (h : RowAt K w b o n X) (hb : Below B w w') (hB : b < B) : RowAt K w' b o n X := fun j hj =>
 ⟨(hb.cell (p := ⟨b, o + j, none⟩) hB).trans (h j hj).1, (hb.frozen (p := ⟨b, o + j, none⟩) hB).trans (h j hj).2⟩
theorem RowAt.fresh {K : IntKind} {w : World} {cs : Array Value} {t : TypeId} {n : Nat} {X : Nat → Nat} (h : ∀ j, j < n → cs[j]? = some (.int K (X j))) : RowAt K (w.alloc (.cells cs t)) w.heap.size 0 n X := fun j hj => by
 constructor
 · simp [h j hj]
 · simp
theorem RowAt.alloc {K : IntKind} {w : World} {b o n : Nat} {X : Nat → Nat} (h : RowAt K w b o n X) (hb : b < w.heap.size) (ob : Obj) : RowAt K (w.alloc ob) b o n X :=
 h.below ((Below.refl w.heap.size w).alloc (Nat.le_refl _) ob) hb
/-- The numbers as cells. -/
def ints (K : IntKind) (n : Nat) (X : Nat → Nat) : List Value := (List.range n).map fun j => .int K (X j)
theorem ints_len (K : IntKind) (n : Nat) (X : Nat → Nat) : (ints K n X).length = n := by simp [ints]
theorem ints_at (K : IntKind) (n : Nat) (X : Nat → Nat) (j : Nat) (h : j < n) : (ints K n X)[j]? = some (.int K (X j)) := by simp [ints, h]
theorem ints_one (K : IntKind) (n : Nat) (X : Nat → Nat) : ∀ v ∈ ints K n X, v.oneCell' = true := fun v hv => by
 simp only [ints, List.mem_map] at hv
 obtain ⟨_, _, rfl⟩ := hv
 rfl
theorem RowAt.range {K : IntKind} {w : World} {b o n : Nat} {X : Nat → Nat} (h : RowAt K w b o n X) : w.rangeAt b o (ints K n X) := fun j v hv => by
 have hj : j < n := by have := (List.getElem?_eq_some_iff.1 hv).1; rwa [ints_len] at this
 rw [ints_at K n X j hj] at hv
 rw [← hv]; exact (h j hj).1
theorem RowAt.there {K : IntKind} {w : World} {b o n : Nat} {X : Nat → Nat} (h : RowAt K w b o n X) : w.there b o n := fun j hj => by
 rw [(h j hj).1]; exact ⟨rfl, (h j hj).2⟩
theorem results_cell_mid {P : Program} {fn : Func} {p : Tmp} {ty : TypeId} (h : fn.results = #[.cell p ty]) (tmps : Array Value) (w : World) (g o : Nat) (cs : List Value) (d : TypeDesc)
 (hp : tmps.getD p undef = .pointer (some ⟨g, o, none⟩)) (hc : w.rangeAt g o cs)
 (hu : P.underlying ty = some d) (hd : d.isRow = true) (hi : (P.info? ty).map (·.size) = some cs.length) :
 (results fn tmps).run P w = .ok (.agg cs.toArray) w := by
 have hp' : tmps[p]?.getD undef = .pointer (some ⟨g, o, none⟩) := by simpa using hp
 simp [results, h, hp', asAddr, run_loadVar_mid w g o ty cs d hc hu hd hi]
theorem below_setCells {B : Nat} {a : World} {b : Nat} (hb : B ≤ b) : ∀ (vs : List Value) (o : Nat) (w : World), Below B a w → Below B a (w.setCells b o vs)
 | [], _, _, h => h
 | v :: r, o, w, h => by rw [World.setCells]; exact below_setCells hb r (o + 1) _ (h.setCell hb v)
theorem below_next {W a b : World} (h : Below W.heap.size W a) (hb : Below a.heap.size a b) : Below W.heap.size W b := h.trans (hb.mono h.size)
/-- A world that is as W was but for new blocks, and perhaps for one cell. -/
def Near (b o : Nat) (W w' : World) : Prop := ∃ w0, Below W.heap.size W w0 ∧ (w' = w0 ∨ ∃ u, w' = w0.setCell ⟨b, o, none⟩ u)
theorem Near.of_below {b o : Nat} {W w' : World} (h : Below W.heap.size W w') : Near b o W w' := ⟨w', h, .inl rfl⟩
theorem Near.set {b o : Nat} {W w' : World} (h : Below W.heap.size W w') (u : Value) : Near b o W (w'.setCell ⟨b, o, none⟩ u) := ⟨w', h, .inr ⟨u, rfl⟩⟩
theorem Near.cell {b o : Nat} {W w' : World} (h : Near b o W w') (p q : Nat) (hp : p < W.heap.size) (hne : p = b → q ≠ o) : w'.cell? ⟨p, q, none⟩ = W.cell? ⟨p, q, none⟩ := by
 obtain ⟨w0, hb, rfl | ⟨u, rfl⟩⟩ := h
 · exact hb.cell (p := ⟨p, q, none⟩) hp
 · rw [World.cell?_setCell_other _ _ _ _ (fun e => by injection e with e1 e2; exact hne e1.symm e2.symm)]; exact hb.cell (p := ⟨p, q, none⟩) hp
theorem Near.frozen {b o : Nat} {W w' : World} (h : Near b o W w') (p q : Nat) (hp : p < W.heap.size) : w'.frozen? ⟨p, q, none⟩ = W.frozen? ⟨p, q, none⟩ := by
 obtain ⟨w0, hb, rfl | ⟨u, rfl⟩⟩ := h
 · exact hb.frozen (p := ⟨p, q, none⟩) hp
 · rw [World.frozen?_setCell]; exact hb.frozen (p := ⟨p, q, none⟩) hp
theorem Near.some {b o : Nat} {W w' : World} (h : Near b o W w') {v : Value} (hv : W.cell? ⟨b, o, none⟩ = .some v) : ∃ u, w'.cell? ⟨b, o, none⟩ = .some u := by
 obtain ⟨w0, hb, rfl | ⟨u, rfl⟩⟩ := h
 · exact ⟨v, (hb.cell (p := ⟨b, o, none⟩) (block_lt_of_cell hv)).trans hv⟩
 · exact ⟨u, World.cell?_setCell_same _ _ _ ((hb.cell (p := ⟨b, o, none⟩) (block_lt_of_cell hv)).trans hv)⟩
/-- But for the n cells from o on of block b all that was there is as it was. -/
structure Out (b o n : Nat) (w w' : World) : Prop where
 os : w'.os = w.os
 tape : w'.tape = w.tape
 output : w'.output = w.output
 size : w.heap.size ≤ w'.heap.size
 block : ∀ k, k < w.heap.size → k ≠ b → w'.heap[k]? = w.heap[k]?
 cell : ∀ q, (q < o ∨ o + n ≤ q) → w'.cell? ⟨b, q, none⟩ = w.cell? ⟨b, q, none⟩
 frozen : ∀ q, w'.frozen? ⟨b, q, none⟩ = w.frozen? ⟨b, q, none⟩
theorem Out.refl (b o n : Nat) (w : World) : Out b o n w w := ⟨rfl, rfl, rfl, Nat.le_refl _, fun _ _ _ => rfl, fun _ _ => rfl, fun _ => rfl⟩
theorem Out.trans {b o n : Nat} {u v w : World} (h : Out b o n u v) (k : Out b o n v w) : Out b o n u w :=
 ⟨k.os.trans h.os, k.tape.trans h.tape, k.output.trans h.output, Nat.le_trans h.size k.size, fun i hi hb => (k.block i (Nat.lt_of_lt_of_le hi h.size) hb).trans (h.block i hi hb), fun q hq => (k.cell q hq).trans (h.cell q hq), fun q => (k.frozen q).trans (h.frozen q)⟩
theorem Out.of_below {b o n : Nat} {w w' : World} (h : Below w.heap.size w w') (hb : b < w.heap.size) : Out b o n w w' :=
 ⟨h.os, h.tape, h.output, h.size, fun k hk _ => h.block k hk, fun q _ => h.cell (p := ⟨b, q, none⟩) hb, fun q => h.frozen (p := ⟨b, q, none⟩) hb⟩
theorem heap_setCells_other (b : Nat) : ∀ (vs : List Value) (o : Nat) (w : World) (k : Nat), k ≠ b → (w.setCells b o vs).heap[k]? = w.heap[k]?
 | [], _, _, _, _ => rfl
 | v :: r, o, w, k, h => by rw [World.setCells, heap_setCells_other b r (o + 1) _ k h]; exact Below.heap_setCell w ⟨b, o, none⟩ v k h
theorem setCells_same (b : Nat) : ∀ (vs : List Value) (o : Nat) (w : World), (w.setCells b o vs).os = w.os ∧ (w.setCells b o vs).tape = w.tape ∧ (w.setCells b o vs).output = w.output ∧ (w.setCells b o vs).heap.size = w.heap.size
 | [], _, _ => ⟨rfl, rfl, rfl, rfl⟩
 | v :: r, o, w => by
  have h := setCells_same b r (o + 1) (w.setCell ⟨b, o, none⟩ v)
  rw [World.setCells]
  exact ⟨h.1, h.2.1, h.2.2.1, by rw [h.2.2.2]; simp⟩
theorem Out.setCells {b o n : Nat} (w : World) {p : Nat} (vs : List Value) (h1 : o ≤ p) (h2 : p + vs.length ≤ o + n) : Out b o n w (w.setCells b p vs) := by
 have h := setCells_same b vs p w
 refine ⟨h.1, h.2.1, h.2.2.1, by rw [h.2.2.2]; exact Nat.le_refl _, fun k _ hk => heap_setCells_other b vs p w k hk, fun q hq => ?_, fun q => World.frozen?_setCells b vs p w _⟩
 exact World.cell?_setCells_out b vs p w _ (fun _ _ => by show q < p ∨ p + vs.length ≤ q; omega)
theorem Out.drew {b o n : Nat} (w : World) : Out b o n w w.drew := ⟨rfl, rfl, rfl, Nat.le_refl _, fun _ _ _ => rfl, fun _ _ => rfl, fun _ => rfl⟩
theorem Out.setCell {b o n : Nat} (w : World) {p : Nat} (v : Value) (h1 : o ≤ p) (h2 : p < o + n) : Out b o n w (w.setCell ⟨b, p, none⟩ v) :=
 Out.setCells w [v] h1 (by simp; omega)
theorem Out.below {b o n B : Nat} {w w' : World} (h : Out b o n w w') (hb : B ≤ b) (hB : B ≤ w.heap.size) : Below B w w' :=
 ⟨h.os, h.tape, h.output, h.size, fun k hk => h.block k (by omega) (by omega)⟩
theorem Out.cell' {b o n : Nat} {w w' : World} (h : Out b o n w w') {c q : Nat} (hc : c < w.heap.size) (hb : c ≠ b) : w'.cell? ⟨c, q, none⟩ = w.cell? ⟨c, q, none⟩ := World.cell?_of_block (w := w) (h.block c hc hb)
theorem Out.frozen' {b o n : Nat} {w w' : World} (h : Out b o n w w') {c q : Nat} (hc : c < w.heap.size) (hb : c ≠ b) : w'.frozen? ⟨c, q, none⟩ = w.frozen? ⟨c, q, none⟩ := World.frozen?_of_block (w := w) (h.block c hc hb)
theorem Out.row {b o n : Nat} {w w' : World} (h : Out b o n w w') {K : IntKind} {c p m : Nat} {X : Nat → Nat} (hr : RowAt K w c p m X) (hc : c ≠ b) : RowAt K w' c p m X := fun j hj =>
 ⟨(h.cell' (block_lt_of_cell (hr j hj).1) hc).trans (hr j hj).1, (h.frozen' (block_lt_of_cell (hr j hj).1) hc).trans (hr j hj).2⟩
/-- c places from i on changed. -/
def over (R : Nat → Nat) (i c : Nat) (Y : Nat → Nat) : Nat → Nat := fun j => if i ≤ j ∧ j < i + c then Y (j - i) else R j
theorem over_lt {R Y : Nat → Nat} {i c p : Nat} (hR : ∀ j, R j < p) (hY : ∀ j, Y j < p) : ∀ j, over R i c Y j < p := fun j => by
 unfold over; split
 · exact hY _
 · exact hR _
theorem RowAt.splice {K : IntKind} {w : World} {b o n : Nat} {X : Nat → Nat} (h : RowAt K w b o n X) (i c : Nat) (Y : Nat → Nat) (hi : i + c ≤ n) : RowAt K (w.setCells b (o + i) (ints K c Y)) b o n (over X i c Y) := fun j hj => by
 refine ⟨?_, by rw [World.frozen?_setCells]; exact (h j hj).2⟩
 by_cases e : i ≤ j ∧ j < i + c
 · have hin := World.cell?_setCells_in b (ints K c Y) (o + i) w (fun q hq => by rw [ints_len] at hq; have := (h (i + q) (by omega)).1; rw [← Nat.add_assoc] at this; rw [this]; rfl) (j - i) (by rw [ints_len]; omega)
   rw [show o + i + (j - i) = o + j by omega] at hin
   rw [hin]
   have := ints_at K c Y (j - i) (by omega)
   rw [List.getElem?_eq_getElem (by rw [ints_len]; omega)] at this
   simp only [over, e, and_self, if_true]
   exact this
 · rw [World.cell?_setCells_out b _ _ w _ (fun _ _ => by rw [ints_len]; show o + j < o + i ∨ o + i + c ≤ o + j; omega)]
   simp only [over, e, if_false]
   exact (h j hj).1
theorem RowAt.apart {K : IntKind} {w : World} {b o n : Nat} {X : Nat → Nat} (h : RowAt K w b o n X) (p : Nat) (vs : List Value) (hp : o + n ≤ p ∨ p + vs.length ≤ o) : RowAt K (w.setCells b p vs) b o n X := fun j hj =>
 ⟨by rw [World.cell?_setCells_out b vs p w _ (fun _ _ => by show o + j < p ∨ p + vs.length ≤ o + j; omega)]; exact (h j hj).1, by rw [World.frozen?_setCells]; exact (h j hj).2⟩
/-- The source of a copy: nothing, or bytes in memory. -/
def Src (w : World) (v : Option Addr) (n : Nat) (bs : Nat → Nat) : Prop := n = 0 ∨ ∃ bb ob, v = some ⟨bb, ob, none⟩ ∧ ∀ j, j < n → w.cell? ⟨bb, ob + j, none⟩ = some (.int .u8 (bs j))
theorem run_copy_bytes {P : Program} (w : World) (dT sT ty elem : TypeId) (b o dLen dCap : Nat) (v : Option Addr) (n cap m : Nat) (bs : Nat → Nat)
 (hu : P.underlying dT = some (.slice elem)) (hs : (P.info? elem).map (·.size) = some 1) (hsrc : Src w v n bs) (hm : m = Nat.min n dLen)
 (ht : w.there b o dLen) :
 (Builtin.copy_ #[dT, sT] ty #[.slice (some ⟨b, o, none⟩) dLen dCap, .slice v n cap]).run P w = .ok (goInt m) (w.setCells b o (ints .u8 m bs)) := by
 by_cases h0 : m = 0
 · subst h0; exact run_copy_none w dT sT ty elem _ _ dLen dCap n cap hu hs hm.symm
 · have hn : m ≤ n ∧ m ≤ dLen := by subst hm; exact ⟨Nat.min_le_left _ _, Nat.min_le_right _ _⟩
   rcases hsrc with h | ⟨bb, ob, rfl, hc⟩
   · omega
   · have := run_copy_cells (P := P) w dT sT ty elem b o dLen dCap ⟨bb, ob, none⟩ n cap (ints .u8 m bs) hu hs (by rw [ints_len, hm]) (fun j u hj => by
      have hj' : j < m := by have := (List.getElem?_eq_some_iff.1 hj).1; rwa [ints_len] at this
      rw [ints_at _ _ _ j hj'] at hj
      rw [Addr.add_mid, ← hj]
      exact hc j (by omega)) (fun j hj => (ht j (by rw [ints_len] at hj; omega)).1) (fun j hj => (ht j (by rw [ints_len] at hj; omega)).2) (ints_one _ _ _)
     rw [ints_len] at this
     exact this
theorem wpList_copy_bytes {P : Program} {w : World} {ops : Array Oper} {rest : List Oper} {op : Oper} {a : Act} {Q : Exit → Act → World → Prop} (hgd : op.guard = none) (d s : Operand) (dT sT : TypeId)
 (ho : op.op = .call { callee := .builtin .copy, args := #[d, s], argTypes := #[dT, sT] }) (elem : TypeId) (hu : P.underlying dT = some (.slice elem)) (hsz : (P.info? elem).map (·.size) = some 1)
 (b o dLen dCap : Nat) (v : Option Addr) (n cap : Nat) (hd : a.eval d = .slice (some ⟨b, o, none⟩) dLen dCap) (hs : a.eval s = .slice v n cap)
 (m : Nat) (bs : Nat → Nat) (hsrc : Src w v n bs) (hm : m = Nat.min n dLen) (ht : w.there b o dLen)
 (h : wpList P ops Q rest (a.put op.dst (goInt m)) (w.setCells b o (ints .u8 m bs))) : wpList P ops Q (op :: rest) a w := by
 refine wpList_plain hgd fun K hK => ?_
 have hrun := run_copy_bytes (P := P) w dT sT op.type elem b o dLen dCap v n cap m bs hu hsz hsrc hm ht
 unfold Oper.wp
 simp [execOp, ho, resolve, invoke, builtin, hd, hs, hrun, Result.andThen]
 exact hK _ _ h
theorem RowAt.congr {K : IntKind} {w : World} {b o n : Nat} {X Y : Nat → Nat} (h : RowAt K w b o n X) (e : ∀ j, j < n → X j = Y j) : RowAt K w b o n Y := fun j hj => by rw [← e j hj]; exact h j hj
/-- So many zero bytes. -/
def zb (n : Nat) : Array Value := Array.replicate n (.int .u8 0)
theorem zb_at (n j : Nat) (h : j < n) : (zb n)[j]? = some (.int .u8 0) := by simp [zb, h]
theorem made_zb (n : Nat) : madeCells (Value.int .u8 0).cells (n * 1) = zb n := by
 apply Array.ext_getElem?
 intro j
 by_cases h : j < n
 · rw [zb_at n j h]; simp [madeCells, Value.cells, h, Nat.mod_one]
 · simp [madeCells, zb, Value.cells, h]
theorem make_bytes (W : World) (n : Nat) (l : Int) (hl : l = (n : Int)) (hn : n ≤ 1000000) : (Instr.makeSlice 22 (.int .i64 l) (.int .i64 l)).run Tryd.prog W = .ok (.slice (some ⟨W.heap.size, 0, none⟩) n n) (W.alloc (.cells (zb n) 5)) := by
 subst hl
 obtain ⟨i0, hi, hz0, hz1, hz2⟩ := info_parts (show (Tryd.prog.info? 5).map (fun i => (i.zero, i.size, i.bytes)) = some (some (.int .u8 0), 1, 1) by kernel_rfl)
 have := run_makeSlice (P := Tryd.prog) W 22 5 i0 (.int .u8 0) Tryd.underlying22 hi hz0 .i64 .i64 n n (by omega) (Int.le_refl _) (by rw [hz1]; simp; omega) (by rw [hz2]; omega) (by omega)
 rw [this, hz1]
 simp only [Int.toNat_natCast, made_zb]
/-- A slice of n bytes in what is there. -/
def BytesIn (w : World) (v : Value) (n : Nat) (bs : Nat → Nat) : Prop := (∃ xo, v = .slice xo 0 0 ∧ n = 0) ∨ ∃ bb ob cap, v = .slice (some ⟨bb, ob, none⟩) n cap ∧ bb < w.heap.size ∧ n ≤ cap ∧ ∀ j, j < n → w.cell? ⟨bb, ob + j, none⟩ = some (.int .u8 (bs j))
/-- What the loads of a statement see: all below B, and n cells of block g. -/
def Seen (B g n : Nat) (W w' : World) : Prop := (∀ b o, b < B → w'.cell? ⟨b, o, none⟩ = W.cell? ⟨b, o, none⟩) ∧ ∀ q, q < n → w'.cell? ⟨g, q, none⟩ = W.cell? ⟨g, q, none⟩
theorem Seen.of_below {B g n : Nat} {W w' : World} (h : Below W.heap.size W w') (hB : B ≤ W.heap.size) (hg : g < W.heap.size) : Seen B g n W w' :=
 ⟨fun b o hb => h.cell (p := ⟨b, o, none⟩) (by show b < _; omega), fun q _ => h.cell (p := ⟨g, q, none⟩) hg⟩
theorem ints_congr (K : IntKind) (n : Nat) (X Y : Nat → Nat) (h : ∀ j, j < n → X j = Y j) : ints K n X = ints K n Y := by
 unfold ints
 apply List.map_congr_left
 intro j hj
 rw [h j (List.mem_range.1 hj)]
theorem Tryd.info5 : (Tryd.prog.info? 5).map (fun i => (i.zero, i.size, i.bytes)) = some (some (.int .u8 0), 1, 1) := by kernel_rfl
theorem below_grown {B : Nat} {a w w' : World} {v : Value} {base : Nat} {e : TypeId} {size n : Nat} {xs : List Value} (h : Below B a w) (hg : w.grownBy w' v.ownBlock) (ho : w.ownsRow base e size v n xs) (hB : B ≤ base) (hs : B ≤ w.heap.size) : Below B a w' :=
 h.grown hg hs (fun k hk => Nat.le_trans hB (ho.lt k hk).1)
theorem own_below {w w' : World} {base : Nat} {e : TypeId} {size : Nat} {v : Value} {n : Nat} {xs : List Value} (h : w.ownsRow base e size v n xs) (hb : Below w.heap.size w w') : w'.ownsRow base e size v n xs :=
 h.kept (row := none) ⟨hb.os, hb.tape, hb.output, hb.size, fun k hk _ => hb.block k hk⟩ (by cases hv : v.ownBlock with | none => exact .inl rfl | some b => exact .inr (by simp))
/-- One list of bytes behind another that has n. -/
def cat (n : Nat) (a b : Nat → Nat) : Nat → Nat := fun j => if j < n then a j else b (j - n)
theorem cat_lt {n p : Nat} {a b : Nat → Nat} (ha : ∀ j, a j < p) (hb : ∀ j, b j < p) : ∀ j, cat n a b j < p := fun j => by
 unfold cat; split
 · exact ha _
 · exact hb _
theorem cat_left {n : Nat} {a b : Nat → Nat} {j : Nat} (h : j < n) : cat n a b j = a j := by unfold cat; rw [if_pos h]
theorem cat_right {n : Nat} {a b : Nat → Nat} (j : Nat) : cat n a b (n + j) = b j := by unfold cat; rw [if_neg (by omega), Nat.add_sub_cancel_left]
theorem ints_add (K : IntKind) (n m : Nat) (X Y : Nat → Nat) : ints K n X ++ ints K m Y = ints K (n + m) (cat n X Y) := by
 apply List.ext_getElem?
 intro j
 by_cases h : j < n
 · rw [List.getElem?_append_left (by rw [ints_len]; exact h), ints_at _ _ _ j h, ints_at _ _ _ j (by omega), cat_left h]
 · rw [List.getElem?_append_right (by rw [ints_len]; omega), ints_len]
   by_cases h2 : j < n + m
   · rw [ints_at _ _ _ (j - n) (by omega), ints_at _ _ _ j h2]
     unfold cat; rw [if_neg h]
   · rw [List.getElem?_eq_none (by rw [ints_len]; omega), List.getElem?_eq_none (by rw [ints_len]; omega)]
theorem run_append_any {P : Program} (w : World) (t ty base e : TypeId) (i : TypeInfo) (z : Value) (bytes : Nat) (ht : P.underlying t = some (.slice e)) (hi : P.info? e = some i) (hz : i.zero = some z) (hsize : i.size = 1) (hby : i.bytes = bytes) (hzs : z.cells.size = 1)
 (v : Value) (n : Nat) (xs : List Value) (hown : w.ownsRow base e 1 v n xs) (xo : Option Addr) (m c : Nat) (bs : Nat → Nat) (hsrc : Src w xo m bs) (hxn : xo = none → c = 0)
 (h63 : n + m ≤ maxLen) (hbytes : (n + m) * bytes ≤ 140737488355328) (hbase : base ≤ w.heap.size) :
 ∃ v' w', (Builtin.append_ #[t, t] ty #[v, .slice xo m c]).run P w = .ok v' w' ∧ w'.ownsRow base e 1 v' (n + m) (xs ++ ints .u8 m bs) ∧ w.grownBy w' v.ownBlock := by
 cases xo with
 | none =>
  have hm : m = 0 := by
   rcases hsrc with h | ⟨_, _, h, _⟩
   · exact h
   · cases h
  subst hm
  have hc := hxn rfl
  subst hc
  refine ⟨v, w, ?_, by rw [show ints .u8 0 bs = [] from rfl, List.append_nil]; exact hown, ⟨rfl, rfl, rfl, Nat.le_refl _, fun _ _ _ => rfl⟩⟩
  rcases hown.2 with ⟨rfl, _⟩ | ⟨g, cap, cur, rfl, _, _, hnc, _⟩
  · exact run_append_nothing w t t ty e i ht hi none 0 0 (Nat.le_refl _) _ ⟨.inl ⟨_, ht⟩, fun _ => rfl, rfl, rfl, by simp, fun _ h => by cases h⟩
  · exact run_append_nothing w t t ty e i ht hi _ n cap hnc _ ⟨.inl ⟨_, ht⟩, fun _ => rfl, rfl, rfl, by simp, fun _ h => by cases h⟩
 | some ad =>
  have hnews : ∀ j u, (ints .u8 m bs)[j]? = some u → w.cell? (ad.add j) = some u := fun j u hu => by
   have hj : j < m := by have := (List.getElem?_eq_some_iff.1 hu).1; rwa [ints_len] at this
   rw [ints_at _ _ _ j hj] at hu
   rcases hsrc with h | ⟨bb, ob, h, hc⟩
   · omega
   · cases h
     rw [Addr.add_mid, ← hu]
     exact hc j hj
  obtain ⟨v', w', h1, h2, h3, _, _⟩ := run_append_own_at (P := P) w base t ty e i z 1 bytes ht hi hz hsize hby hzs (by decide) v n xs hown ad m c (ints .u8 m bs) (by rw [ints_len, Nat.mul_one]) hnews (ints_one _ _ _) h63 hbytes hbase
  exact ⟨v', w', h1, h2, h3⟩
theorem wpList_append_any {P : Program} {w : World} {ops : Array Oper} {rest : List Oper} {o : Oper} {a : Act} {Q : Exit → Act → World → Prop} (hgd : o.guard = none) (s x : Operand) (t : TypeId)
 (ho : o.op = .call { callee := .builtin .append, args := #[s, x], argTypes := #[t, t] }) (base e : TypeId) (i : TypeInfo) (z : Value) (bytes : Nat) (ht : P.underlying t = some (.slice e)) (hi : P.info? e = some i) (hz : i.zero = some z) (hsize : i.size = 1) (hby : i.bytes = bytes) (hzs : z.cells.size = 1)
 (v : Value) (n : Nat) (xs : List Value) (hs : a.eval s = v) (hown : w.ownsRow base e 1 v n xs) (xo : Option Addr) (m c : Nat) (bs : Nat → Nat) (hx : a.eval x = .slice xo m c) (hsrc : Src w xo m bs) (hxn : xo = none → c = 0)
 (h63 : n + m ≤ maxLen) (hbytes : (n + m) * bytes ≤ 140737488355328) (hbase : base ≤ w.heap.size)
 (h : ∀ v' w', w'.ownsRow base e 1 v' (n + m) (xs ++ ints .u8 m bs) → w.grownBy w' v.ownBlock → wpList P ops Q rest (a.put o.dst v') w') : wpList P ops Q (o :: rest) a w := by
 refine wpList_plain hgd fun K hK => ?_
 obtain ⟨v', w', h1, h2, h3⟩ := run_append_any (P := P) w t o.type base e i z bytes ht hi hz hsize hby hzs v n xs hown xo m c bs hsrc hxn h63 hbytes hbase
 unfold Oper.wp execOp
 simp only [ho, resolve, invoke, builtin, Sem.run_bind, Sem.run_pure, Result.andThen_ok, List.map_toArray, List.map_cons, List.map_nil, hs, hx, h1]
 exact hK _ _ (h v' w' h2 h3)
/-- Bytes of one's own: a row from base on. -/
def Own (base : Nat) (w : World) (v : Value) (n : Nat) (X : Nat → Nat) : Prop := w.ownsRow base 5 1 v n (ints .u8 n X)
theorem Own.below {base : Nat} {w w' : World} {v : Value} {n : Nat} {X : Nat → Nat} (h : Own base w v n X) (hb : Below w.heap.size w w') : Own base w' v n X := own_below h hb
theorem Own.alloc {base : Nat} {w : World} {v : Value} {n : Nat} {X : Nat → Nat} (h : Own base w v n X) (o : Obj) : Own base (w.alloc o) v n X := h.below ((Below.refl _ _).alloc (Nat.le_refl _) _)
theorem Own.congr {base : Nat} {w : World} {v : Value} {n : Nat} {X Y : Nat → Nat} (h : Own base w v n X) (e : ∀ j, j < n → X j = Y j) : Own base w v n Y := by
 unfold Own; rw [← ints_congr _ _ _ _ e]; exact h
theorem Own.form {base : Nat} {w : World} {v : Value} {n : Nat} {X : Nat → Nat} (h : Own base w v n X) : (v = .slice none 0 0 ∧ n = 0) ∨ ∃ g cap, v = .slice (some ⟨g, 0, none⟩) n cap ∧ base ≤ g ∧ g < w.heap.size ∧ n ≤ cap ∧ RowAt .u8 w g 0 n X := by
 rcases h.2 with hv | ⟨g, cap, cur, rfl, hb, hg, hn, _⟩
 · exact .inl hv
 · refine .inr ⟨g, cap, rfl, hb, (h.lt g rfl).2, hn, fun j hj => ?_⟩
   rw [Nat.zero_add]
   exact ⟨by rw [World.ownsRow.cellAt h j (by omega), ints_at _ _ _ j hj], World.ownsRow.frozenAt h j⟩
theorem Own.nil (base : Nat) (w : World) (X : Nat → Nat) : Own base w (.slice none 0 0) 0 X := World.ownsRow_nil w base _ _
theorem Own.lit (base : Nat) (w : World) (X : Nat → Nat) (h : base ≤ w.heap.size) : Own base (w.alloc (.cells #[] 5)) (.slice (some ⟨w.heap.size, 0, none⟩) 0 0) 0 X := World.ownsRow_lit w #[] 0 h (by decide) rfl
theorem Own.grown {B base : Nat} {a w w' : World} {v : Value} {n : Nat} {X : Nat → Nat} (h : Below B a w) (hg : w.grownBy w' v.ownBlock) (ho : Own base w v n X) (hB : B ≤ base) (hs : B ≤ w.heap.size) : Below B a w' := below_grown h hg ho hB hs
/-- Own bytes put behind own bytes. -/
theorem wpList_append_bytes {w : World} {ops : Array Oper} {rest : List Oper} {o : Oper} {a : Act} {Q : Exit → Act → World → Prop} (hgd : o.guard = none) (s x : Operand)
 (ho : o.op = .call { callee := .builtin .append, args := #[s, x], argTypes := #[22, 22] }) (base : Nat)
 (v : Value) (n : Nat) (X : Nat → Nat) (hs : a.eval s = v) (hown : Own base w v n X) (xo : Option Addr) (m c : Nat) (bs : Nat → Nat) (hx : a.eval x = .slice xo m c) (hsrc : Src w xo m bs) (hxn : xo = none → c = 0)
 (hl : n + m ≤ 140737488355328) (hbase : base ≤ w.heap.size)
 (h : ∀ v' w', Own base w' v' (n + m) (cat n X bs) → w.grownBy w' v.ownBlock → wpList Tryd.prog ops Q rest (a.put o.dst v') w') : wpList Tryd.prog ops Q (o :: rest) a w := by
 obtain ⟨i0, hi, hz0, hz1, hz2⟩ := info_parts Tryd.info5
 exact wpList_append_any hgd s x 22 ho base 5 i0 (.int .u8 0) 1 Tryd.underlying22 hi hz0 hz1 hz2 rfl v n _ hs hown xo m c bs hx hsrc hxn (by unfold maxLen; omega) (by omega) hbase (fun v' w' h1 h2 => h v' w' (by unfold Own; rw [← ints_add]; exact h1) h2)
theorem wpList_append_empty {w : World} {ops : Array Oper} {rest : List Oper} {o : Oper} {a : Act} {Q : Exit → Act → World → Prop} (hgd : o.guard = none) (s x : Operand)
 (ho : o.op = .call { callee := .builtin .append, args := #[s, x], argTypes := #[22, 22] }) (base : Nat)
 (F : Nat → Nat) (g : Nat) (hg : w.heap.size = g) (hs : a.eval s = .slice (some ⟨g, 0, none⟩) 0 0) (xo : Option Addr) (m c : Nat) (hx : a.eval x = .slice xo m c) (hsrc : Src (w.alloc (.cells #[] 5)) xo m F) (hxn : xo = none → c = 0)
 (hl : m ≤ 140737488355328) (hbase : base ≤ w.heap.size)
 (h : ∀ v' w', Own base w' v' m F → Below base w w' → wpList Tryd.prog ops Q rest (a.put o.dst v') w') : wpList Tryd.prog ops Q (o :: rest) a (w.alloc (.cells #[] 5)) := by
 subst hg
 have hb : Below base w (w.alloc (.cells #[] 5)) := (Below.refl _ _).alloc hbase _
 have hz : base ≤ (w.alloc (.cells #[] 5)).heap.size := by simp only [World.size_alloc]; omega
 refine wpList_append_bytes hgd s x ho base _ 0 F hs (Own.lit base w F hbase) xo m c F hx hsrc hxn (by omega) hz (fun v' w' h1 h2 => h v' w' ?_ (Own.grown hb h2 (Own.lit base w F hbase) (Nat.le_refl _) hz))
 rw [Nat.zero_add] at h1
 exact h1.congr fun j _ => by unfold cat; rw [if_neg (by omega), Nat.sub_zero]
theorem BytesIn.src {w : World} {v : Value} {n : Nat} {bs : Nat → Nat} (h : BytesIn w v n bs) : ∃ xo c, v = .slice xo n c ∧ (xo = none → c = 0) ∧ n ≤ c ∧ ∀ w', Below w.heap.size w w' → Src w' xo n bs := by
 rcases h with ⟨xo, rfl, rfl⟩ | ⟨bb, ob, cap, rfl, h1, h2, h3⟩
 · exact ⟨xo, 0, rfl, fun _ => rfl, Nat.le_refl _, fun _ _ => .inl rfl⟩
 · exact ⟨_, cap, rfl, (fun h => by cases h), h2, fun w' hb => .inr ⟨bb, ob, rfl, fun j hj => (hb.cell (p := ⟨bb, ob + j, none⟩) h1).trans (h3 j hj)⟩⟩
theorem BytesIn.keep {w w' : World} {v : Value} {n : Nat} {bs : Nat → Nat} (h : BytesIn w v n bs) (hb : Below w.heap.size w w') : BytesIn w' v n bs := by
 rcases h with h | ⟨bb, ob, cap, rfl, h1, h2, h3⟩
 · exact .inl h
 · exact .inr ⟨bb, ob, cap, rfl, Nat.lt_of_lt_of_le h1 hb.size, h2, fun j hj => (hb.cell (p := ⟨bb, ob + j, none⟩) h1).trans (h3 j hj)⟩
/-- Bytes as a string. -/
def strB (n : Nat) (bs : Nat → Nat) : ByteArray := ⟨((List.range n).map fun j => UInt8.ofNat (bs j)).toArray⟩
theorem strB_congr {n : Nat} {a b : Nat → Nat} (h : ∀ j, j < n → a j = b j) : strB n a = strB n b := by
 unfold strB
 congr 2
 exact List.map_congr_left fun j hj => by rw [h j (List.mem_range.1 hj)]
theorem conv_bytes (w : World) (bb ob n cap : Nat) (bs : Nat → Nat) (hb : ∀ j, bs j < 256) (h : ∀ j, j < n → w.cell? ⟨bb, ob + j, none⟩ = some (.int .u8 (bs j))) :
 (convert 22 9 (.slice (some ⟨bb, ob, none⟩) n cap)).run Tryd.prog w = .ok (.string (strB n bs)) w := by
 have hl : ((List.range n).map fun j => UInt8.ofNat (bs j)).length = n := by simp
 have := run_convert_bytes_back (P := Tryd.prog) w 22 9 5 ⟨bb, ob, none⟩ cap ((List.range n).map fun j => UInt8.ofNat (bs j)) Tryd.underlying22 Tryd.underlying5 (by kernel_rfl) (fun j hj => by
  rw [hl] at hj
  rw [Addr.add_mid, h j hj]
  simp only [List.getElem_map, List.getElem_range]
  rw [UInt8.toNat_ofNat_of_lt' (by have := hb j; simp [UInt8.size]; omega)])
 rw [hl] at this
 exact this
theorem conv_nil (w : World) : (convert 22 9 (.slice none 0 0)).run Tryd.prog w = .ok (.string (strB 0 (fun _ => 0))) w := by
 rw [run_convert_bytes_string w 22 9 5 none 0 0 Tryd.underlying22 Tryd.underlying5 (by kernel_rfl)]
 rfl
theorem conv_empty (w : World) (a : Addr) : (convert 22 9 (.slice (some a) 0 0)).run Tryd.prog w = .ok (.string (strB 0 (fun _ => 0))) w :=
 run_convert_bytes_back (P := Tryd.prog) w 22 9 5 a 0 [] Tryd.underlying22 Tryd.underlying5 (by kernel_rfl) (fun j hj => absurd hj (Nat.not_lt_zero j))
theorem BytesIn.conv {w : World} {v : Value} {n : Nat} {bs : Nat → Nat} (h : BytesIn w v n bs) (hb : ∀ j, bs j < 256) (w' : World) (hw : Below w.heap.size w w') : (convert 22 9 v).run Tryd.prog w' = .ok (.string (strB n bs)) w' := by
 rcases h with ⟨xo, rfl, rfl⟩ | ⟨bb, ob, cap, rfl, h1, h2, h3⟩
 · have e := strB_congr (n := 0) (a := fun _ => 0) (b := bs) (fun j hj => by omega)
   cases xo with
   | none => exact (conv_nil w').trans (by rw [e])
   | some a => exact (conv_empty w' a).trans (by rw [e])
 · exact conv_bytes w' bb ob n cap bs hb (fun j hj => (hw.cell (p := ⟨bb, ob + j, none⟩) h1).trans (h3 j hj))
theorem BytesIn.still {w w' : World} {v : Value} {n : Nat} {bs : Nat → Nat} (h : BytesIn w v n bs) (hb : Below w.heap.size w w') : BytesIn w' v n bs := by
 rcases h with h | ⟨bb, ob, cap, rfl, h1, h2, h3⟩
 · exact .inl h
 · exact .inr ⟨bb, ob, cap, rfl, Nat.lt_of_lt_of_le h1 hb.size, h2, fun j hj => (hb.cell (p := ⟨bb, ob + j, none⟩) h1).trans (h3 j hj)⟩
theorem strB_eq {n m : Nat} {a b : Nat → Nat} (ha : ∀ j, a j < 256) (hb : ∀ j, b j < 256) : strB n a = strB m b ↔ n = m ∧ ∀ j, j < n → a j = b j := by
 constructor
 · intro h
   have h1 : ((List.range n).map fun j => UInt8.ofNat (a j)) = ((List.range m).map fun j => UInt8.ofNat (b j)) := by
    have := congrArg (fun x : ByteArray => x.data.toList) h
    simpa [strB] using this
   have hl := congrArg List.length h1
   simp at hl
   subst hl
   refine ⟨rfl, fun j hj => ?_⟩
   have h2 := congrArg (fun l : List UInt8 => l[j]?) h1
   simp [hj] at h2
   have h3 := congrArg UInt8.toNat h2
   rw [UInt8.toNat_ofNat_of_lt' (by have := ha j; simp [UInt8.size]; omega), UInt8.toNat_ofNat_of_lt' (by have := hb j; simp [UInt8.size]; omega)] at h3
   exact h3
 · rintro ⟨rfl, h⟩
   exact strB_congr h
theorem zeroCells_u8 (m : Nat) : Builtin.zeroCells #[.int .u8 0] m = (ints .u8 m (fun _ => 0)).toArray := by
 apply Array.ext'
 apply List.ext_getElem?
 intro j
 by_cases hj : j < m
 · rw [ints_at _ _ _ j hj]
   simp [Builtin.zeroCells, hj, Nat.mod_one]
 · rw [List.getElem?_eq_none (by rw [Array.length_toList, size_zeroCells]; simp; omega), List.getElem?_eq_none (by show (ints .u8 m (fun _ => 0)).length ≤ j; rw [ints_len]; omega)]
end Go.Proofs.YtdgkmloabificaaDoor
namespace Go.Proofs.YtdgkmloabificaaDoor
open Go.RowKit Go.Lib
theorem Hid.mk' {P : Prop} (h : P) : Hid P := h
/-- Four words as a number. -/
def val4 (a b c d : Nat) : Nat := a + 18446744073709551616 * b + 340282366920938463463374607431768211456 * c + 6277101735386680763835789423207666416102355444464034512896 * d
/-- The i-th word of a number. -/
def lw (n i : Nat) : Nat := n / 18446744073709551616 ^ i % 18446744073709551616
/-- A Number's value in the model. -/
def numV (n : Nat) : Value := .agg #[.int .u64 (lw n 0), .int .u64 (lw n 1), .int .u64 (lw n 2), .int .u64 (lw n 3)]
theorem lw_lt (n i : Nat) : lw n i < 18446744073709551616 := Nat.mod_lt _ (by decide)
theorem lw_val (n : Nat) (h : n < 115792089237316195423570985008687907853269984665640564039457584007913129639936) : val4 (lw n 0) (lw n 1) (lw n 2) (lw n 3) = n := by
 unfold val4 lw
 simp only [Nat.reducePow]
 omega
theorem val4_lw (a b c d : Nat) (ha : a < 18446744073709551616) (hb : b < 18446744073709551616) (hc : c < 18446744073709551616) (hd : d < 18446744073709551616) : lw (val4 a b c d) 0 = a ∧ lw (val4 a b c d) 1 = b ∧ lw (val4 a b c d) 2 = c ∧ lw (val4 a b c d) 3 = d := by
 unfold val4 lw
 simp only [Nat.reducePow]
 refine ⟨?_, ?_, ?_, ?_⟩ <;> omega
theorem val4_lt (a b c d : Nat) (ha : a < 18446744073709551616) (hb : b < 18446744073709551616) (hc : c < 18446744073709551616) (hd : d < 18446744073709551616) : val4 a b c d < 115792089237316195423570985008687907853269984665640564039457584007913129639936 := by
 unfold val4; omega
theorem numV_of (n a b c d : Nat) (ha : a < 18446744073709551616) (hb : b < 18446744073709551616) (hc : c < 18446744073709551616) (hd : d < 18446744073709551616) (h : val4 a b c d = n) : (Value.agg #[.int .u64 a, .int .u64 b, .int .u64 c, .int .u64 d] : Value) = numV n := by
 obtain ⟨h0, h1, h2, h3⟩ := val4_lw a b c d ha hb hc hd
 rw [h] at h0 h1 h2 h3
 unfold numV
 rw [h0, h1, h2, h3]
theorem add64_run (x y c : Nat) (hc : c ≤ 1) (w : World) : (callFunc 61 #[.int .u64 x, .int .u64 y, .int .u64 c]).run Tryd.prog w =
 .ok (.value (.tuple #[.int .u64 (((x + y + c) % 18446744073709551616 : Nat) : Int), .int .u64 (((x + y + c) / 18446744073709551616 : Nat) : Int)])) w := by
 rw [run_callFunc_extern Tryd.func61 (by kernel_rfl) (by kernel_rfl) (by kernel_rfl) (e := add64Entry) (by kernel_rfl), run_add64 x y c (by omega) (by omega) (by omega) (by omega)]
 simp only [Result.andThen]
 congr 5 <;> omega
/-- A sum of two words and a carry, under names. -/
theorem add64_ex (x y c : Nat) (hx : x < 18446744073709551616) (hy : y < 18446744073709551616) (hc : c ≤ 1) : ∃ s k : Nat, s < 18446744073709551616 ∧ k ≤ 1 ∧ s + 18446744073709551616 * k = x + y + c ∧ ∀ w, (callFunc 61 #[.int .u64 x, .int .u64 y, .int .u64 c]).run Tryd.prog w = .ok (.value (.tuple #[.int .u64 s, .int .u64 k])) w :=
 ⟨_, _, by omega, by omega, by omega, fun w => add64_run x y c hc w⟩
theorem add64_ex0 (x y : Nat) (hx : x < 18446744073709551616) (hy : y < 18446744073709551616) : ∃ s k : Nat, s < 18446744073709551616 ∧ k ≤ 1 ∧ s + 18446744073709551616 * k = x + y ∧ ∀ w, (callFunc 61 #[.int .u64 x, .int .u64 y, .int .u64 0]).run Tryd.prog w = .ok (.value (.tuple #[.int .u64 s, .int .u64 k])) w :=
 add64_ex x y 0 hx hy (by decide)
theorem add64_exz (x c : Nat) (hx : x < 18446744073709551616) (hc : c ≤ 1) : ∃ s k : Nat, s < 18446744073709551616 ∧ k ≤ 1 ∧ s + 18446744073709551616 * k = x + c ∧ ∀ w, (callFunc 61 #[.int .u64 x, .int .u64 0, .int .u64 c]).run Tryd.prog w = .ok (.value (.tuple #[.int .u64 s, .int .u64 k])) w :=
 add64_ex x 0 c hx (by decide) hc
theorem sub64_run (x y b : Nat) (hb : b ≤ 1) (w : World) : (callFunc 81 #[.int .u64 x, .int .u64 y, .int .u64 b]).run Tryd.prog w =
 .ok (.value (.tuple #[.int .u64 (((x + 18446744073709551616 - y - b) % 18446744073709551616 : Nat) : Int), .int .u64 ((if x < y + b then 1 else 0 : Nat) : Int)])) w := by
 rw [run_callFunc_extern Tryd.func81 (by kernel_rfl) (by kernel_rfl) (by kernel_rfl) (e := sub64Entry) (by kernel_rfl), run_sub64 x y b hb]
 rfl
theorem sub64_ex (x y b : Nat) (hx : x < 18446744073709551616) (hy : y < 18446744073709551616) (hb : b ≤ 1) : ∃ s k : Nat, s < 18446744073709551616 ∧ k ≤ 1 ∧ s + y + b = x + 18446744073709551616 * k ∧ ∀ w, (callFunc 81 #[.int .u64 x, .int .u64 y, .int .u64 b]).run Tryd.prog w = .ok (.value (.tuple #[.int .u64 s, .int .u64 k])) w :=
 ⟨_, _, by omega, by split <;> omega, by split <;> omega, fun w => sub64_run x y b hb w⟩
theorem sub64_ex0 (x y : Nat) (hx : x < 18446744073709551616) (hy : y < 18446744073709551616) : ∃ s k : Nat, s < 18446744073709551616 ∧ k ≤ 1 ∧ s + y = x + 18446744073709551616 * k ∧ ∀ w, (callFunc 81 #[.int .u64 x, .int .u64 y, .int .u64 0]).run Tryd.prog w = .ok (.value (.tuple #[.int .u64 s, .int .u64 k])) w :=
 sub64_ex x y 0 hx hy (by decide)
theorem sub64_exz (x b : Nat) (hx : x < 18446744073709551616) (hb : b ≤ 1) : ∃ s k : Nat, s < 18446744073709551616 ∧ k ≤ 1 ∧ s + b = x + 18446744073709551616 * k ∧ ∀ w, (callFunc 81 #[.int .u64 x, .int .u64 0, .int .u64 b]).run Tryd.prog w = .ok (.value (.tuple #[.int .u64 s, .int .u64 k])) w :=
 sub64_ex x 0 b hx (by decide) hb
/-- Where this program has Mul64 and its types. -/
def rho64 : Go.Shelf.Ren := ⟨fun _ => 60, fun n => if n = 46 then 79 else 39, fun x => x⟩
theorem lays64 : Lays.n264 Tryd.prog rho64 := by
 constructor <;> first | kernel_rfl | (intro w; kernel_rfl)
theorem mul64_any (x y : Nat) (hx : x < 18446744073709551616) (hy : y < 18446744073709551616) (w : World) :
 Calls Tryd.prog 60 #[.int .u64 x, .int .u64 y] w fun e w' => e = .returned (.tuple #[.int .u64 ((x * y / 18446744073709551616 : Nat) : Int), .int .u64 ((x * y % 18446744073709551616 : Nat) : Int)]) ∧ w' = w :=
 Any.bits_Mul64 lays64 x y hx hy w
theorem mul64_ex (x y : Nat) (hx : x < 18446744073709551616) (hy : y < 18446744073709551616) : ∃ h l : Nat, h ≤ 18446744073709551614 ∧ l < 18446744073709551616 ∧ l + 18446744073709551616 * h = x * y ∧ ∀ w, Calls Tryd.prog 60 #[.int .u64 x, .int .u64 y] w fun e w' => e = .returned (.tuple #[.int .u64 h, .int .u64 l]) ∧ w' = w := by
 have h1 : x * y ≤ 18446744073709551615 * 18446744073709551615 := Nat.mul_le_mul (by omega) (by omega)
 exact ⟨x * y / 18446744073709551616, x * y % 18446744073709551616, by omega, by omega, by omega, fun w => mul64_any x y hx hy w⟩
theorem results_tmp4 {fn : Func} {t u v x : Tmp} (h : fn.results = #[.tmp t, .tmp u, .tmp v, .tmp x]) (tmps : Array Value) (P : Program) (w : World) :
 (results fn tmps).run P w = .ok (.tuple #[tmps.getD t undef, tmps.getD u undef, tmps.getD v undef, tmps.getD x undef]) w := by
 simp [results, h]
theorem results_tmp5 {fn : Func} {t u v x y : Tmp} (h : fn.results = #[.tmp t, .tmp u, .tmp v, .tmp x, .tmp y]) (tmps : Array Value) (P : Program) (w : World) :
 (results fn tmps).run P w = .ok (.tuple #[tmps.getD t undef, tmps.getD u undef, tmps.getD v undef, tmps.getD x undef, tmps.getD y undef]) w := by
 simp [results, h]
theorem mask63 (d : Nat) (hd : d < 18446744073709551616) : bits .and .u64 (d : Int) 9223372036854775807 = ((d % 9223372036854775808 : Nat) : Int) := by
 have h := bits_and_u64_nat d 9223372036854775807 hd (by omega)
 have e : d &&& 9223372036854775807 = d % 9223372036854775808 := Nat.and_two_pow_sub_one_eq_mod d 63
 rw [e] at h
 exact h
theorem range_fresh4 (w : World) (a b c d : Value) (t : TypeId) : (w.alloc (.cells #[a, b, c, d] t)).rangeAt w.heap.size 0 [a, b, c, d] := fun j v hv => by
 match j, hv with
 | 0, hv => simpa using hv
 | 1, hv => simpa using hv
 | 2, hv => simpa using hv
 | 3, hv => simpa using hv
theorem results_fresh4 {P : Program} {fn : Func} {p : Tmp} {ty : TypeId} (h : fn.results = #[.cell p ty]) (tmps : Array Value) (w : World) (t : TypeId) (a b c d : Value) {D : TypeDesc}
 (hp : tmps.getD p undef = .pointer (some ⟨w.heap.size, 0, none⟩)) (hu : P.underlying ty = some D) (hd : D.isRow = true) (hi : (P.info? ty).map (·.size) = some 4) :
 (results fn tmps).run P (w.alloc (.cells #[a, b, c, d] t)) = .ok (.agg #[a, b, c, d]) (w.alloc (.cells #[a, b, c, d] t)) :=
 results_cell_mid h tmps _ _ 0 [a, b, c, d] D hp (range_fresh4 w a b c d t) hu hd hi
end Go.Proofs.YtdgkmloabificaaDoor
namespace Go.Proofs.YtdgkmloabificaaDoor
/-- A number's bytes, the lowest first. -/
def byt (n j : Nat) : Nat := n / 256 ^ j % 256
theorem byt_lt (n j : Nat) : byt n j < 256 := Nat.mod_lt _ (by decide)
/-- The number of the first k bytes. -/
def ofB (bs : Nat → Nat) : Nat → Nat
 | 0 => 0
 | k + 1 => ofB bs k + 256 ^ k * bs k
theorem ofB_lt (bs : Nat → Nat) (hb : ∀ j, bs j < 256) : ∀ k, ofB bs k < 256 ^ k
 | 0 => Nat.one_pos
 | k + 1 => by
  have h := ofB_lt bs hb k
  have h2 : 256 ^ k * bs k ≤ 256 ^ k * 255 := Nat.mul_le_mul_left _ (by have := hb k; omega)
  rw [ofB, Nat.pow_succ]
  omega
theorem ofB_congr {a b : Nat → Nat} : ∀ k, (∀ j, j < k → a j = b j) → ofB a k = ofB b k
 | 0, _ => rfl
 | k + 1, h => by rw [ofB, ofB, ofB_congr k (fun j hj => h j (by omega)), h k (by omega)]
theorem pow_B (a : Nat) : 18446744073709551616 ^ a = 2 ^ (64 * a) := by
 rw [show (18446744073709551616 : Nat) = 2 ^ 64 from rfl, ← Nat.pow_mul]
theorem pow_b (a : Nat) : 256 ^ a = 2 ^ (8 * a) := by
 rw [show (256 : Nat) = 2 ^ 8 from rfl, ← Nat.pow_mul]
theorem word_byte (n k : Nat) : lw n (k / 8) / 2 ^ (k % 8 * 8) % 256 = byt n k := by
 unfold lw byt
 rw [← Nat.mod_mul_right_div_self, Nat.mod_mod_of_dvd, Nat.mod_mul_right_div_self, Nat.div_div_eq_div_mul, pow_B, pow_b, ← Nat.pow_add]
 · congr 4; omega
 · rw [show (256 : Nat) = 2 ^ 8 from rfl, show (18446744073709551616 : Nat) = 2 ^ 64 from rfl, ← Nat.pow_add]
   exact Nat.pow_dvd_pow 2 (by omega)
theorem word_byte_int (n k : Nat) : (lw n (k / 8) : Int) / 2 ^ (k % 8 * 8) % 256 = ((byt n k : Nat) : Int) := by
 rw [← word_byte]; simp
/-- One byte more. -/
theorem word_more (bs : Nat → Nat) (hb : ∀ j, bs j < 256) (k a : Nat) : lw (ofB bs (k + 1)) a = if a = k / 8 then lw (ofB bs k) a ||| bs k * 2 ^ (k % 8 * 8) else lw (ofB bs k) a := by
 have hV := ofB_lt bs hb k
 have hbk := hb k
 rw [ofB]
 generalize hv : ofB bs k = V at hV ⊢
 clear hv
 unfold lw
 rw [pow_b] at hV ⊢
 rw [pow_B]
 have hk : 8 * k = 64 * (k / 8) + k % 8 * 8 := by omega
 have hc : k % 8 * 8 + 8 ≤ 64 := by omega
 rw [hk, Nat.pow_add] at hV
 rw [hk, Nat.pow_add]
 generalize hA : k / 8 = A at *
 generalize k % 8 * 8 = c at *
 clear hk hA
 have hBp : 0 < 2 ^ (64 * A) := Nat.two_pow_pos _
 have hcp : 0 < 2 ^ c := Nat.two_pow_pos _
 have h2 : 2 ^ c * bs k + 2 ^ c ≤ 18446744073709551616 := by
  have : 2 ^ c * 256 ≤ 18446744073709551616 := by
   rw [show (256 : Nat) = 2 ^ 8 from rfl, show (18446744073709551616 : Nat) = 2 ^ 64 from rfl, ← Nat.pow_add]
   exact Nat.pow_le_pow_right (by decide) hc
  have h3 : 2 ^ c * bs k ≤ 2 ^ c * 255 := Nat.mul_le_mul_left _ (by omega)
  omega
 rcases Nat.lt_trichotomy a A with h | h | h
 · rw [if_neg (by omega)]
   have e : 64 * A = 64 * a + (64 + 64 * (A - a - 1)) := by omega
   rw [e, Nat.pow_add, Nat.mul_assoc, Nat.mul_assoc, Nat.add_mul_div_left _ _ (Nat.two_pow_pos _), Nat.pow_add, Nat.mul_assoc, show (2 : Nat) ^ 64 = 18446744073709551616 from rfl, Nat.add_mul_mod_self_left]
 · subst h
   rw [if_pos rfl, Nat.mul_assoc, Nat.add_mul_div_left _ _ hBp]
   have hq : V / 2 ^ (64 * a) < 2 ^ c := Nat.div_lt_of_lt_mul hV
   rw [Nat.mod_eq_of_lt (by omega), Nat.mod_eq_of_lt (by omega), Nat.or_comm, Nat.mul_comm (bs k)]
   have := Nat.two_pow_add_eq_or_of_lt hq (bs k)
   omega
 · rw [if_neg (by omega)]
   have e : 64 * a = 64 * A + (64 + 64 * (a - A - 1)) := by omega
   have hle : 2 ^ (64 * A) * 18446744073709551616 ≤ 2 ^ (64 * a) := by
    rw [show (18446744073709551616 : Nat) = 2 ^ 64 from rfl, ← Nat.pow_add]
    exact Nat.pow_le_pow_right (by decide) (by omega)
   have h5 : V + 2 ^ (64 * A) * 2 ^ c * bs k < 2 ^ (64 * A) * (2 ^ c * bs k + 2 ^ c) := by
    rw [Nat.mul_add, Nat.mul_assoc]; omega
   have h6 : 2 ^ (64 * A) * (2 ^ c * bs k + 2 ^ c) ≤ 2 ^ (64 * A) * 18446744073709551616 := Nat.mul_le_mul_left _ h2
   rw [Nat.div_eq_of_lt (by omega), Nat.div_eq_of_lt (by omega)]
theorem byt_ofB (bs : Nat → Nat) (hb : ∀ j, bs j < 256) : ∀ k j, j < k → byt (ofB bs k) j = bs j
 | 0, _, h => absurd h (Nat.not_lt_zero _)
 | k + 1, j, h => by
  unfold byt
  rw [ofB]
  by_cases e : j = k
  · subst e
    rw [Nat.add_mul_div_left _ _ (Nat.pow_pos (by decide)), Nat.div_eq_of_lt (ofB_lt bs hb j), Nat.zero_add, Nat.mod_eq_of_lt (hb j)]
  · have hj : j < k := by omega
    have e2 : k = j + (1 + (k - j - 1)) := by omega
    have : 256 ^ k = 256 ^ j * (256 * 256 ^ (k - j - 1)) := by
     conv => lhs; rw [e2]
     rw [Nat.pow_add, Nat.pow_add, Nat.pow_one]
    rw [this, Nat.mul_assoc, Nat.add_mul_div_left _ _ (Nat.pow_pos (by decide)), Nat.mul_assoc, Nat.add_mul_mod_self_left]
    exact byt_ofB bs hb k j hj
theorem ofB_byt (n : Nat) : ∀ k, ofB (byt n) k = n % 256 ^ k
 | 0 => by rw [ofB, Nat.pow_zero, Nat.mod_one]
 | k + 1 => by
  rw [ofB, ofB_byt n k, Nat.pow_succ, Nat.mod_mul]
  rfl
theorem or_byte (V b k : Nat) (hV : V < 18446744073709551616) (hb : b < 256) : bits .or .u64 (V : Int) (IntKind.u64.wrap ((b : Int) * 2 ^ (k % 8 * 8))) = ((V ||| b * 2 ^ (k % 8 * 8) : Nat) : Int) := by
 have h2 : b * 2 ^ (k % 8 * 8) < 18446744073709551616 := by
  have h1 : 2 ^ (k % 8 * 8) ≤ 2 ^ 56 := Nat.pow_le_pow_right (by decide) (by omega)
  have h3 : b * 2 ^ (k % 8 * 8) ≤ 255 * 2 ^ 56 := Nat.mul_le_mul (by omega) h1
  omega
 have e : IntKind.u64.wrap ((b : Int) * 2 ^ (k % 8 * 8)) = ((b * 2 ^ (k % 8 * 8) : Nat) : Int) := by
  rw [IntKind.wrap_u64]
  have e1 : (b : Int) * 2 ^ (k % 8 * 8) = ((b * 2 ^ (k % 8 * 8) : Nat) : Int) := by simp
  rw [e1]; omega
 rw [e, bits_or_u64_nat _ _ hV h2]
end Go.Proofs.YtdgkmloabificaaDoor
namespace Go.Proofs.YtdgkmloabificaaDoor
open Go.RowKit
/-- n signed numbers in a block. -/
def IRow (w : World) (g n : Nat) (L : Nat → Int) : Prop := ∀ j, j < n → w.cell? ⟨g, j, none⟩ = some (.int .i64 (L j)) ∧ w.frozen? ⟨g, j, none⟩ = false
def intsI (n : Nat) (L : Nat → Int) : List Value := (List.range n).map fun j => .int .i64 (L j)
theorem intsI_len (n : Nat) (L : Nat → Int) : (intsI n L).length = n := by simp [intsI]
theorem intsI_at (n : Nat) (L : Nat → Int) (j : Nat) (h : j < n) : (intsI n L)[j]? = some (.int .i64 (L j)) := by simp [intsI, h]
theorem IRow.below {B : Nat} {w w' : World} {g n : Nat} {L : Nat → Int} (h : IRow w g n L) (hb : Below B w w') (hB : g < B) : IRow w' g n L := fun j hj =>
 ⟨(hb.cell (p := ⟨g, j, none⟩) hB).trans (h j hj).1, (hb.frozen (p := ⟨g, j, none⟩) hB).trans (h j hj).2⟩
theorem IRow.congr {w : World} {g n : Nat} {L M : Nat → Int} (h : IRow w g n L) (e : ∀ j, j < n → L j = M j) : IRow w g n M := fun j hj => by rw [← e j hj]; exact h j hj
theorem IRow.drew {w : World} {g n : Nat} {L : Nat → Int} (h : IRow w g n L) : IRow w.drew g n L := fun j hj => h j hj
def updI (L : Nat → Int) (i : Nat) (v : Int) : Nat → Int := fun j => if j = i then v else L j
theorem IRow.set {w : World} {g n : Nat} {L : Nat → Int} (h : IRow w g n L) {i : Nat} (hi : i < n) (v : Int) : IRow (w.setCell ⟨g, i, none⟩ (.int .i64 v)) g n (updI L i v) := fun j hj => by
 obtain ⟨h1, h2⟩ := h j hj
 by_cases e : j = i
 · subst e
   refine ⟨?_, ?_⟩
   · have := World.rangeAt_setCells_same w g j [.int .i64 v] (fun k hk => by
      have : k = 0 := by simpa using hk
      subst this
      rw [Nat.add_zero, h1]; exact ⟨rfl, h2⟩) 0 _ rfl
     simp only [updI, if_true]
     exact this
   · exact (World.frozen?_setCells g [.int .i64 v] j w _).trans h2
 · refine ⟨?_, (World.frozen?_setCells g [.int .i64 v] i w _).trans h2⟩
   simp only [updI, if_neg e]
   rw [← h1]
   exact World.cell?_setCells_out g [.int .i64 v] i w _ (fun _ _ => by show j < i ∨ i + 1 ≤ j; omega)
theorem IRow.far {w : World} {g n : Nat} {L : Nat → Int} (h : IRow w g n L) {a : Addr} (ha : a.block ≠ g) (v : Value) : IRow (w.setCell a v) g n L := fun j hj => by
 have hk : (w.setCell a v).heap[g]? = w.heap[g]? := Below.heap_setCell w a v g (Ne.symm ha)
 exact ⟨(World.cell?_of_block (w := w) hk).trans (h j hj).1, (World.frozen?_of_block (w := w) hk).trans (h j hj).2⟩
theorem IRow.range {w : World} {g n : Nat} {L : Nat → Int} (h : IRow w g n L) : w.rangeAt g 0 (intsI n L) := fun j v hv => by
 have hj : j < n := by have := (List.getElem?_eq_some_iff.1 hv).1; rwa [intsI_len] at this
 rw [intsI_at _ _ j hj] at hv
 cases hv
 rw [Nat.zero_add]; exact (h j hj).1
theorem IRow.there {w : World} {g n : Nat} {L : Nat → Int} (h : IRow w g n L) : w.there g 0 n := fun j hj => by
 rw [Nat.zero_add, (h j hj).1]; exact ⟨rfl, (h j hj).2⟩
theorem IRow.fresh (w : World) (cs : Array Value) (t : TypeId) {n : Nat} {L : Nat → Int} (h : ∀ j, j < n → cs[j]? = some (.int .i64 (L j))) : IRow (w.alloc (.cells cs t)) w.heap.size n L := fun j hj => by
 refine ⟨?_, by simp⟩
 have := h j hj
 simp [this]
theorem IRow.stored {w : World} {g n : Nat} {M L : Nat → Int} (h : IRow w g n M) : IRow (w.setCells g 0 (intsI n L)) g n L := fun j hj => by
 have hr := World.rangeAt_setCells_same w g 0 (intsI n L) (by rw [intsI_len]; exact h.there)
 refine ⟨?_, (World.frozen?_setCells g (intsI n L) 0 w _).trans (h j hj).2⟩
 have := hr j _ (intsI_at n L j hj)
 rwa [Nat.zero_add] at this
theorem IRow.farCells {w : World} {g n : Nat} {L : Nat → Int} (h : IRow w g n L) {k : Nat} (hk : g ≠ k) (o : Nat) (vs : List Value) : IRow (w.setCells k o vs) g n L := fun j hj => by
 have hb : (w.setCells k o vs).heap[g]? = w.heap[g]? := heap_setCells_other k vs o w g hk
 exact ⟨(World.cell?_of_block (w := w) hb).trans (h j hj).1, (World.frozen?_of_block (w := w) hb).trans (h j hj).2⟩
end Go.Proofs.YtdgkmloabificaaDoor
namespace Go.Proofs.YtdgkmloabificaaDoor
open Go.RowKit Go.Lib
/-- p = 2^255 - 19. -/
def pF : Nat := 57896044618658097711785492504343953926634992332820282019728792003956564819949
set_option maxHeartbeats 1000000 in
theorem addProduct_any (t x y c : Nat) (ht : t < 18446744073709551616) (hx : x < 18446744073709551616) (hy : y < 18446744073709551616) (hc : c < 18446744073709551616) :
 ∃ l h : Nat, l < 18446744073709551616 ∧ h < 18446744073709551616 ∧ l + 18446744073709551616 * h = t + x * y + c ∧ ∀ w, Calls Tryd.prog 79 #[.int .u64 t, .int .u64 x, .int .u64 y, .int .u64 c] w fun e w' => e = .returned (.tuple #[.int .u64 l, .int .u64 h]) ∧ w' = w := by
 obtain ⟨h0, l0, hh0, hl0, e0, r0⟩ := mul64_ex x y hx hy
 obtain ⟨l1, k1, hl1, hk1, e1, r1⟩ := add64_ex0 l0 t hl0 ht
 obtain ⟨l2, k2, hl2, hk2, e2, r2⟩ := add64_ex0 l1 c hl1 hc
 have hxy : x * y ≤ 18446744073709551615 * 18446744073709551615 := Nat.mul_le_mul (by omega) (by omega)
 obtain ⟨P, hP⟩ : ∃ P, P = x * y := ⟨_, rfl⟩
 rw [← hP] at e0 hxy ⊢
 clear hP
 refine ⟨l2, h0 + k1 + k2, hl2, by omega, by omega, fun w => ?_⟩
 have r0' := r0 w
 have b1 : h0 + k1 < 18446744073709551616 := by omega
 have b2 : h0 + k1 + k2 < 18446744073709551616 := by omega
 clear e0 e1 e2 r0 hxy
 go_enter Tryd.func79, Tryd.ntmps79
 go_wp2_with (first
  | (go_at_call 60; refine r0'.mono ?_; rintro e w' ⟨rfl, rfl⟩)
  | rw [r1] | rw [r2])
 go_ret2
 exact ⟨rfl, rfl⟩
set_option maxHeartbeats 1000000 in
theorem addSmall_any (a b c d x : Nat) (ha : a < 18446744073709551616) (hb : b < 18446744073709551616) (hc : c < 18446744073709551616) (hd : d < 18446744073709551615) (hx : x < 18446744073709551616) :
 ∃ s0 s1 s2 s3 : Nat, s0 < 18446744073709551616 ∧ s1 < 18446744073709551616 ∧ s2 < 18446744073709551616 ∧ s3 < 18446744073709551616 ∧ val4 s0 s1 s2 s3 = val4 a b c d + x ∧ ∀ w, Calls Tryd.prog 89 #[.int .u64 a, .int .u64 b, .int .u64 c, .int .u64 d, .int .u64 x] w fun e w' => e = .returned (.tuple #[.int .u64 s0, .int .u64 s1, .int .u64 s2, .int .u64 s3]) ∧ w' = w := by
 obtain ⟨s0, k0, hs0, hk0, e0, r0⟩ := add64_ex0 a x ha hx
 obtain ⟨s1, k1, hs1, hk1, e1, r1⟩ := add64_exz b k0 hb hk0
 obtain ⟨s2, k2, hs2, hk2, e2, r2⟩ := add64_exz c k1 hc hk1
 have b3 : d + k2 < 18446744073709551616 := by omega
 refine ⟨s0, s1, s2, d + k2, hs0, hs1, hs2, b3, by unfold val4; omega, fun w => ?_⟩
 clear e0 e1 e2
 go_enter Tryd.func89, Tryd.ntmps89
 go_wp2_with (first | rw [r0] | rw [r1] | rw [r2])
 (try simp only [Exit.inBlock, Exit.then])
 refine bodyPost_ret (results_tmp4 rfl _ _ _) rfl ?_
 exact ⟨rfl, rfl⟩
theorem over_bits (top d : Nat) (ht : top ≤ 38) (hd : d < 18446744073709551616) : bits .or .u64 ((top : Int) * 2) ((d : Int) / 9223372036854775808) = ((top * 2 + d / 9223372036854775808 : Nat) : Int) := by
 have e1 : (top : Int) * 2 = ((top * 2 : Nat) : Int) := by omega
 have e2 : (d : Int) / 9223372036854775808 = ((d / 9223372036854775808 : Nat) : Int) := by omega
 rw [e1, e2, bits_or_u64_nat _ _ (by omega) (by omega)]
 have h1 : d / 9223372036854775808 = 0 ∨ d / 9223372036854775808 = 1 := by omega
 congr 1
 rcases h1 with h | h <;> rw [h]
 · simp
 · have key : ∀ k, k < 39 → k * 2 ||| 1 = k * 2 + 1 := by decide
   exact key top (by omega)
theorem settle_val (V V' S M T o : Nat) (hV : V = V' + 57896044618658097711785492504343953926634992332820282019728792003956564819968 * o) (hS : S = V' + (T * 2 + o) * 19) (hV' : V' < 57896044618658097711785492504343953926634992332820282019728792003956564819968) (hT : T ≤ 38) (ho : o ≤ 1) (hM : M = S + 19) :
 (M < 57896044618658097711785492504343953926634992332820282019728792003956564819968 → (V + 115792089237316195423570985008687907853269984665640564039457584007913129639936 * T) % pF = S) ∧ (57896044618658097711785492504343953926634992332820282019728792003956564819968 ≤ M → (V + 115792089237316195423570985008687907853269984665640564039457584007913129639936 * T) % pF = M - 57896044618658097711785492504343953926634992332820282019728792003956564819968) := by
 have key : V + 115792089237316195423570985008687907853269984665640564039457584007913129639936 * T = S + pF * (T * 2 + o) := by unfold pF; omega
 rw [key, Nat.add_mul_mod_self_left]
 unfold pF
 constructor <;> intro h <;> omega
theorem rm19 {f : FuncId} {a b c d : Value} {Q : Ending → World → Prop} {w : World} (h : Calls Tryd.prog f #[a, b, c, d, .int .u64 ((19 : Nat) : Int)] w Q) : Calls Tryd.prog f #[a, b, c, d, .int .u64 19] w Q := h
set_option maxRecDepth 20000 in
set_option maxHeartbeats 1000000 in
theorem settle_any (a b c d t : Nat) (ha : a < 18446744073709551616) (hb : b < 18446744073709551616) (hc : c < 18446744073709551616) (hd : d < 18446744073709551616) (ht : t ≤ 38) (w : World) :
 Calls Tryd.prog 80 #[.int .u64 a, .int .u64 b, .int .u64 c, .int .u64 d, .int .u64 t] w fun e w' => e = .returned (numV ((val4 a b c d + 115792089237316195423570985008687907853269984665640564039457584007913129639936 * t) % pF)) ∧ Below w.heap.size w w' := by
 obtain ⟨s0, s1, s2, s3, h0, h1, h2, h3, es, rs⟩ := addSmall_any a b c (d % 9223372036854775808) ((t * 2 + d / 9223372036854775808) * 19) ha hb hc (by omega) (by omega)
 have hs3 : s3 < 9223372036854775809 := by unfold val4 at es; omega
 obtain ⟨m0, m1, m2, m3, g0, g1, g2, g3, em, rm⟩ := addSmall_any s0 s1 s2 s3 19 h0 h1 h2 (by omega) (by decide)
 obtain ⟨f1, f2⟩ := settle_val (val4 a b c d) (val4 a b c (d % 9223372036854775808)) (val4 s0 s1 s2 s3) (val4 m0 m1 m2 m3) t (d / 9223372036854775808) (by unfold val4; omega) es (by unfold val4; omega) ht (by omega) em
 obtain ⟨N, hN⟩ : ∃ N, N = (val4 a b c d + 115792089237316195423570985008687907853269984665640564039457584007913129639936 * t) % pF := ⟨_, rfl⟩
 rw [← hN] at f1 f2 ⊢
 have o1 := over_bits t d ht hd
 obtain ⟨ox, hox⟩ : ∃ ox, ox = t * 2 + d / 9223372036854775808 := ⟨_, rfl⟩
 obtain ⟨dl, hdl⟩ : ∃ dl, dl = d % 9223372036854775808 := ⟨_, rfl⟩
 obtain ⟨ml, hml⟩ : ∃ ml, ml = m3 % 9223372036854775808 := ⟨_, rfl⟩
 have hox77 : ox ≤ 77 := by omega
 rw [← hox, ← hdl] at rs
 rw [← hox] at o1
 have o2 := mask63 d hd
 have o3 := mask63 m3 g3
 rw [← hdl] at o2
 rw [← hml] at o3
 obtain ⟨ov, hov⟩ : ∃ ov, ov = ox * 19 := ⟨_, rfl⟩
 rw [← hov] at rs
 have o4 : (ox : Int) * 19 = (ov : Int) := by omega
 have hmll : ml < 18446744073709551616 := by omega
 have fin1 : m3 > 9223372036854775807 → (Value.agg #[.int .u64 m0, .int .u64 m1, .int .u64 m2, .int .u64 ml] : Value) = numV N := fun hm => numV_of N m0 m1 m2 ml g0 g1 g2 (by omega) (by rw [f2 (by unfold val4; omega)]; unfold val4; omega)
 have fin2 : ¬m3 > 9223372036854775807 → (Value.agg #[.int .u64 s0, .int .u64 s1, .int .u64 s2, .int .u64 s3] : Value) = numV N := fun hm => numV_of N s0 s1 s2 s3 h0 h1 h2 (by omega) (by rw [f1 (by unfold val4; omega)])
 clear es em hN f1 f2 hox hdl hml hov
 by_cases hm : m3 > 9223372036854775807
 · have fin := Hid.mk' (fin1 hm)
   have hm' : (9223372036854775807 : Int) < (m3 : Int) := by omega
   clear fin1 fin2
   go_enter Tryd.func80, Tryd.ntmps80
   go_wp2_with (first
    | (go_at_call 89; refine (rs _).mono ?_; clear rs; rintro e w' ⟨rfl, hw⟩; subst hw)
    | (go_at_call 89; refine (rm19 (rm _)).mono ?_; rintro e w' ⟨rfl, hw⟩; subst hw))
   (try simp only [Exit.inBlock, Exit.then])
   exact bodyPost_ret (results_fresh4 Tryd.results80 _ _ _ _ _ _ _ rfl Tryd.underlying41 rfl (by kernel_rfl)) rfl ⟨by rw [fin.out], (Below.refl _ _).alloc (Nat.le_refl _) _⟩
 · have fin := Hid.mk' (fin2 hm)
   have hm' : ¬(9223372036854775807 : Int) < (m3 : Int) := by omega
   clear fin1 fin2
   go_enter Tryd.func80, Tryd.ntmps80
   go_wp2_with (first
    | (go_at_call 89; refine (rs _).mono ?_; clear rs; rintro e w' ⟨rfl, hw⟩; subst hw)
    | (go_at_call 89; refine (rm19 (rm _)).mono ?_; rintro e w' ⟨rfl, hw⟩; subst hw))
   (try simp only [Exit.inBlock, Exit.then])
   exact bodyPost_ret (results_fresh4 Tryd.results80 _ _ _ _ _ _ _ rfl Tryd.underlying41 rfl (by kernel_rfl)) rfl ⟨by rw [fin.out], (Below.refl _ _).alloc (Nat.le_refl _) _⟩
end Go.Proofs.YtdgkmloabificaaDoor
namespace Go.Proofs.YtdgkmloabificaaDoor
open Go.RowKit
/-- The carry into limb i. -/
def cr (L : Nat → Int) : Nat → Int
 | 0 => 0
 | i + 1 => (L i + cr L i) / 65536
/-- The number of n limbs. -/
def valR (L : Nat → Int) : Nat → Int
 | 0 => 0
 | n + 1 => valR L n + L n * 65536 ^ n
/-- Digits but for the lowest one. -/
structure Dig (R : Int) (L : Nat → Int) : Prop where
 low : -R ≤ L 0 ∧ L 0 ≤ R
 dig : ∀ j, 0 < j → j < 16 → 0 ≤ L j ∧ L j ≤ 65535
theorem Dig.all {R : Int} {L : Nat → Int} (h : Dig R L) (hR : 65535 ≤ R) : ∀ j, j < 16 → -R ≤ L j ∧ L j ≤ R := fun j hj => by
 by_cases e : j = 0
 · rw [e]; exact h.low
 · have := h.dig j (by omega) hj; omega
end Go.Proofs.YtdgkmloabificaaDoor
namespace Go.Proofs.YtdgkmloabificaaDoor
open Go.RowKit
/-- The limbs of p. -/
def pl (i : Nat) : Int := if i = 0 then 65517 else if i = 15 then 32767 else 65535
end Go.Proofs.YtdgkmloabificaaDoor
namespace Go.Proofs.YtdgkmloabificaaDoor
open Go.RowKit
theorem Dig.mono {R S : Int} {L : Nat → Int} (h : Dig R L) (hRS : R ≤ S) : Dig S L := ⟨by have := h.low; omega, h.dig⟩
end Go.Proofs.YtdgkmloabificaaDoor
namespace Go.Proofs.YtdgkmloabificaaDoor
open Go.RowKit
/-- Limbs that stand for a number mod p. -/
structure Rep (L : Nat → Int) (x : Nat) : Prop where
 dig : Dig 65573 L
 val : valR L 16 % (pF : Int) = ((x % pF : Nat) : Int)
theorem Rep.bd {L : Nat → Int} {x : Nat} (h : Rep L x) : ∀ j, j < 16 → -131072 ≤ L j ∧ L j ≤ 131072 := fun j hj => by have := h.dig.all (by decide) j hj; omega
end Go.Proofs.YtdgkmloabificaaDoor
namespace Go.Proofs.YtdgkmloabificaaDoor
open Go.RowKit
/-- A number's four words in memory. -/
structure NumAt (w : World) (b n : Nat) : Prop where
 c0 : w.cell? ⟨b, 0, none⟩ = some (.int .u64 (lw n 0))
 c1 : w.cell? ⟨b, 1, none⟩ = some (.int .u64 (lw n 1))
 c2 : w.cell? ⟨b, 2, none⟩ = some (.int .u64 (lw n 2))
 c3 : w.cell? ⟨b, 3, none⟩ = some (.int .u64 (lw n 3))
theorem NumAt.lt {w : World} {b n : Nat} (h : NumAt w b n) : b < w.heap.size := block_lt_of_cell h.c0
theorem NumAt.below {w w' : World} {b n B : Nat} (h : NumAt w b n) (hb : Below B w w') (hB : b < B) : NumAt w' b n :=
 ⟨(hb.cell (p := ⟨b, 0, none⟩) hB).trans h.c0, (hb.cell (p := ⟨b, 1, none⟩) hB).trans h.c1, (hb.cell (p := ⟨b, 2, none⟩) hB).trans h.c2, (hb.cell (p := ⟨b, 3, none⟩) hB).trans h.c3⟩
theorem NumAt.ex {w : World} {b n : Nat} (h : NumAt w b n) (hn : n < pF) : ∃ x0 x1 x2 x3 : Nat, x0 < 18446744073709551616 ∧ x1 < 18446744073709551616 ∧ x2 < 18446744073709551616 ∧ x3 < 18446744073709551616 ∧ val4 x0 x1 x2 x3 = n ∧ w.cell? ⟨b, 0, none⟩ = some (.int .u64 x0) ∧ w.cell? ⟨b, 1, none⟩ = some (.int .u64 x1) ∧ w.cell? ⟨b, 2, none⟩ = some (.int .u64 x2) ∧ w.cell? ⟨b, 3, none⟩ = some (.int .u64 x3) :=
 ⟨lw n 0, lw n 1, lw n 2, lw n 3, lw_lt _ _, lw_lt _ _, lw_lt _ _, lw_lt _ _, lw_val n (by unfold pF at hn; omega), h.c0, h.c1, h.c2, h.c3⟩
theorem numV_ex (n : Nat) : ∃ x0 x1 x2 x3 : Nat, numV n = .agg #[.int .u64 x0, .int .u64 x1, .int .u64 x2, .int .u64 x3] := ⟨_, _, _, _, rfl⟩
theorem there_below {W w1 : World} {b o n : Nat} (h : W.there b o n) (hb : Below W.heap.size W w1) (hl : b < W.heap.size) : w1.there b o n := fun j hj => by
 rw [hb.cell (p := ⟨b, o + j, none⟩) hl, hb.frozen (p := ⟨b, o + j, none⟩) hl]; exact h j hj
theorem there_fresh4 (w : World) (a b c d : Value) (t : TypeId) : (w.alloc (.cells #[a, b, c, d] t)).there w.heap.size 0 4 := fun j hj => by
 match j, hj with
 | 0, _ => simp
 | 1, _ => simp
 | 2, _ => simp
 | 3, _ => simp
/-- The result's block was made first; then the callee made blocks of its own. -/
theorem behind {w w1 : World} {a b c d : Value} {t : TypeId} {n : Nat} (h : Below ((w.alloc (.cells #[a, b, c, d] t)).drewN n).heap.size ((w.alloc (.cells #[a, b, c, d] t)).drewN n) w1) : w1.there w.heap.size 0 4 ∧ Below w.heap.size w w1 ∧
 (w1.cell? ⟨w.heap.size, 0, none⟩ = some a ∧ w1.cell? ⟨w.heap.size, 1, none⟩ = some b ∧ w1.cell? ⟨w.heap.size, 2, none⟩ = some c ∧ w1.cell? ⟨w.heap.size, 3, none⟩ = some d) ∧ ∀ j, j < 4 → w1.frozen? ⟨w.heap.size, j, none⟩ = false := by
 have hs : w.heap.size < ((w.alloc (.cells #[a, b, c, d] t)).drewN n).heap.size := by simp
 have ht := there_below (W := (w.alloc (.cells #[a, b, c, d] t)).drewN n) (fun j hj => there_fresh4 w a b c d t j hj) h hs
 have hr := range_fresh4 w a b c d t
 refine ⟨ht, (below_drewN ((Below.refl w.heap.size w).alloc (Nat.le_refl _) (.cells #[a, b, c, d] t)) n).trans (h.mono (Nat.le_of_lt hs)), ⟨?_, ?_, ?_, ?_⟩, fun j hj => by have := (ht j hj).2; rwa [Nat.zero_add] at this⟩
 · exact (h.cell (p := ⟨w.heap.size, 0, none⟩) hs).trans (hr 0 a rfl)
 · exact (h.cell (p := ⟨w.heap.size, 1, none⟩) hs).trans (hr 1 b rfl)
 · exact (h.cell (p := ⟨w.heap.size, 2, none⟩) hs).trans (hr 2 c rfl)
 · exact (h.cell (p := ⟨w.heap.size, 3, none⟩) hs).trans (hr 3 d rfl)
theorem behind' {w w1 : World} {a b c d : Value} {t : TypeId} (h : Below (w.alloc (.cells #[a, b, c, d] t)).heap.size (w.alloc (.cells #[a, b, c, d] t)) w1) : w1.there w.heap.size 0 4 ∧ Below w.heap.size w w1 ∧
 (w1.cell? ⟨w.heap.size, 0, none⟩ = some a ∧ w1.cell? ⟨w.heap.size, 1, none⟩ = some b ∧ w1.cell? ⟨w.heap.size, 2, none⟩ = some c ∧ w1.cell? ⟨w.heap.size, 3, none⟩ = some d) ∧ ∀ j, j < 4 → w1.frozen? ⟨w.heap.size, j, none⟩ = false := behind (n := 0) h
theorem results_set4 {P : Program} {fn : Func} {p : Tmp} {ty : TypeId} (h : fn.results = #[.cell p ty]) (tmps : Array Value) (w : World) (g : Nat) (a b c d : Value) {D : TypeDesc} (ht : w.there g 0 4)
 (hp : tmps.getD p undef = .pointer (some ⟨g, 0, none⟩)) (hu : P.underlying ty = some D) (hd : D.isRow = true) (hi : (P.info? ty).map (·.size) = some 4) :
 (results fn tmps).run P ((((w.setCell ⟨g, 0, none⟩ a).setCell ⟨g, 1, none⟩ b).setCell ⟨g, 2, none⟩ c).setCell ⟨g, 3, none⟩ d) = .ok (.agg #[a, b, c, d]) ((((w.setCell ⟨g, 0, none⟩ a).setCell ⟨g, 1, none⟩ b).setCell ⟨g, 2, none⟩ c).setCell ⟨g, 3, none⟩ d) :=
 results_cell_mid h tmps _ g 0 [a, b, c, d] D hp (World.rangeAt_setCells_same w g 0 [a, b, c, d] ht) hu hd hi
theorem below_set4 {B : Nat} {u w : World} {g : Nat} (h : Below B u w) (hg : B ≤ g) (a b c d : Value) : Below B u ((((w.setCell ⟨g, 0, none⟩ a).setCell ⟨g, 1, none⟩ b).setCell ⟨g, 2, none⟩ c).setCell ⟨g, 3, none⟩ d) :=
 (((h.setCell hg a).setCell hg b).setCell hg c).setCell hg d
set_option maxRecDepth 20000 in
set_option maxHeartbeats 2000000 in
theorem sum_any (p q x y : Nat) (hx : x < pF) (hy : y < pF) (w : World) (hp : NumAt w p x) (hq : NumAt w q y) :
 Calls Tryd.prog 84 #[.pointer (some ⟨p, 0, none⟩), .pointer (some ⟨q, 0, none⟩)] w fun e w' => e = .returned (numV ((x + y) % pF)) ∧ Below w.heap.size w w' := by
 have hpl := hp.lt
 have hql := hq.lt
 obtain ⟨x0, x1, x2, x3, hx0, hx1, hx2, hx3, ex, p0, p1, p2, p3⟩ := hp.ex hx
 obtain ⟨y0, y1, y2, y3, hy0, hy1, hy2, hy3, ey, q0, q1, q2, q3⟩ := hq.ex hy
 obtain ⟨s0, k0, hs0, hk0, e0, r0⟩ := add64_ex0 x0 y0 hx0 hy0
 obtain ⟨s1, k1, hs1, hk1, e1, r1⟩ := add64_ex x1 y1 k0 hx1 hy1 hk0
 obtain ⟨s2, k2, hs2, hk2, e2, r2⟩ := add64_ex x2 y2 k1 hx2 hy2 hk1
 obtain ⟨s3, k3, hs3, hk3, e3, r3⟩ := add64_ex x3 y3 k2 hx3 hy3 hk2
 have hv : val4 s0 s1 s2 s3 + 115792089237316195423570985008687907853269984665640564039457584007913129639936 * k3 = x + y := by
  rw [← ex, ← ey]; unfold val4; omega
 have hset := fun W => settle_any s0 s1 s2 s3 k3 hs0 hs1 hs2 hs3 (by omega) W
 rw [hv] at hset
 obtain ⟨N, hN⟩ : ∃ N, N = (x + y) % pF := ⟨_, rfl⟩
 rw [← hN] at hset ⊢
 obtain ⟨z0, z1, z2, z3, hz⟩ := numV_ex N
 rw [hz] at hset ⊢
 clear ex ey hp hq e0 e1 e2 e3 hv hN hz
 go_enter Tryd.func84, Tryd.ntmps84
 go_wp2
 go_quiet (first | rw [r0])
 go_wp2
 go_quiet (first | rw [r1])
 go_wp2
 go_quiet (first | rw [r2])
 go_wp2
 go_quiet (first | rw [r3])
 go_wp2_with (go_at_call 80; refine (hset _).mono ?_; clear hset; rintro e w1 ⟨rfl, hb1⟩; (obtain ⟨ht1, hbw, ⟨t0, t1, t2, t3⟩, hf⟩ := behind hb1); (have f0 := hf 0 (by decide)); (have f1 := hf 1 (by decide)); (have f2 := hf 2 (by decide)); (have f3 := hf 3 (by decide)); clear hb1 hf)
 (try simp only [Exit.inBlock, Exit.then])
 exact bodyPost_ret (results_set4 Tryd.results84 _ _ _ _ _ _ _ ht1 rfl Tryd.underlying41 rfl (by kernel_rfl)) rfl ⟨rfl, below_set4 hbw (Nat.le_refl _) _ _ _ _⟩
theorem diff_val (x y D E k u : Nat) (hx : x < pF) (hy : y < pF) (hk : k ≤ 1) (_hu : u ≤ 1) (hD : D + y = x + 115792089237316195423570985008687907853269984665640564039457584007913129639936 * k) (hDl : D < 115792089237316195423570985008687907853269984665640564039457584007913129639936) (hE : E + 19 * k = D + 115792089237316195423570985008687907853269984665640564039457584007913129639936 * u) (_hEl : E < 115792089237316195423570985008687907853269984665640564039457584007913129639936) :
 E % 57896044618658097711785492504343953926634992332820282019728792003956564819968 = (x + pF - y) % pF := by
 unfold pF at *
 have h : k = 0 ∨ k = 1 := by omega
 rcases h with rfl | rfl <;> omega
theorem val4_mask (a b c d : Nat) (ha : a < 18446744073709551616) (hb : b < 18446744073709551616) (hc : c < 18446744073709551616) : val4 a b c (d % 9223372036854775808) = val4 a b c d % 57896044618658097711785492504343953926634992332820282019728792003956564819968 := by
 unfold val4; omega
set_option maxRecDepth 20000 in
set_option maxHeartbeats 2000000 in
theorem difference_any (p q x y : Nat) (hx : x < pF) (hy : y < pF) (w : World) (hp : NumAt w p x) (hq : NumAt w q y) :
 Calls Tryd.prog 69 #[.pointer (some ⟨p, 0, none⟩), .pointer (some ⟨q, 0, none⟩)] w fun e w' => e = .returned (numV ((x + pF - y) % pF)) ∧ Below w.heap.size w w' := by
 have hpl := hp.lt
 have hql := hq.lt
 obtain ⟨x0, x1, x2, x3, hx0, hx1, hx2, hx3, ex, p0, p1, p2, p3⟩ := hp.ex hx
 obtain ⟨y0, y1, y2, y3, hy0, hy1, hy2, hy3, ey, q0, q1, q2, q3⟩ := hq.ex hy
 obtain ⟨s0, k0, hs0, hk0, e0, r0⟩ := sub64_ex0 x0 y0 hx0 hy0
 obtain ⟨s1, k1, hs1, hk1, e1, r1⟩ := sub64_ex x1 y1 k0 hx1 hy1 hk0
 obtain ⟨s2, k2, hs2, hk2, e2, r2⟩ := sub64_ex x2 y2 k1 hx2 hy2 hk1
 obtain ⟨s3, k3, hs3, hk3, e3, r3⟩ := sub64_ex x3 y3 k2 hx3 hy3 hk2
 obtain ⟨kk, hkk⟩ : ∃ kk, kk = 19 * k3 := ⟨_, rfl⟩
 have okk : (19 : Int) * (k3 : Int) = (kk : Int) := by omega
 obtain ⟨u0, j0, hu0, hj0, g0, r4⟩ := sub64_ex0 s0 kk hs0 (by omega)
 obtain ⟨u1, j1, hu1, hj1, g1, r5⟩ := sub64_exz s1 j0 hs1 hj0
 obtain ⟨u2, j2, hu2, hj2, g2, r6⟩ := sub64_exz s2 j1 hs2 hj1
 obtain ⟨u3, j3, hu3, hj3, g3, r7⟩ := sub64_exz s3 j2 hs3 hj2
 have hv := diff_val x y (val4 s0 s1 s2 s3) (val4 u0 u1 u2 u3) k3 j3 hx hy hk3 hj3 (by rw [← ex, ← ey]; unfold val4; omega) (val4_lt _ _ _ _ hs0 hs1 hs2 hs3) (by unfold val4; omega) (val4_lt _ _ _ _ hu0 hu1 hu2 hu3)
 rw [← val4_mask _ _ _ _ hu0 hu1 hu2] at hv
 have o3 := mask63 u3 hu3
 obtain ⟨ml, hml⟩ : ∃ ml, ml = u3 % 9223372036854775808 := ⟨_, rfl⟩
 rw [← hml] at o3 hv
 have fin := Hid.mk' (numV_of ((x + pF - y) % pF) u0 u1 u2 ml hu0 hu1 hu2 (by omega) hv)
 obtain ⟨N, hN⟩ : ∃ N, N = (x + pF - y) % pF := ⟨_, rfl⟩
 rw [← hN] at fin ⊢
 clear ex ey hp hq e0 e1 e2 e3 g0 g1 g2 g3 hv hN hml hkk
 go_enter Tryd.func69, Tryd.ntmps69
 go_wp2
 go_quiet (first | rw [r0])
 go_wp2
 go_quiet (first | rw [r1])
 go_wp2
 go_quiet (first | rw [r2])
 go_wp2
 go_quiet (first | rw [r3])
 go_wp2_with (first | rw [r4] | rw [r5] | rw [r6] | rw [r7])
 (try simp only [Exit.inBlock, Exit.then])
 exact bodyPost_ret (results_set4 Tryd.results69 _ _ _ _ _ _ _ (fun j hj => there_fresh4 w _ _ _ _ _ j hj) rfl Tryd.underlying41 rfl (by kernel_rfl)) rfl ⟨by rw [fin.out], below_set4 (below_drewN ((Below.refl w.heap.size w).alloc (Nat.le_refl _) _) _) (Nat.le_refl _) _ _ _ _⟩
theorem row_mul (x a b c d : Nat) : x * val4 a b c d = x * a + 18446744073709551616 * (x * b) + 340282366920938463463374607431768211456 * (x * c) + 6277101735386680763835789423207666416102355444464034512896 * (x * d) := by
 unfold val4
 rw [Nat.mul_add, Nat.mul_add, Nat.mul_add, Nat.mul_left_comm x, Nat.mul_left_comm x, Nat.mul_left_comm x]
set_option maxRecDepth 20000 in
set_option maxHeartbeats 2000000 in
theorem addRow_any (t0 t1 t2 t3 x y0 y1 y2 y3 : Nat) (ht0 : t0 < 18446744073709551616) (ht1 : t1 < 18446744073709551616) (ht2 : t2 < 18446744073709551616) (ht3 : t3 < 18446744073709551616) (hx : x < 18446744073709551616) (hy0 : y0 < 18446744073709551616) (hy1 : y1 < 18446744073709551616) (hy2 : y2 < 18446744073709551616) (hy3 : y3 < 18446744073709551616) :
 ∃ r0 r1 r2 r3 r4 : Nat, r0 < 18446744073709551616 ∧ r1 < 18446744073709551616 ∧ r2 < 18446744073709551616 ∧ r3 < 18446744073709551616 ∧ r4 < 18446744073709551616 ∧ r0 + 18446744073709551616 * val4 r1 r2 r3 r4 = val4 t0 t1 t2 t3 + x * val4 y0 y1 y2 y3 ∧
 ∀ (w : World) (q : Nat), w.cell? ⟨q, 0, none⟩ = some (.int .u64 y0) → w.cell? ⟨q, 1, none⟩ = some (.int .u64 y1) → w.cell? ⟨q, 2, none⟩ = some (.int .u64 y2) → w.cell? ⟨q, 3, none⟩ = some (.int .u64 y3) →
  Calls Tryd.prog 78 #[.int .u64 t0, .int .u64 t1, .int .u64 t2, .int .u64 t3, .int .u64 x, .pointer (some ⟨q, 0, none⟩)] w fun e w' => e = .returned (.tuple #[.int .u64 r0, .int .u64 r1, .int .u64 r2, .int .u64 r3, .int .u64 r4]) ∧ w' = w := by
 obtain ⟨l0, h0, hl0, hh0, e0, r0⟩ := addProduct_any t0 x y0 0 ht0 hx hy0 (by decide)
 obtain ⟨l1, h1, hl1, hh1, e1, r1⟩ := addProduct_any t1 x y1 h0 ht1 hx hy1 hh0
 obtain ⟨l2, h2, hl2, hh2, e2, r2⟩ := addProduct_any t2 x y2 h1 ht2 hx hy2 hh1
 obtain ⟨l3, h3, hl3, hh3, e3, r3⟩ := addProduct_any t3 x y3 h2 ht3 hx hy3 hh2
 refine ⟨l0, l1, l2, l3, h3, hl0, hl1, hl2, hl3, hh3, by rw [row_mul x]; unfold val4; omega, fun w q q0 q1 q2 q3 => ?_⟩
 have c0 : Calls Tryd.prog 79 #[.int .u64 t0, .int .u64 x, .int .u64 y0, .int .u64 0] w fun e w' => e = .returned (.tuple #[.int .u64 l0, .int .u64 h0]) ∧ w' = w := r0 w
 have c1 := r1 w
 have c2 := r2 w
 have c3 := r3 w
 clear e0 e1 e2 e3 r0 r1 r2 r3
 go_enter Tryd.func78, Tryd.ntmps78
 go_wp2_with (first
  | (go_at_call 79; refine c0.mono ?_; clear c0; rintro e w' ⟨rfl, hw⟩; subst hw)
  | (go_at_call 79; refine c1.mono ?_; clear c1; rintro e w' ⟨rfl, hw⟩; subst hw)
  | (go_at_call 79; refine c2.mono ?_; clear c2; rintro e w' ⟨rfl, hw⟩; subst hw)
  | (go_at_call 79; refine c3.mono ?_; clear c3; rintro e w' ⟨rfl, hw⟩; subst hw))
 (try simp only [Exit.inBlock, Exit.then])
 exact bodyPost_ret (results_tmp5 Tryd.results78 _ _ _) rfl ⟨rfl, rfl⟩
theorem prod_val (X Y a0 a1 a2 a3 : Nat) (hX : val4 a0 a1 a2 a3 = X) (w0 w1 w2 w3 A B C H : Nat) (e0 : w0 + 18446744073709551616 * A = a0 * Y) (e1 : w1 + 18446744073709551616 * B = A + a1 * Y) (e2 : w2 + 18446744073709551616 * C = B + a2 * Y) (e3 : w3 + 18446744073709551616 * H = C + a3 * Y) :
 val4 w0 w1 w2 w3 + 115792089237316195423570985008687907853269984665640564039457584007913129639936 * H = X * Y := by
 have h : X * Y = a0 * Y + 18446744073709551616 * (a1 * Y) + 340282366920938463463374607431768211456 * (a2 * Y) + 6277101735386680763835789423207666416102355444464034512896 * (a3 * Y) := by
  rw [← hX]; unfold val4
  rw [Nat.add_mul, Nat.add_mul, Nat.add_mul, Nat.mul_assoc, Nat.mul_assoc, Nat.mul_assoc]
 rw [h]; unfold val4; omega
theorem fold_val (W H V c XY : Nat) (h : W + 115792089237316195423570985008687907853269984665640564039457584007913129639936 * H = XY) (hv : V + 115792089237316195423570985008687907853269984665640564039457584007913129639936 * c = W + 38 * H) :
 (V + 115792089237316195423570985008687907853269984665640564039457584007913129639936 * c) % pF = XY % pF := by
 have e : XY = W + 38 * H + pF * (2 * H) := by unfold pF; omega
 rw [hv, e, Nat.add_mul_mod_self_left]
set_option maxRecDepth 20000 in
set_option maxHeartbeats 2000000 in
theorem product_any (p q x y : Nat) (hx : x < pF) (hy : y < pF) (w : World) (hp : NumAt w p x) (hq : NumAt w q y) :
 Calls Tryd.prog 59 #[.pointer (some ⟨p, 0, none⟩), .pointer (some ⟨q, 0, none⟩)] w fun e w' => e = .returned (numV (x * y % pF)) ∧ Below w.heap.size w w' := by
 have hpl := hp.lt
 have hql := hq.lt
 obtain ⟨x0, x1, x2, x3, hx0, hx1, hx2, hx3, ex, p0, p1, p2, p3⟩ := hp.ex hx
 obtain ⟨y0, y1, y2, y3, hy0, hy1, hy2, hy3, ey, q0, q1, q2, q3⟩ := hq.ex hy
 obtain ⟨w0, a0, a1, a2, a3, hw0, ha0, ha1, ha2, ha3, e0, r0⟩ := addRow_any 0 0 0 0 x0 y0 y1 y2 y3 (by decide) (by decide) (by decide) (by decide) hx0 hy0 hy1 hy2 hy3
 obtain ⟨w1, b0, b1, b2, b3, hw1, hb0, hb1, hb2, hb3, e1, r1⟩ := addRow_any a0 a1 a2 a3 x1 y0 y1 y2 y3 ha0 ha1 ha2 ha3 hx1 hy0 hy1 hy2 hy3
 obtain ⟨w2, c0, c1, c2, c3, hw2, hc0, hc1, hc2, hc3, e2, r2⟩ := addRow_any b0 b1 b2 b3 x2 y0 y1 y2 y3 hb0 hb1 hb2 hb3 hx2 hy0 hy1 hy2 hy3
 obtain ⟨w3, d0, d1, d2, d3, hw3, hd0, hd1, hd2, hd3, e3, r3⟩ := addRow_any c0 c1 c2 c3 x3 y0 y1 y2 y3 hc0 hc1 hc2 hc3 hx3 hy0 hy1 hy2 hy3
 obtain ⟨v0, k0, hv0, hk0, g0, r4⟩ := addProduct_any w0 d0 38 0 hw0 hd0 (by decide) (by decide)
 obtain ⟨v1, k1, hv1, hk1, g1, r5⟩ := addProduct_any w1 d1 38 k0 hw1 hd1 (by decide) hk0
 obtain ⟨v2, k2, hv2, hk2, g2, r6⟩ := addProduct_any w2 d2 38 k1 hw2 hd2 (by decide) hk1
 obtain ⟨v3, k3, hv3, hk3, g3, r7⟩ := addProduct_any w3 d3 38 k2 hw3 hd3 (by decide) hk2
 rw [ey] at e0 e1 e2 e3
 have hz : val4 0 0 0 0 = 0 := rfl
 rw [hz, Nat.zero_add] at e0
 have hprod := prod_val x y x0 x1 x2 x3 ex w0 w1 w2 w3 _ _ _ _ e0 e1 e2 e3
 have hfold : val4 v0 v1 v2 v3 + 115792089237316195423570985008687907853269984665640564039457584007913129639936 * k3 = val4 w0 w1 w2 w3 + 38 * val4 d0 d1 d2 d3 := by unfold val4; omega
 have hk38 : k3 ≤ 38 := by
  have h1 := val4_lt w0 w1 w2 w3 hw0 hw1 hw2 hw3
  have h2 := val4_lt d0 d1 d2 d3 hd0 hd1 hd2 hd3
  omega
 have hset := fun W => settle_any v0 v1 v2 v3 k3 hv0 hv1 hv2 hv3 hk38 W
 rw [fold_val _ _ _ _ _ hprod hfold] at hset
 obtain ⟨N, hN⟩ : ∃ N, N = x * y % pF := ⟨_, rfl⟩
 rw [← hN] at hset ⊢
 obtain ⟨z0, z1, z2, z3, hz⟩ := numV_ex N
 rw [hz] at hset ⊢
 have m0 : ∀ W : World, W.cell? ⟨q, 0, none⟩ = some (.int .u64 y0) → W.cell? ⟨q, 1, none⟩ = some (.int .u64 y1) → W.cell? ⟨q, 2, none⟩ = some (.int .u64 y2) → W.cell? ⟨q, 3, none⟩ = some (.int .u64 y3) → Calls Tryd.prog 78 #[.int .u64 0, .int .u64 0, .int .u64 0, .int .u64 0, .int .u64 x0, .pointer (some ⟨q, 0, none⟩)] W fun e w' => e = .returned (.tuple #[.int .u64 w0, .int .u64 a0, .int .u64 a1, .int .u64 a2, .int .u64 a3]) ∧ w' = W := fun W => r0 W q
 have m4 : ∀ W : World, Calls Tryd.prog 79 #[.int .u64 w0, .int .u64 d0, .int .u64 38, .int .u64 0] W fun e w' => e = .returned (.tuple #[.int .u64 v0, .int .u64 k0]) ∧ w' = W := fun W => r4 W
 have m5 : ∀ W : World, Calls Tryd.prog 79 #[.int .u64 w1, .int .u64 d1, .int .u64 38, .int .u64 k0] W fun e w' => e = .returned (.tuple #[.int .u64 v1, .int .u64 k1]) ∧ w' = W := fun W => r5 W
 have m6 : ∀ W : World, Calls Tryd.prog 79 #[.int .u64 w2, .int .u64 d2, .int .u64 38, .int .u64 k1] W fun e w' => e = .returned (.tuple #[.int .u64 v2, .int .u64 k2]) ∧ w' = W := fun W => r6 W
 have m7 : ∀ W : World, Calls Tryd.prog 79 #[.int .u64 w3, .int .u64 d3, .int .u64 38, .int .u64 k2] W fun e w' => e = .returned (.tuple #[.int .u64 v3, .int .u64 k3]) ∧ w' = W := fun W => r7 W
 obtain ⟨W, hW⟩ : ∃ W, W = w.alloc (.cells #[.int .u64 0, .int .u64 0, .int .u64 0, .int .u64 0] 41) := ⟨_, rfl⟩
 have HW := Hid.mk' hW
 have hbw : Below w.heap.size w W := by rw [hW]; exact (Below.refl _ _).alloc (Nat.le_refl _) _
 have Q0 := (hbw.cell (p := ⟨q, 0, none⟩) hql).trans q0
 have Q1 := (hbw.cell (p := ⟨q, 1, none⟩) hql).trans q1
 have Q2 := (hbw.cell (p := ⟨q, 2, none⟩) hql).trans q2
 have Q3 := (hbw.cell (p := ⟨q, 3, none⟩) hql).trans q3
 have P0 := (hbw.cell (p := ⟨p, 0, none⟩) hpl).trans p0
 have P1 := (hbw.cell (p := ⟨p, 1, none⟩) hpl).trans p1
 have P2 := (hbw.cell (p := ⟨p, 2, none⟩) hpl).trans p2
 have P3 := (hbw.cell (p := ⟨p, 3, none⟩) hpl).trans p3
 replace m0 := m0 W Q0 Q1 Q2 Q3
 have m1 := r1 W q Q0 Q1 Q2 Q3
 have m2 := r2 W q Q0 Q1 Q2 Q3
 have m3 := r3 W q Q0 Q1 Q2 Q3
 clear ex ey hp hq e0 e1 e2 e3 g0 g1 g2 g3 hprod hfold hN hz r0 r1 r2 r3 r4 r5 r6 r7 p1 p2 p3 q0 q1 q2 q3 P0 hW
 go_enter Tryd.func59, Tryd.ntmps59
 go_wp2_with (first
  | (go_at_call 78; rw [← HW.out]; refine m0.mono ?_; clear m0; rintro e w' ⟨rfl, hw⟩; subst hw)
  | (go_at_call 78; refine m1.mono ?_; clear m1; rintro e w' ⟨rfl, hw⟩; subst hw)
  | (go_at_call 78; refine m2.mono ?_; clear m2; rintro e w' ⟨rfl, hw⟩; subst hw)
  | (go_at_call 78; refine m3.mono ?_; clear m3; rintro e w' ⟨rfl, hw⟩; subst hw)
  | (go_at_call 79; refine (m4 _).mono ?_; clear m4; rintro e w' ⟨rfl, hw⟩; subst hw)
  | (go_at_call 79; refine (m5 _).mono ?_; clear m5; rintro e w' ⟨rfl, hw⟩; subst hw)
  | (go_at_call 79; refine (m6 _).mono ?_; clear m6; rintro e w' ⟨rfl, hw⟩; subst hw)
  | (go_at_call 79; refine (m7 _).mono ?_; clear m7; rintro e w' ⟨rfl, hw⟩; subst hw)
  | (go_at_call 80; refine (hset _).mono ?_; clear hset; rintro e w9 ⟨rfl, hb9⟩; rw [HW.out] at hb9; (obtain ⟨ht1, hbw9, ⟨t0, t1, t2, t3⟩, hf⟩ := behind' hb9); (have f0 := hf 0 (by decide)); (have f1 := hf 1 (by decide)); (have f2 := hf 2 (by decide)); (have f3 := hf 3 (by decide)); clear hb9 hf))
 (try simp only [Exit.inBlock, Exit.then])
 exact bodyPost_ret (results_set4 Tryd.results59 _ _ _ _ _ _ _ ht1 rfl Tryd.underlying41 rfl (by kernel_rfl)) rfl ⟨rfl, below_set4 hbw9 (Nat.le_refl _) _ _ _ _⟩
end Go.Proofs.YtdgkmloabificaaDoor
namespace Go.Proofs.YtdgkmloabificaaDoor
open Go.RowKit
theorem behind3 {w w1 : World} {A B : Obj} {a b c d : Value} {t : TypeId} (h : Below (((w.alloc A).alloc B).alloc (.cells #[a, b, c, d] t)).heap.size (((w.alloc A).alloc B).alloc (.cells #[a, b, c, d] t)) w1) : w1.there (w.heap.size + 1 + 1) 0 4 ∧ Below w.heap.size w w1 ∧
 (w1.cell? ⟨w.heap.size + 1 + 1, 0, none⟩ = some a ∧ w1.cell? ⟨w.heap.size + 1 + 1, 1, none⟩ = some b ∧ w1.cell? ⟨w.heap.size + 1 + 1, 2, none⟩ = some c ∧ w1.cell? ⟨w.heap.size + 1 + 1, 3, none⟩ = some d) ∧ ∀ j, j < 4 → w1.frozen? ⟨w.heap.size + 1 + 1, j, none⟩ = false := by
 have hs : ((w.alloc A).alloc B).heap.size = w.heap.size + 1 + 1 := by simp
 have := behind' h
 rw [hs] at this
 obtain ⟨h1, h2, h3, h4⟩ := this
 exact ⟨h1, (((Below.refl w.heap.size w).alloc (Nat.le_refl _) A).alloc (by simp) B).trans (h2.mono (by omega)), h3, h4⟩
theorem numAt_boxes (w : World) (x y : Nat) (C : Obj) (t : TypeId) : NumAt (((w.alloc (.cells #[.int .u64 (lw x 0), .int .u64 (lw x 1), .int .u64 (lw x 2), .int .u64 (lw x 3)] t)).alloc (.cells #[.int .u64 (lw y 0), .int .u64 (lw y 1), .int .u64 (lw y 2), .int .u64 (lw y 3)] t)).alloc C) w.heap.size x ∧ NumAt (((w.alloc (.cells #[.int .u64 (lw x 0), .int .u64 (lw x 1), .int .u64 (lw x 2), .int .u64 (lw x 3)] t)).alloc (.cells #[.int .u64 (lw y 0), .int .u64 (lw y 1), .int .u64 (lw y 2), .int .u64 (lw y 3)] t)).alloc C) (w.heap.size + 1) y := by
 have h1 : ∀ (u : World) (n : Nat), NumAt (u.alloc (.cells #[.int .u64 (lw n 0), .int .u64 (lw n 1), .int .u64 (lw n 2), .int .u64 (lw n 3)] t)) u.heap.size n := fun u n => by constructor <;> simp
 refine ⟨((h1 w x).below ((Below.refl _ _).alloc (Nat.le_refl _) _) (by simp)).below ((Below.refl _ _).alloc (Nat.le_refl _) _) (by simp; omega), ?_⟩
 have h2 := h1 (w.alloc (.cells #[.int .u64 (lw x 0), .int .u64 (lw x 1), .int .u64 (lw x 2), .int .u64 (lw x 3)] t)) y
 have hs : (w.alloc (.cells #[.int .u64 (lw x 0), .int .u64 (lw x 1), .int .u64 (lw x 2), .int .u64 (lw x 3)] t)).heap.size = w.heap.size + 1 := by simp
 rw [hs] at h2
 exact h2.below ((Below.refl _ _).alloc (Nat.le_refl _) C) (by simp)
set_option maxRecDepth 20000 in
set_option maxHeartbeats 2000000 in
theorem plus_any (x y : Nat) (hx : x < pF) (hy : y < pF) (w : World) :
 Calls Tryd.prog 68 #[numV x, numV y] w fun e w' => e = .returned (numV ((x + y) % pF)) ∧ Below w.heap.size w w' := by
 obtain ⟨hX, hY⟩ := numAt_boxes w x y (.cells #[.int .u64 0, .int .u64 0, .int .u64 0, .int .u64 0] 43) 43
 have hs := sum_any w.heap.size (w.heap.size + 1) x y hx hy _ hX hY
 obtain ⟨N, hN⟩ : ∃ N, N = (x + y) % pF := ⟨_, rfl⟩
 rw [← hN] at hs ⊢
 obtain ⟨z0, z1, z2, z3, hz⟩ := numV_ex N
 rw [hz] at hs ⊢
 unfold numV
 clear hX hY hN hz
 go_enter Tryd.func68, Tryd.ntmps68
 go_wp2_with (go_at_call 84; refine hs.mono ?_; clear hs; rintro e w1 ⟨rfl, hb1⟩; (obtain ⟨ht1, hbw, ⟨t0, t1, t2, t3⟩, hf⟩ := behind3 hb1); (have f0 := hf 0 (by decide)); (have f1 := hf 1 (by decide)); (have f2 := hf 2 (by decide)); (have f3 := hf 3 (by decide)); clear hb1 hf)
 (try simp only [Exit.inBlock, Exit.then])
 exact bodyPost_ret (results_set4 Tryd.results68 _ _ _ _ _ _ _ ht1 rfl Tryd.underlying43 rfl (by kernel_rfl)) rfl ⟨rfl, below_set4 hbw (by omega) _ _ _ _⟩
set_option maxRecDepth 20000 in
set_option maxHeartbeats 2000000 in
theorem minus_any (x y : Nat) (hx : x < pF) (hy : y < pF) (w : World) :
 Calls Tryd.prog 42 #[numV x, numV y] w fun e w' => e = .returned (numV ((x + pF - y) % pF)) ∧ Below w.heap.size w w' := by
 obtain ⟨hX, hY⟩ := numAt_boxes w x y (.cells #[.int .u64 0, .int .u64 0, .int .u64 0, .int .u64 0] 43) 43
 have hs := difference_any w.heap.size (w.heap.size + 1) x y hx hy _ hX hY
 obtain ⟨N, hN⟩ : ∃ N, N = (x + pF - y) % pF := ⟨_, rfl⟩
 rw [← hN] at hs ⊢
 obtain ⟨z0, z1, z2, z3, hz⟩ := numV_ex N
 rw [hz] at hs ⊢
 unfold numV
 clear hX hY hN hz
 go_enter Tryd.func42, Tryd.ntmps42
 go_wp2_with (go_at_call 69; refine hs.mono ?_; clear hs; rintro e w1 ⟨rfl, hb1⟩; (obtain ⟨ht1, hbw, ⟨t0, t1, t2, t3⟩, hf⟩ := behind3 hb1); (have f0 := hf 0 (by decide)); (have f1 := hf 1 (by decide)); (have f2 := hf 2 (by decide)); (have f3 := hf 3 (by decide)); clear hb1 hf)
 (try simp only [Exit.inBlock, Exit.then])
 exact bodyPost_ret (results_set4 Tryd.results42 _ _ _ _ _ _ _ ht1 rfl Tryd.underlying43 rfl (by kernel_rfl)) rfl ⟨rfl, below_set4 hbw (by omega) _ _ _ _⟩
set_option maxRecDepth 20000 in
set_option maxHeartbeats 2000000 in
theorem times_any (x y : Nat) (hx : x < pF) (hy : y < pF) (w : World) :
 Calls Tryd.prog 34 #[numV x, numV y] w fun e w' => e = .returned (numV (x * y % pF)) ∧ Below w.heap.size w w' := by
 obtain ⟨hX, hY⟩ := numAt_boxes w x y (.cells #[.int .u64 0, .int .u64 0, .int .u64 0, .int .u64 0] 43) 43
 have hs := product_any w.heap.size (w.heap.size + 1) x y hx hy _ hX hY
 obtain ⟨N, hN⟩ : ∃ N, N = x * y % pF := ⟨_, rfl⟩
 rw [← hN] at hs ⊢
 obtain ⟨z0, z1, z2, z3, hz⟩ := numV_ex N
 rw [hz] at hs ⊢
 unfold numV
 clear hX hY hN hz
 go_enter Tryd.func34, Tryd.ntmps34
 go_wp2_with (go_at_call 59; refine hs.mono ?_; clear hs; rintro e w1 ⟨rfl, hb1⟩; (obtain ⟨ht1, hbw, ⟨t0, t1, t2, t3⟩, hf⟩ := behind3 hb1); (have f0 := hf 0 (by decide)); (have f1 := hf 1 (by decide)); (have f2 := hf 2 (by decide)); (have f3 := hf 3 (by decide)); clear hb1 hf)
 (try simp only [Exit.inBlock, Exit.then])
 exact bodyPost_ret (results_set4 Tryd.results34 _ _ _ _ _ _ _ ht1 rfl Tryd.underlying43 rfl (by kernel_rfl)) rfl ⟨rfl, below_set4 hbw (by omega) _ _ _ _⟩
set_option maxRecDepth 20000 in
set_option maxHeartbeats 2000000 in
theorem bytes_any (n : Nat) (w : World) :
 Calls Tryd.prog 58 #[numV n] w fun e w' => ∃ g, e = .returned (.slice (some ⟨g, 0, none⟩) 32 32) ∧ w.heap.size ≤ g ∧ RowAt .u8 w' g 0 32 (byt n) ∧ Below w.heap.size w w' := by
 obtain ⟨W, hW⟩ : ∃ W, W = w.alloc (.cells #[.int .u64 (lw n 0), .int .u64 (lw n 1), .int .u64 (lw n 2), .int .u64 (lw n 3)] 43) := ⟨_, rfl⟩
 have hN : NumAt W w.heap.size n := by rw [hW]; constructor <;> simp
 have hWs : W.heap.size = w.heap.size + 1 := by rw [hW]; simp
 have hbW : Below w.heap.size w W := by rw [hW]; exact (Below.refl _ _).alloc (Nat.le_refl _) _
 have hlw : ∀ (wr : World), Below (w.heap.size + 1) W wr → ∀ a, a < 4 → wr.cell? ⟨w.heap.size, a, none⟩ = some (.int .u64 (lw n a)) := fun wr hb a ha => by
  have h := hN.below hb (by omega)
  match a, ha with
  | 0, _ => exact h.c0
  | 1, _ => exact h.c1
  | 2, _ => exact h.c2
  | 3, _ => exact h.c3
 have hmk := make_bytes W 32 32 rfl (by decide)
 have HW := Hid.mk' hW
 have hb0 : Below (w.heap.size + 1) W (W.alloc (.cells (zb 32) 5)) := (Below.refl _ _).alloc (by omega) _
 have hrow0 : RowAt .u8 (W.alloc (.cells (zb 32) 5)) (w.heap.size + 1) 0 32 (fun _ => 0) := by rw [← hWs]; exact RowAt.fresh (fun j hj => zb_at 32 j hj)
 unfold numV
 clear hW hN
 go_enter Tryd.func58, Tryd.ntmps58
 go_wp2_with (rw [← HW.out]; rw [hmk])
 go_loopw [8] (fun i wr => ∃ k : Nat, k ≤ 32 ∧ i = .int .i64 k ∧ RowAt .u8 wr (w.heap.size + 1) 0 32 (fun j => if j < k then byt n j else 0) ∧ Below (w.heap.size + 1) W wr) (fun i _ => 32 - (intOf i).toNat)
 case atStart => exact ⟨0, Nat.zero_le _, rfl, hrow0.congr (fun j _ => by simp), hb0⟩
 case round =>
  clear hrow0 hb0 hmk
  obtain ⟨k, hk, rfl, hrow, hb⟩ := hrel
  by_cases hlt : k < 32
  · obtain ⟨rk, rf⟩ := hrow k hlt
    rw [Nat.zero_add] at rk rf
    have hc := hlw wr hb (k / 8) (by omega)
    have rk0 : wr.cell? ⟨w.heap.size + 1, k, none⟩ = some (.int .u8 0) := by simpa using rk
    clear hlw rk
    go_wp2
    go_roundw
    case rel =>
     have h1 := hrow.set (i := k) hlt (v := (lw n (k / 8) : Int) / 2 ^ (k % 8 * 8) % 256) (u := byt n k) (word_byte_int n k)
     rw [Nat.zero_add] at h1
     refine ⟨k + 1, by omega, by go_num, h1.congr (fun j hj => ?_), hb.setCell (Nat.le_refl _) _⟩
     unfold upd
     by_cases e : j = k
     · rw [if_pos e, if_pos (by omega), e]
     · rw [if_neg e]
       show (if j < k then byt n j else 0) = _
       by_cases e2 : j < k
       · rw [if_pos e2, if_pos (by omega)]
       · rw [if_neg e2, if_neg (by omega)]
    case measure => simp [intOf]; omega
  · go_wp2
    go_ret
    exact ⟨w.heap.size + 1, rfl, by omega, hrow.congr (fun j hj => by rw [if_pos (by omega)]), hbW.trans (hb.mono (by omega))⟩
theorem results_cell_tmp {P : Program} {fn : Func} {p q : Tmp} {ty : TypeId} (h : fn.results = #[.cell p ty, .tmp q]) (tmps : Array Value) (w : World) (g o : Nat) (cs : List Value) (d : TypeDesc)
 (hp : tmps.getD p undef = .pointer (some ⟨g, o, none⟩)) (hc : w.rangeAt g o cs)
 (hu : P.underlying ty = some d) (hd : d.isRow = true) (hi : (P.info? ty).map (·.size) = some cs.length) :
 (results fn tmps).run P w = .ok (.tuple #[.agg cs.toArray, tmps.getD q undef]) w := by
 have hp' : tmps[p]?.getD undef = .pointer (some ⟨g, o, none⟩) := by simpa using hp
 simp [results, h, hp', asAddr, run_loadVar_mid w g o ty cs d hc hu hd hi]
theorem numV_zero : numV 0 = .agg #[.int .u64 0, .int .u64 0, .int .u64 0, .int .u64 0] := by kernel_rfl
set_option maxRecDepth 20000 in
set_option maxHeartbeats 2000000 in
theorem from_other (xo : Option Addr) (n c : Nat) (hn : n ≠ 32) (w : World) :
 Calls Tryd.prog 65 #[.slice xo n c] w fun e w' => e = .returned (.tuple #[numV 0, .int .i64 1]) ∧ Below w.heap.size w w' := by
 have hni : ¬(n : Int) = 32 := by omega
 rw [numV_zero]
 go_enter Tryd.func65, Tryd.ntmps65
 go_wp2
 (try simp only [Exit.inBlock, Exit.then])
 exact bodyPost_ret (results_cell_tmp Tryd.results65 _ _ w.heap.size 0 [.int .u64 0, .int .u64 0, .int .u64 0, .int .u64 0] _ rfl (range_fresh4 w _ _ _ _ _) Tryd.underlying43 rfl (by kernel_rfl)) rfl ⟨rfl, (Below.refl _ _).alloc (Nat.le_refl _) _⟩
set_option maxRecDepth 20000 in
set_option maxHeartbeats 2000000 in
theorem from_32 (bb ob c : Nat) (bs : Nat → Nat) (hbs : ∀ j, bs j < 256) (w : World) (hbl : bb < w.heap.size) (hc : ∀ j, j < 32 → w.cell? ⟨bb, ob + j, none⟩ = some (.int .u8 (bs j))) :
 Calls Tryd.prog 65 #[.slice (some ⟨bb, ob, none⟩) 32 c] w fun e w' => e = .returned (.tuple #[numV (ofB bs 32 % pF), .int .i64 0]) ∧ Below w.heap.size w w' := by
 obtain ⟨W, hW⟩ : ∃ W, W = w.alloc (.cells #[.int .u64 0, .int .u64 0, .int .u64 0, .int .u64 0] 43) := ⟨_, rfl⟩
 have hWs : W.heap.size = w.heap.size + 1 := by rw [hW]; simp
 have hbW : Below w.heap.size w W := by rw [hW]; exact (Below.refl _ _).alloc (Nat.le_refl _) _
 have HW := Hid.mk' hW
 have hrow0 : RowAt .u64 (W.alloc (.cells #[.int .u64 0, .int .u64 0, .int .u64 0, .int .u64 0] 41)) (w.heap.size + 1) 0 4 (lw (ofB bs 0)) := by
  rw [← hWs]
  have hz : ∀ a, lw (ofB bs 0) a = 0 := fun a => by unfold lw ofB; rw [Nat.zero_div, Nat.zero_mod]
  exact RowAt.fresh (fun j hj => by rw [hz]; exact match j, hj with | 0, _ => rfl | 1, _ => rfl | 2, _ => rfl | 3, _ => rfl)
 have hb0 : Below (w.heap.size + 1) W (W.alloc (.cells #[.int .u64 0, .int .u64 0, .int .u64 0, .int .u64 0] 41)) := (Below.refl _ _).alloc (by omega) _
 have hset : ∀ W', Calls Tryd.prog 80 #[.int .u64 (lw (ofB bs 32) 0), .int .u64 (lw (ofB bs 32) 1), .int .u64 (lw (ofB bs 32) 2), .int .u64 (lw (ofB bs 32) 3), .int .u64 0] W' fun e w' => e = .returned (numV (ofB bs 32 % pF)) ∧ Below W'.heap.size W' w' := fun W' => by
  have := settle_any (lw (ofB bs 32) 0) (lw (ofB bs 32) 1) (lw (ofB bs 32) 2) (lw (ofB bs 32) 3) 0 (lw_lt _ _) (lw_lt _ _) (lw_lt _ _) (lw_lt _ _) (by decide) W'
  rw [lw_val _ (ofB_lt bs hbs 32), Nat.mul_zero, Nat.add_zero] at this
  exact this
 obtain ⟨N, hN⟩ : ∃ N, N = ofB bs 32 % pF := ⟨_, rfl⟩
 rw [← hN] at hset ⊢
 obtain ⟨z0, z1, z2, z3, hz⟩ := numV_ex N
 rw [hz] at hset ⊢
 clear hW hN hz
 go_enter Tryd.func65, Tryd.ntmps65
 go_wp2
 rw [← HW.out]
 go_loopw [13] (fun i wr => ∃ k : Nat, k ≤ 32 ∧ i = .int .i64 k ∧ RowAt .u64 wr (w.heap.size + 1) 0 4 (lw (ofB bs k)) ∧ Below (w.heap.size + 1) W wr) (fun i _ => 32 - (intOf i).toNat)
 case atStart => exact ⟨0, Nat.zero_le _, rfl, hrow0, hb0⟩
 case round =>
  clear hrow0 hb0
  obtain ⟨k, hk, rfl, hrow, hb⟩ := hrel
  by_cases hlt : k < 32
  · obtain ⟨rk, rf⟩ := hrow (k / 8) (by omega)
    rw [Nat.zero_add] at rk rf
    have hck : wr.cell? ⟨bb, ob + k, none⟩ = some (.int .u8 (bs k)) := ((hbW.trans (hb.mono (by omega))).cell (p := ⟨bb, ob + k, none⟩) hbl).trans (hc k hlt)
    have hor := or_byte (lw (ofB bs k) (k / 8)) (bs k) k (lw_lt _ _) (hbs k)
    have hbk := hbs k
    clear hc hset
    go_wp2
    go_roundw
    case rel =>
     have h1 := hrow.set (i := k / 8) (by omega) (v := ((lw (ofB bs k) (k / 8) ||| bs k * 2 ^ (k % 8 * 8) : Nat) : Int)) rfl
     rw [Nat.zero_add] at h1
     refine ⟨k + 1, by omega, by go_num, h1.congr (fun j hj => ?_), hb.setCell (Nat.le_refl _) _⟩
     rw [word_more bs hbs k j]
     unfold upd
     by_cases e : j = k / 8
     · rw [if_pos e, if_pos e, e]
     · rw [if_neg e, if_neg e]
    case measure => simp [intOf]; omega
  · have hke : k = 32 := by omega
    rw [hke] at hrow
    have d0 := (hrow 0 (by decide)).1
    have d1 := (hrow 1 (by decide)).1
    have d2 := (hrow 2 (by decide)).1
    have d3 := (hrow 3 (by decide)).1
    rw [Nat.zero_add] at d0 d1 d2 d3
    have hsr := hset wr
    obtain ⟨v0, hv0⟩ : ∃ v, v = lw (ofB bs 32) 0 := ⟨_, rfl⟩
    obtain ⟨v1, hv1⟩ : ∃ v, v = lw (ofB bs 32) 1 := ⟨_, rfl⟩
    obtain ⟨v2, hv2⟩ : ∃ v, v = lw (ofB bs 32) 2 := ⟨_, rfl⟩
    obtain ⟨v3, hv3⟩ : ∃ v, v = lw (ofB bs 32) 3 := ⟨_, rfl⟩
    rw [← hv0] at d0
    rw [← hv1] at d1
    rw [← hv2] at d2
    rw [← hv3] at d3
    rw [← hv0, ← hv1, ← hv2, ← hv3] at hsr
    clear hset hrow hc hke hv0 hv1 hv2 hv3
    have hbr : Below (w.heap.size + 1) (w.alloc (.cells #[.int .u64 0, .int .u64 0, .int .u64 0, .int .u64 0] 43)) wr := by rw [← HW.out]; exact hb
    go_wp2_with (go_at_call 80; refine hsr.mono ?_; clear hsr; rintro e w1 ⟨rfl, hb1⟩; (obtain ⟨ht1, hbw, ⟨t0, t1, t2, t3⟩, hf⟩ := behind' (w := w) (by rw [World.size_alloc]; exact hbr.trans (hb1.mono (by have := hbr.size; rw [World.size_alloc] at this; exact this))); (have f0 := hf 0 (by decide)); (have f1 := hf 1 (by decide)); (have f2 := hf 2 (by decide)); (have f3 := hf 3 (by decide)); clear hb1 hf))
    (try simp only [Exit.inBlock, Exit.then])
    exact bodyPost_ret (results_cell_tmp Tryd.results65 _ _ w.heap.size 0 [.int .u64 z0, .int .u64 z1, .int .u64 z2, .int .u64 z3] _ rfl (World.rangeAt_setCells_same w1 w.heap.size 0 [.int .u64 z0, .int .u64 z1, .int .u64 z2, .int .u64 z3] ht1) Tryd.underlying43 rfl (by kernel_rfl)) rfl ⟨rfl, below_set4 hbw (Nat.le_refl _) _ _ _ _⟩
end Go.Proofs.YtdgkmloabificaaDoor
