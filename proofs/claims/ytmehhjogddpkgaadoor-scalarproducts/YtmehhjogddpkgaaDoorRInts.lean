/- Rows of numbers of one's own that are put one behind the other. -/
import Derived.Test.YtmehhjogddpkgaaDoorNews
namespace Go.Proofs.YtmehhjogddpkgaaDoor
open Go.RowKit
/-- Numbers of one's own: a row from base on. -/
def OwnI (base : Nat) (w : World) (v : Value) (n : Nat) (X : Nat → Nat) : Prop := w.ownsRow base 3 1 v n (ints .i64 n X)
theorem OwnI.below {base : Nat} {w w' : World} {v : Value} {n : Nat} {X : Nat → Nat} (h : OwnI base w v n X) (hb : Below w.heap.size w w') : OwnI base w' v n X := own_below h hb
theorem OwnI.alloc {base : Nat} {w : World} {v : Value} {n : Nat} {X : Nat → Nat} (h : OwnI base w v n X) (o : Obj) : OwnI base (w.alloc o) v n X := h.below ((Below.refl _ _).alloc (Nat.le_refl _) _)
theorem OwnI.congr {base : Nat} {w : World} {v : Value} {n : Nat} {X Y : Nat → Nat} (h : OwnI base w v n X) (e : ∀ j, j < n → X j = Y j) : OwnI base w v n Y := by
  unfold OwnI; rw [← ints_congr _ _ _ _ e]; exact h
theorem OwnI.form {base : Nat} {w : World} {v : Value} {n : Nat} {X : Nat → Nat} (h : OwnI base w v n X) : (v = .slice none 0 0 ∧ n = 0) ∨ ∃ g cap, v = .slice (some ⟨g, 0, none⟩) n cap ∧ base ≤ g ∧ g < w.heap.size ∧ n ≤ cap ∧ RowAt .i64 w g 0 n X := by
  rcases h.2 with hv | ⟨g, cap, cur, rfl, hb, hg, hn, _⟩
  · exact .inl hv
  · refine .inr ⟨g, cap, rfl, hb, (h.lt g rfl).2, hn, fun j hj => ?_⟩
    rw [Nat.zero_add]
    exact ⟨by rw [World.ownsRow.cellAt h j (by omega), ints_at _ _ _ j hj], World.ownsRow.frozenAt h j⟩
theorem OwnI.nil (base : Nat) (w : World) (X : Nat → Nat) : OwnI base w (.slice none 0 0) 0 X := World.ownsRow_nil w base _ _
theorem infoInt : (Tryd.prog.info? 3).map (fun i => (i.zero, i.size, i.bytes)) = some (some (.int .i64 0), 1, 8) := by kernel_rfl
/-- One number more, out of a new block. -/
theorem wpList_append_nextI {w : World} {ops : Array Oper} {rest : List Oper} {o : Oper} {a : Act} {Q : Exit → Act → World → Prop} (hgd : o.guard = none) (s x : Operand)
    (ho : o.op = .call { callee := .builtin .append, args := #[s, x], argTypes := #[43, 43] }) (base : Nat)
    (v : Value) (n : Nat) (F : Nat → Nat) (y : Int) (hs : a.eval s = v) (hown : OwnI base w v n F) (hx : a.eval x = .slice (some ⟨w.heap.size, 0, none⟩) 1 1) (hF : y = (F n : Int))
    (hl : n + 1 ≤ 100000) (hbase : base ≤ w.heap.size)
    (h : ∀ v' w', OwnI base w' v' (n + 1) F → Below base w w' → wpList Tryd.prog ops Q rest (a.put o.dst v') w') : wpList Tryd.prog ops Q (o :: rest) a (w.alloc (.cells #[.int .i64 y] 3)) := by
  obtain ⟨i0, hi, hz0, hz1, hz2⟩ := info_parts infoInt
  have hb : Below base w (w.alloc (.cells #[.int .i64 y] 3)) := (Below.refl _ _).alloc hbase _
  have hz : base ≤ (w.alloc (.cells #[.int .i64 y] 3)).heap.size := by simp only [World.size_alloc]; omega
  refine wpList_append_own_at (w := w.alloc (.cells #[.int .i64 y] 3)) hgd s x 43 ho base 3 i0 (.int .i64 0) 1 8 Tryd.underlying43 hi hz0 hz1 hz2 rfl (by decide) v n _ hs (hown.alloc _) ⟨w.heap.size, 0, none⟩ 1 1 [.int .i64 y] hx rfl (one_new w (.int .i64 y) 3) (one_cell .i64 y) (by unfold maxLen; omega) (by omega) hz ?_
  · intro v' w' h1 h2 _ _
    refine h v' w' ?_ (below_grown hb h2 (hown.alloc _) (Nat.le_refl _) hz)
    unfold OwnI
    have e : ints .i64 (n + 1) F = ints .i64 n F ++ [.int .i64 y] := by
      rw [hF]
      unfold ints
      rw [List.range_succ, List.map_append]
      rfl
    rw [e]
    exact h1
end Go.Proofs.YtmehhjogddpkgaaDoor
