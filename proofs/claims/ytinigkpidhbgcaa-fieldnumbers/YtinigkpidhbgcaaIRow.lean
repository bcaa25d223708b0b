/- Rows of signed numbers in memory. -/
import Derived.Test.YtinigkpidhbgcaaBts
namespace Go.Proofs.Ytinigkpidhbgcaa
open Go.RowKit
/-- n signed numbers in a block. -/
def IRow (w : World) (g n : Nat) (L : Nat → Int) : Prop := ∀ j, j < n → w.cell? ⟨g, j, none⟩ = some (.int .i64 (L j)) ∧ w.frozen? ⟨g, j, none⟩ = false
def intsI (n : Nat) (L : Nat → Int) : List Value := (List.range n).map fun j => .int .i64 (L j)
theorem intsI_len (n : Nat) (L : Nat → Int) : (intsI n L).length = n := by simp [intsI]
theorem intsI_size (n : Nat) (L : Nat → Int) : (intsI n L).toArray.size = n := by simp [intsI]
theorem intsI_at (n : Nat) (L : Nat → Int) (j : Nat) (h : j < n) : (intsI n L)[j]? = some (.int .i64 (L j)) := by simp [intsI, h]
theorem intsI_one (n : Nat) (L : Nat → Int) : ∀ v ∈ intsI n L, v.oneCell' = true := fun v hv => by
  simp only [intsI, List.mem_map] at hv
  obtain ⟨j, _, rfl⟩ := hv
  rfl
theorem intsI_congr {n : Nat} {L M : Nat → Int} (h : ∀ j, j < n → L j = M j) : intsI n L = intsI n M :=
  List.map_congr_left fun j hj => by rw [h j (List.mem_range.1 hj)]
/-- A number of the reference, as a value. -/
def refV (L : Nat → Int) : Value := .agg (intsI 16 L).toArray
theorem IRow.below {B : Nat} {w w' : World} {g n : Nat} {L : Nat → Int} (h : IRow w g n L) (hb : Below B w w') (hB : g < B) : IRow w' g n L := fun j hj =>
  ⟨(hb.cell (p := ⟨g, j, none⟩) hB).trans (h j hj).1, (hb.frozen (p := ⟨g, j, none⟩) hB).trans (h j hj).2⟩
theorem IRow.congr {w : World} {g n : Nat} {L M : Nat → Int} (h : IRow w g n L) (e : ∀ j, j < n → L j = M j) : IRow w g n M := fun j hj => by rw [← e j hj]; exact h j hj
theorem IRow.drew {w : World} {g n : Nat} {L : Nat → Int} (h : IRow w g n L) : IRow w.drew g n L := fun j hj => h j hj
def updI (L : Nat → Int) (i : Nat) (v : Int) : Nat → Int := fun j => if j = i then v else L j
theorem IRow.set {w : World} {g n : Nat} {L : Nat → Int} (h : IRow w g n L) {i : Nat} (hi : i < n) (v : Int) : IRow (w.setCell ⟨g, i, none⟩ (.int .i64 v)) g n (updI L i v) := fun j hj => by
  obtain ⟨h1, h2⟩ := h j hj
  by_cases e : j = i
  · subst e
    refine ⟨?_, ?_⟩
    · have := World.rangeAt_setCells_same w g j [.int .i64 v] (fun k hk => by
        have : k = 0 := by simpa using hk
        subst this
        rw [Nat.add_zero, h1]; exact ⟨rfl, h2⟩) 0 _ rfl
      simp only [updI, if_true]
      exact this
    · exact (World.frozen?_setCells g [.int .i64 v] j w _).trans h2
  · refine ⟨?_, (World.frozen?_setCells g [.int .i64 v] i w _).trans h2⟩
    simp only [updI, if_neg e]
    rw [← h1]
    exact World.cell?_setCells_out g [.int .i64 v] i w _ (fun _ _ => by show j < i ∨ i + 1 ≤ j; omega)
theorem IRow.far {w : World} {g n : Nat} {L : Nat → Int} (h : IRow w g n L) {a : Addr} (ha : a.block ≠ g) (v : Value) : IRow (w.setCell a v) g n L := fun j hj => by
  have hk : (w.setCell a v).heap[g]? = w.heap[g]? := Below.heap_setCell w a v g (Ne.symm ha)
  exact ⟨(World.cell?_of_block (w := w) hk).trans (h j hj).1, (World.frozen?_of_block (w := w) hk).trans (h j hj).2⟩
theorem IRow.range {w : World} {g n : Nat} {L : Nat → Int} (h : IRow w g n L) : w.rangeAt g 0 (intsI n L) := fun j v hv => by
  have hj : j < n := by have := (List.getElem?_eq_some_iff.1 hv).1; rwa [intsI_len] at this
  rw [intsI_at _ _ j hj] at hv
  cases hv
  rw [Nat.zero_add]; exact (h j hj).1
theorem IRow.there {w : World} {g n : Nat} {L : Nat → Int} (h : IRow w g n L) : w.there g 0 n := fun j hj => by
  rw [Nat.zero_add, (h j hj).1]; exact ⟨rfl, (h j hj).2⟩
theorem IRow.fresh (w : World) (cs : Array Value) (t : TypeId) {n : Nat} {L : Nat → Int} (h : ∀ j, j < n → cs[j]? = some (.int .i64 (L j))) : IRow (w.alloc (.cells cs t)) w.heap.size n L := fun j hj => by
  refine ⟨?_, by simp⟩
  have := h j hj
  simp [this]
theorem IRow.box (w : World) (n : Nat) (L : Nat → Int) (t : TypeId) : IRow (w.alloc (.cells (intsI n L).toArray t)) w.heap.size n L := IRow.fresh w _ t (fun j hj => by rw [List.getElem?_toArray]; exact intsI_at n L j hj)
theorem IRow.stored {w : World} {g n : Nat} {M L : Nat → Int} (h : IRow w g n M) : IRow (w.setCells g 0 (intsI n L)) g n L := fun j hj => by
  have hr := World.rangeAt_setCells_same w g 0 (intsI n L) (by rw [intsI_len]; exact h.there)
  refine ⟨?_, (World.frozen?_setCells g (intsI n L) 0 w _).trans (h j hj).2⟩
  have := hr j _ (intsI_at n L j hj)
  rwa [Nat.zero_add] at this
theorem IRow.farCells {w : World} {g n : Nat} {L : Nat → Int} (h : IRow w g n L) {k : Nat} (hk : g ≠ k) (o : Nat) (vs : List Value) : IRow (w.setCells k o vs) g n L := fun j hj => by
  have hb : (w.setCells k o vs).heap[g]? = w.heap[g]? := heap_setCells_other k vs o w g hk
  exact ⟨(World.cell?_of_block (w := w) hb).trans (h j hj).1, (World.frozen?_of_block (w := w) hb).trans (h j hj).2⟩
end Go.Proofs.Ytinigkpidhbgcaa
