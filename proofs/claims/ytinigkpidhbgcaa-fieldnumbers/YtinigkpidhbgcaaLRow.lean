/- Rows of cells in memory: those of numbers, of ratios and of pairs; and a region's end as a cut. -/
import Derived.Test.YtinigkpidhbgcaaInverse
import Derived.Test.YtinigkpidhbgcaaFSmall
import Derived.Test.YtinigkpidhbgcaaNarrow
import Derived.Deep.Cut
namespace Go.Proofs.Ytinigkpidhbgcaa
open Go.RowKit
/-- Cells that hold these values, and may be written. -/
structure RW (w : World) (g o : Nat) (cs : List Value) : Prop where
  range : w.rangeAt g o cs
  there : w.there g o cs.length
  lt : g < w.heap.size
theorem RW.still {w w' : World} {g o : Nat} {cs : List Value} (h : RW w g o cs) (hb : Below w.heap.size w w') : RW w' g o cs :=
  ⟨fun j v hv => (hb.cell (p := ⟨g, o + j, none⟩) h.lt).trans (h.range j v hv), fun j hj => by
    rw [hb.cell (p := ⟨g, o + j, none⟩) h.lt, hb.frozen (p := ⟨g, o + j, none⟩) h.lt]; exact h.there j hj, Nat.lt_of_lt_of_le h.lt hb.size⟩
theorem RW.below {w w' : World} {g o B : Nat} {cs : List Value} (h : RW w g o cs) (hb : Below B w w') (hB : g < B) : RW w' g o cs :=
  ⟨fun j v hv => (hb.cell (p := ⟨g, o + j, none⟩) hB).trans (h.range j v hv), fun j hj => by
    rw [hb.cell (p := ⟨g, o + j, none⟩) hB, hb.frozen (p := ⟨g, o + j, none⟩) hB]; exact h.there j hj, Nat.lt_of_lt_of_le h.lt hb.size⟩
theorem RW.out {w w' : World} {g o b p n : Nat} {cs : List Value} (h : RW w g o cs) (hb : Out b p n w w') (hne : g ≠ b) : RW w' g o cs :=
  ⟨fun j v hv => (hb.cell' h.lt hne).trans (h.range j v hv), fun j hj => by
    rw [hb.cell' h.lt hne, hb.frozen' h.lt hne]; exact h.there j hj, Nat.lt_of_lt_of_le h.lt hb.size⟩
theorem RW.outside {w w' : World} {g o p n : Nat} {cs : List Value} (h : RW w g o cs) (hb : Out g p n w w') (hne : o + cs.length ≤ p ∨ p + n ≤ o) : RW w' g o cs :=
  ⟨fun j v hv => (hb.cell _ (by have := (List.getElem?_eq_some_iff.1 hv).1; omega)).trans (h.range j v hv), fun j hj => by
    rw [hb.cell _ (by omega), hb.frozen]; exact h.there j hj, Nat.lt_of_lt_of_le h.lt hb.size⟩
theorem RW.stored {w : World} {g o : Nat} {cs : List Value} (h : RW w g o cs) (ds : List Value) (hl : ds.length = cs.length) : RW (w.setCells g o ds) g o ds :=
  ⟨World.rangeAt_setCells_same _ _ _ _ (by rw [hl]; exact h.there), World.there_setCells (by rw [hl]; exact h.there) _ _ _, by rw [(setCells_same g ds o w).2.2.2]; exact h.lt⟩
theorem RW.far {w : World} {g o : Nat} {cs : List Value} (h : RW w g o cs) (b p : Nat) (ds : List Value) (hap : g ≠ b ∨ o + cs.length ≤ p ∨ p + ds.length ≤ o) : RW (w.setCells b p ds) g o cs :=
  ⟨World.rangeAt_setCells_apart h.range _ _ _ hap, World.there_setCells h.there _ _ _, by rw [(setCells_same b ds p w).2.2.2]; exact h.lt⟩
theorem RW.left {w : World} {g o : Nat} {cs ds : List Value} (h : RW w g o (cs ++ ds)) : RW w g o cs :=
  ⟨fun j v hv => h.range j v (by rw [List.getElem?_append_left (List.getElem?_eq_some_iff.1 hv).1]; exact hv), fun j hj => h.there j (by rw [List.length_append]; omega), h.lt⟩
theorem RW.right {w : World} {g o : Nat} {cs ds : List Value} (h : RW w g o (cs ++ ds)) : RW w g (o + cs.length) ds :=
  ⟨fun j v hv => by
    have := h.range (cs.length + j) v (by rw [List.getElem?_append_right (Nat.le_add_right _ _), Nat.add_sub_cancel_left]; exact hv)
    rw [← Nat.add_assoc] at this; exact this, fun j hj => by
    have := h.there (cs.length + j) (by rw [List.length_append]; omega)
    rw [← Nat.add_assoc] at this; exact this, h.lt⟩
theorem RW.join {w : World} {g o : Nat} {cs ds : List Value} (h : RW w g o cs) (k : RW w g (o + cs.length) ds) : RW w g o (cs ++ ds) :=
  ⟨fun j v hv => by
    by_cases hj : j < cs.length
    · exact h.range j v (by rw [List.getElem?_append_left hj] at hv; exact hv)
    · rw [List.getElem?_append_right (by omega)] at hv
      have := k.range (j - cs.length) v hv
      rw [show o + cs.length + (j - cs.length) = o + j by omega] at this; exact this, fun j hj => by
    rw [List.length_append] at hj
    by_cases hj' : j < cs.length
    · exact h.there j hj'
    · have := k.there (j - cs.length) (by omega)
      rw [show o + cs.length + (j - cs.length) = o + j by omega] at this; exact this, h.lt⟩
theorem RW.fresh (w : World) (cs : List Value) (t : TypeId) : RW (w.alloc (.cells cs.toArray t)) w.heap.size 0 cs :=
  ⟨fun j v hv => by rw [Nat.zero_add]; simp [hv], fun j hj => by
    rw [Nat.zero_add]; simp [hj], by simp⟩
theorem RW.drew {w : World} {g o : Nat} {cs : List Value} (h : RW w g o cs) : RW w.drew g o cs := h.still ((Below.refl _ _).drew)
/-- A number's cells; two numbers' (a ratio's). -/
def c4 (n : Nat) : List Value := [.int .u64 (lw n 0), .int .u64 (lw n 1), .int .u64 (lw n 2), .int .u64 (lw n 3)]
def c8 (x z : Nat) : List Value := c4 x ++ c4 z
def ratV (x z : Nat) : Value := .agg (c8 x z).toArray
theorem numV_c4 (n : Nat) : numV n = .agg (c4 n).toArray := rfl
theorem c4_zero : c4 0 = [.int .u64 0, .int .u64 0, .int .u64 0, .int .u64 0] := by kernel_rfl
/-- A new variable of four cells. -/
theorem fresh4 (w : World) : ∃ w' g, w.alloc (.cells #[.int .u64 0, .int .u64 0, .int .u64 0, .int .u64 0] 46) = w' ∧ w.heap.size = g ∧ Below w.heap.size w w' ∧ RW w' g 0 (c4 0) := by
  refine ⟨_, _, rfl, rfl, (Below.refl _ _).alloc (Nat.le_refl _) _, ?_⟩
  rw [c4_zero]; exact RW.fresh w _ _
theorem info4 : (Try.prog.info? 46).map (·.size) = some 4 := by kernel_rfl
theorem one4 (n : Nat) : (c4 n).toArray.all (·.oneCell') = true := by simp [c4, Value.oneCell']
theorem one8 (x z : Nat) : (c8 x z).toArray.all (·.oneCell') = true := by simp [c8, c4, Value.oneCell']
end Go.Proofs.Ytinigkpidhbgcaa
