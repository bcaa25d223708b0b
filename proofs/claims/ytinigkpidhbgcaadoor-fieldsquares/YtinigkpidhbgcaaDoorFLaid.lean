/- From the listed variable to the root of -1 that the walks read: what the rows' condition gives; a world that holds it. -/
import Derived.Test.YtinigkpidhbgcaaDoorCards
import Derived.Test.YtinigkpidhbgcaaDoorTie
import Derived.Test.YtinigkpidhbgcaaDoorKit
import Derived.Test.YtinigkpidhbgcaaDoorRootQ
namespace Go.Proofs.YtinigkpidhbgcaaDoor
open Go
def rootL : List Nat := [14190309331451158704, 3405592160176694392, 3120150775007532967, 3135389899092516619]
theorem cellsOfWord : Tryd.prog.cellsOf 34 = 1 := by kernel_rfl
theorem cellsOfLimbs : Tryd.prog.cellsOf 36 = 4 := by kernel_rfl
theorem rootL_eq : Rows.laid_synod_field_rootOfMinusOne = (Lib.tabData .u64 (rootL.map fun n : Nat => (n : Int)) : DataW Unit) := rfl
theorem gRoot : Tryd.prog.globalNamed "synod/field.rootOfMinusOne" = some 0 := by kernel_rfl
theorem tRoot : (Tryd.prog.globals[0]?).map (·.type) = some 36 := by kernel_rfl
theorem c4_iM : c4 iM = (rootL.map fun n : Nat => Value.int .u64 (n : Int)) := by kernel_rfl
theorem im_of_laid {W : World} (h : laidMetH Tryd.prog [("synod/field.rootOfMinusOne", Rows.laid_synod_field_rootOfMinusOne)] W) : IM W := by
  have h' : laidMet Tryd.prog [("synod/field.rootOfMinusOne", Rows.laid_synod_field_rootOfMinusOne)] W := h
  obtain ⟨ps, ⟨g1, t1, cs1, f1, p1, q1, hg1, ht1, hv1, hd1, _, _⟩, _⟩ := h'
  obtain rfl := Option.some.inj (gRoot.symm.trans hg1)
  obtain rfl := Option.some.inj (tRoot.symm.trans ht1)
  rw [rootL_eq] at hd1
  have c1 := Lib.cells_of_tab Tryd.underlying36 Tryd.underlying34 cellsOfWord cellsOfLimbs hd1
  have hr : W.rangeAt 0 0 (c4 iM) := fun j v hv => by
    rw [Nat.zero_add, World.var?_cell gRoot hv1 j, ← Array.getElem?_toList, c1, ← hv, c4_iM]
    simp [rootL]
  exact ⟨hr, block_lt_of_cell (hr 0 _ rfl)⟩
/-- A variable's block with these cells. -/
def lay (cs : Array Value) : Obj → Obj
  | .cells _ t frozen => .cells cs t frozen
  | o => o
/-- A WORLD FOR THE WITNESS: the settled one, the variable holding what its initialiser lays. -/
noncomputable def laidWorld (os : Os) : World :=
  { World.holding Tryd.prog os ⟨#[], #[], []⟩ with heap := (World.holding Tryd.prog os ⟨#[], #[], []⟩).heap.modify 0 (lay #[.int .u64 14190309331451158704, .int .u64 3405592160176694392, .int .u64 3120150775007532967, .int .u64 3135389899092516619]) }
end Go.Proofs.YtinigkpidhbgcaaDoor
