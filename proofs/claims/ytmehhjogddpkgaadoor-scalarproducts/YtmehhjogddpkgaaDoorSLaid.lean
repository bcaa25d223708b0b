/- From the listed variable to the order that the walks read: what the rows' condition gives; a world that holds it. -/
import Derived.Test.YtmehhjogddpkgaaDoorCards
import Derived.Test.YtmehhjogddpkgaaDoorTie
import Derived.Test.YtmehhjogddpkgaaDoorKit
import Derived.Test.YtmehhjogddpkgaaDoorSTake
namespace Go.Proofs.YtmehhjogddpkgaaDoor
open Go
def orderL : List Nat := [6346243789798364141, 1503914060200516822, 0, 1152921504606846976]
theorem cellsOfWord : Tryd.prog.cellsOf 38 = 1 := by kernel_rfl
theorem cellsOfOrder : Tryd.prog.cellsOf 48 = 4 := by kernel_rfl
theorem orderL_eq : Rows.laid_synod_scalar_order = (Lib.tabData .u64 (orderL.map fun n : Nat => (n : Int)) : DataW Unit) := rfl
theorem gOrder : Tryd.prog.globalNamed "synod/scalar.order" = some 0 := by kernel_rfl
theorem tOrder : (Tryd.prog.globals[0]?).map (·.type) = some 48 := by kernel_rfl
theorem ord_of_laid {W : World} (h : laidMetH Tryd.prog [("synod/scalar.order", Rows.laid_synod_scalar_order)] W) : Ord W := by
  have h' : laidMet Tryd.prog [("synod/scalar.order", Rows.laid_synod_scalar_order)] W := h
  obtain ⟨ps, ⟨g1, t1, cs1, f1, p1, q1, hg1, ht1, hv1, hd1, _, _⟩, _⟩ := h'
  obtain rfl := Option.some.inj (gOrder.symm.trans hg1)
  obtain rfl := Option.some.inj (tOrder.symm.trans ht1)
  rw [orderL_eq] at hd1
  have c1 := Lib.cells_of_tab Tryd.underlying48 Tryd.underlying38 cellsOfWord cellsOfOrder hd1
  intro j hj
  rw [World.var?_cell gOrder hv1 j, ← Array.getElem?_toList, c1]
  have h : j = 0 ∨ j = 1 ∨ j = 2 ∨ j = 3 := by omega
  rcases h with rfl | rfl | rfl | rfl <;> rfl
/-- A variable's block with these cells. -/
def lay (cs : Array Value) : Obj → Obj
  | .cells _ t frozen => .cells cs t frozen
  | o => o
/-- A WORLD FOR THE WITNESS: the settled one, the variable holding what its initialiser lays. -/
noncomputable def laidWorld (os : Os) : World :=
  { World.holding Tryd.prog os ⟨#[], #[], []⟩ with heap := (World.holding Tryd.prog os ⟨#[], #[], []⟩).heap.modify 0 (lay #[.int .u64 6346243789798364141, .int .u64 1503914060200516822, .int .u64 0, .int .u64 1152921504606846976]) }
end Go.Proofs.YtmehhjogddpkgaaDoor
