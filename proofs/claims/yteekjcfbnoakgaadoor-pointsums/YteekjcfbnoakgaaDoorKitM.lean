/- What the proof stands on: Kit, FLaid. -/
import Derived.Test.YteekjcfbnoakgaaDoorBaseM
import Derived.Test.YteekjcfbnoakgaaDoorCards
import Derived.Test.YteekjcfbnoakgaaDoorRootFitM
import Derived.Test.YteekjcfbnoakgaaDoorTie
import Derived.ChangeOld
import Derived.ChangeSlices
import Derived.Deep.DeepHandedRow
import Derived.Lib.LaidTab
import Derived.OpenShut
import Derived.ProofKit
import Derived.SizedLaws
import Derived.WalkKit
namespace Go.Proofs.YteekjcfbnoakgaaDoor
open Go.ChangeShapes Go.WideShapes Go.ChangeAt Go.RowKit
theorem ownKnobs : ownKnob Tryd.prog.godebug = none := by kernel_rfl
theorem laidOut : laidOutB Tryd.prog = true := by kernel_rfl
theorem cellsOfByte : Tryd.prog.cellsOf 5 = 1 := by kernel_rfl
theorem bytesOfByte : Tryd.prog.bytesOf 5 = 1 := by kernel_rfl
set_option maxRecDepth 20000 in
/-- A slice of bytes that came in: bytes in memory; how many. -/
theorem open_bytes {H : Type} {enc : TypeId × Value → H} {W : World} {base : Nat} {v : Value} {d : DataW H} {ps : List MemPlace} (hval : Value.okWide Tryd.prog W .any base 22 v) (h : DataW.Trod enc Tryd.prog W 0 (fun _ => true) true 22 v d ps) :
    ∃ n bs, BytesIn W v n bs ∧ (∀ j, bs j < 256) ∧ (n = 0 ∨ ∃ elems spare, d = .slice elems spare ∧ elems.length = n) := by
  obtain ⟨a0, len, cap, rfl⟩ := okWide_slice Tryd.underlying22 hval
  obtain ⟨fuel, hf⟩ := h
  have hc : Cell.ok Tryd.prog W .any base 22 (.slice a0 len cap) := by
    unfold Value.okWide Cell.okWide at hval
    simp only [Tryd.underlying22] at hval
    exact hval
  rcases open_ints Tryd.underlying22 Tryd.underlying5 cellsOfByte hf with ⟨hcs, hx⟩ | ⟨a, len', cap', zs, hcs, _, hl, hm, hz, hx, hcell, hwz⟩
  · simp [Value.cells] at hcs
    obtain ⟨rfl, rfl, rfl⟩ := hcs
    exact ⟨0, fun _ => 0, .inl ⟨none, rfl, rfl⟩, fun _ => Nat.zero_lt_succ _, .inl rfl⟩
  · simp [Value.cells] at hcs
    obtain ⟨rfl, rfl, rfl⟩ := hcs
    simp only [Prod.mk.injEq] at hx
    obtain ⟨rfl, rfl⟩ := hx
    simp only [if_true] at hz
    unfold Cell.ok at hc
    simp only [Tryd.underlying22] at hc
    obtain ⟨_, _, _, hs, row, cells, hsh, _⟩ := hc
    obtain ⟨b, off, spot⟩ := a
    subst hs
    have hbl : b < W.heap.size := by
      rcases Nat.lt_or_ge b W.heap.size with h | h
      · exact h
      · unfold World.shape? at hsh
        rw [Array.getElem?_eq_none h] at hsh
        cases hsh
    have hn : ∀ j, 0 ≤ zs.getD j 0 ∧ zs.getD j 0 < 256 := fun j => by
      rw [List.getD_eq_getElem?_getD]
      cases h : zs[j]? with
      | none => simp
      | some x =>
        have := hwz x (List.mem_of_getElem? h)
        have h0 : (0 : Int) ≤ x ∧ x ≤ 255 := by simpa [Lit.wf, IntKind.min, IntKind.max, IntKind.signed, IntKind.bits] using this
        show 0 ≤ x ∧ x < 256
        omega
    refine ⟨len, fun j => (zs.getD j 0).toNat, .inr ⟨b, off, cap, rfl, hbl, hl, fun j hj => ?_⟩, fun j => ?_, .inr ⟨_, _, rfl, ?_⟩⟩
    · have h := hcell j (by omega)
      rw [Addr.add_mid] at h
      rw [h, Int.toNat_of_nonneg (hn j).1]
    · have := hn j
      show (zs.getD j 0).toNat < 256
      omega
    · simp [lits]; omega
theorem bytes_reach {H : Type} {ts : List TypeId} {ds : List (DataW H)} (hR : (DataW.weightsEach Tryd.prog ts ds).all (· ≤ reachBytes) = true) {j n : Nat} {d : DataW H} (ht : ts[j]? = some 22) (hd : ds[j]? = some d) (h : n = 0 ∨ ∃ elems spare, d = .slice elems spare ∧ elems.length = n) : n < 140737488355000 := by
  rcases h with h | ⟨elems, spare, rfl, rfl⟩
  · omega
  · have := sized_slice hR ht hd Tryd.underlying22
    rw [bytesOfByte] at this
    unfold reachBytes at this
    omega
end Go.Proofs.YteekjcfbnoakgaaDoor
namespace Go.Proofs.YteekjcfbnoakgaaDoor
open Go
def rootL : List Nat := [14190309331451158704, 3405592160176694392, 3120150775007532967, 3135389899092516619]
theorem cellsOfWord : Tryd.prog.cellsOf 24 = 1 := by kernel_rfl
theorem cellsOfLimbs : Tryd.prog.cellsOf 26 = 4 := by kernel_rfl
theorem rootL_eq : Rows.laid_synod_field_rootOfMinusOne = (Lib.tabData .u64 (rootL.map fun n : Nat => (n : Int)) : DataW Unit) := rfl
theorem gRoot : Tryd.prog.globalNamed "synod/field.rootOfMinusOne" = some 1 := by kernel_rfl
theorem tRoot : (Tryd.prog.globals[1]?).map (·.type) = some 26 := by kernel_rfl
theorem c4_iM : c4 iM = (rootL.map fun n : Nat => Value.int .u64 (n : Int)) := by kernel_rfl
theorem im_of_laid {W : World} (h : laidMetH Tryd.prog [("synod/field.rootOfMinusOne", Rows.laid_synod_field_rootOfMinusOne)] W) : IM W := by
  have h' : laidMet Tryd.prog [("synod/field.rootOfMinusOne", Rows.laid_synod_field_rootOfMinusOne)] W := h
  obtain ⟨ps, ⟨g1, t1, cs1, f1, p1, q1, hg1, ht1, hv1, hd1, _, _⟩, _⟩ := h'
  obtain rfl := Option.some.inj (gRoot.symm.trans hg1)
  obtain rfl := Option.some.inj (tRoot.symm.trans ht1)
  rw [rootL_eq] at hd1
  have c1 := Lib.cells_of_tab Tryd.underlying26 Tryd.underlying24 cellsOfWord cellsOfLimbs hd1
  have hr : W.rangeAt 1 0 (c4 iM) := fun j v hv => by
    rw [Nat.zero_add, World.var?_cell gRoot hv1 j, ← Array.getElem?_toList, c1, ← hv, c4_iM]
    simp [rootL]
  exact ⟨hr, block_lt_of_cell (hr 0 _ rfl)⟩
/-- A variable's block with these cells. -/
def lay (cs : Array Value) : Obj → Obj
  | .cells _ t frozen => .cells cs t frozen
  | o => o
/-- A WORLD FOR THE WITNESS: the settled one, the variable holding what its initialiser lays. -/
noncomputable def laidWorld (os : Os) : World :=
  { World.holding Tryd.prog os ⟨#[], #[], []⟩ with heap := (World.holding Tryd.prog os ⟨#[], #[], []⟩).heap.modify 1 (lay #[.int .u64 14190309331451158704, .int .u64 3405592160176694392, .int .u64 3120150775007532967, .int .u64 3135389899092516619]) }
end Go.Proofs.YteekjcfbnoakgaaDoor
