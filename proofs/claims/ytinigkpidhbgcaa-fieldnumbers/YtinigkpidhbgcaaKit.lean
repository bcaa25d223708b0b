/- What the rows share: bytes that come in, as the reading hands them. -/
import Derived.Test.YtinigkpidhbgcaaBase
import Derived.WalkKit
import Derived.ProofKit
import Derived.OpenShut
import Derived.ChangeOld
import Derived.ChangeSlices
import Derived.SizedLaws
import Derived.Deep.DeepHandedRow
import Derived.Lib.LaidTab
namespace Go.Proofs.Ytinigkpidhbgcaa
open Go.ChangeShapes Go.WideShapes Go.ChangeAt Go.RowKit
theorem ownKnobs : ownKnob Try.prog.godebug = none := by kernel_rfl
theorem laidOut : laidOutB Try.prog = true := by kernel_rfl
theorem cellsOfByte : Try.prog.cellsOf 5 = 1 := by kernel_rfl
theorem bytesOfByte : Try.prog.bytesOf 5 = 1 := by kernel_rfl
/-- A slice of bytes that came in: bytes in memory; how many. -/
theorem open_bytes {H : Type} {enc : TypeId × Value → H} {W : World} {base : Nat} {v : Value} {d : DataW H} {ps : List MemPlace} (hval : Value.okWide Try.prog W .any base 22 v) (h : DataW.Trod enc Try.prog W 0 (fun _ => true) true 22 v d ps) :
    ∃ n bs, BytesIn W v n bs ∧ (∀ j, bs j < 256) ∧ (n = 0 ∨ ∃ elems spare, d = .slice elems spare ∧ elems.length = n) := by
  obtain ⟨a0, len, cap, rfl⟩ := okWide_slice Try.underlying22 hval
  obtain ⟨fuel, hf⟩ := h
  have hc : Cell.ok Try.prog W .any base 22 (.slice a0 len cap) := by
    unfold Value.okWide Cell.okWide at hval
    simp only [Try.underlying22] at hval
    exact hval
  rcases open_ints Try.underlying22 Try.underlying5 cellsOfByte hf with ⟨hcs, hx⟩ | ⟨a, len', cap', zs, hcs, _, hl, hm, hz, hx, hcell, hwz⟩
  · simp [Value.cells] at hcs
    obtain ⟨rfl, rfl, rfl⟩ := hcs
    exact ⟨0, fun _ => 0, .inl ⟨none, rfl, rfl⟩, fun _ => Nat.zero_lt_succ _, .inl rfl⟩
  · simp [Value.cells] at hcs
    obtain ⟨rfl, rfl, rfl⟩ := hcs
    simp only [Prod.mk.injEq] at hx
    obtain ⟨rfl, rfl⟩ := hx
    simp only [if_true] at hz
    unfold Cell.ok at hc
    simp only [Try.underlying22] at hc
    obtain ⟨_, _, _, hs, row, cells, hsh, _⟩ := hc
    obtain ⟨b, off, spot⟩ := a
    subst hs
    have hbl : b < W.heap.size := by
      rcases Nat.lt_or_ge b W.heap.size with h | h
      · exact h
      · unfold World.shape? at hsh
        rw [Array.getElem?_eq_none h] at hsh
        cases hsh
    have hn : ∀ j, 0 ≤ zs.getD j 0 ∧ zs.getD j 0 < 256 := fun j => by
      rw [List.getD_eq_getElem?_getD]
      cases h : zs[j]? with
      | none => simp
      | some x =>
        have := hwz x (List.mem_of_getElem? h)
        have h0 : (0 : Int) ≤ x ∧ x ≤ 255 := by simpa [Lit.wf, IntKind.min, IntKind.max, IntKind.signed, IntKind.bits] using this
        show 0 ≤ x ∧ x < 256
        omega
    refine ⟨len, fun j => (zs.getD j 0).toNat, .inr ⟨b, off, cap, rfl, hbl, hl, fun j hj => ?_⟩, fun j => ?_, .inr ⟨_, _, rfl, ?_⟩⟩
    · have h := hcell j (by omega)
      rw [Addr.add_mid] at h
      rw [h, Int.toNat_of_nonneg (hn j).1]
    · have := hn j
      show (zs.getD j 0).toNat < 256
      omega
    · simp [lits]; omega
theorem bytes_reach {H : Type} {ts : List TypeId} {ds : List (DataW H)} (hR : (DataW.weightsEach Try.prog ts ds).all (· ≤ reachBytes) = true) {j n : Nat} {d : DataW H} (ht : ts[j]? = some 22) (hd : ds[j]? = some d) (h : n = 0 ∨ ∃ elems spare, d = .slice elems spare ∧ elems.length = n) : n < 140737488355000 := by
  rcases h with h | ⟨elems, spare, rfl, rfl⟩
  · omega
  · have := sized_slice hR ht hd Try.underlying22
    rw [bytesOfByte] at this
    unfold reachBytes at this
    omega
theorem bytes_reach2 {H : Type} {ts : List TypeId} {ds : List (DataW H)} (hR : (DataW.weightsEach Try.prog ts ds).all (· ≤ reachBytes) = true) {j n : Nat} {d : DataW H} (ht : ts[j]? = some 22) (hd : ds[j]? = some d) (h : n = 0 ∨ ∃ elems spare, d = .slice elems spare ∧ elems.length = n) : n < 140737488352000 := by
  rcases h with h | ⟨elems, spare, rfl, rfl⟩
  · omega
  · have := sized_slice hR ht hd Try.underlying22
    rw [bytesOfByte] at this
    unfold reachBytes at this
    omega
end Go.Proofs.Ytinigkpidhbgcaa
