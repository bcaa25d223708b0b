/- How long the bytes of an argument may be: by what the machine reaches. -/
import Derived.Test.YtlfofbkanifocaaDoorCardKit
namespace Go.Proofs.YtlfofbkanifocaaDoor
open Go.ChangeShapes Go.WideShapes Go.ChangeAt Go.RowKit
theorem bytes_reach2 {H : Type} {ts : List TypeId} {ds : List (DataW H)} (hR : (DataW.weightsEach Tryd.prog ts ds).all (· ≤ reachBytes) = true) {j n : Nat} {d : DataW H} (ht : ts[j]? = some 22) (hd : ds[j]? = some d) (h : n = 0 ∨ ∃ elems spare, d = .slice elems spare ∧ elems.length = n) : n < 140737488352000 := by
  rcases h with h | ⟨elems, spare, rfl, rfl⟩
  · omega
  · have := sized_slice hR ht hd Tryd.underlying22
    rw [bytesOfByte] at this
    unfold reachBytes at this
    omega
end Go.Proofs.YtlfofbkanifocaaDoor
