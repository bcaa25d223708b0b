/- The two tables' numbers are of 64 bits. -/
import Derived.Test.YtlfofbkanifocaaDoorCert
namespace Go.Proofs.YtlfofbkanifocaaDoor
open Go.RowKit
theorem cubeK_lt : ∀ j, cubeK j < 18446744073709551616 := fun j => by
  unfold cubeK
  rw [List.getD_eq_getElem?_getD]
  cases h : cubesL[j]? with
  | none => decide
  | some x =>
    have hm : x ∈ cubesL := List.mem_of_getElem? h
    exact of_decide_eq_true (List.all_eq_true.1 (show cubesL.all (fun x => decide (x < 18446744073709551616)) = true by kernel_rfl) x hm)
theorem squareK_lt : ∀ j, squareK j < 18446744073709551616 := fun j => by
  unfold squareK
  rw [List.getD_eq_getElem?_getD]
  cases h : squaresL[j]? with
  | none => decide
  | some x =>
    have hm : x ∈ squaresL := List.mem_of_getElem? h
    exact of_decide_eq_true (List.all_eq_true.1 (show squaresL.all (fun x => decide (x < 18446744073709551616)) = true by kernel_rfl) x hm)
end Go.Proofs.YtlfofbkanifocaaDoor
