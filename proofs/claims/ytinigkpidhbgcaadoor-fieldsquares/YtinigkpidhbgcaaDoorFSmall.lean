/- What Small of package field does in the model. -/
import Derived.Test.YtinigkpidhbgcaaDoorNumber
namespace Go.Proofs.YtinigkpidhbgcaaDoor
open Go.RowKit
theorem numV_small (n : Nat) (h : n < 18446744073709551616) : (Value.agg #[.int .u64 n, .int .u64 0, .int .u64 0, .int .u64 0] : Value) = numV n :=
  numV_of n n 0 0 0 h (by decide) (by decide) (by decide) (by unfold val4; omega)
end Go.Proofs.YtinigkpidhbgcaaDoor
