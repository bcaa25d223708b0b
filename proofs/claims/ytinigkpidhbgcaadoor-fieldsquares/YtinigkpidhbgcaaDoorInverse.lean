/- What Inverse of a Number does in the model: the power p - 2. -/
import Derived.Test.YtinigkpidhbgcaaDoorOnes
namespace Go.Proofs.YtinigkpidhbgcaaDoor
open Go.RowKit
end Go.Proofs.YtinigkpidhbgcaaDoor
