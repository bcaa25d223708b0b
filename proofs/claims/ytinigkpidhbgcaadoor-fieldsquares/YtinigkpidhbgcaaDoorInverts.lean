/- The walk of the law FieldInverts in the model. -/
import Derived.Test.YtinigkpidhbgcaaDoorSums
import Derived.Test.YtinigkpidhbgcaaDoorRefPow
import Derived.Test.YtinigkpidhbgcaaDoorInverse
namespace Go.Proofs.YtinigkpidhbgcaaDoor
open Go.RowKit
end Go.Proofs.YtinigkpidhbgcaaDoor
