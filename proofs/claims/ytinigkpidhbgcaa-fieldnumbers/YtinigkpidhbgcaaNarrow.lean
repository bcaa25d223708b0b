/- A condition of a region that draws its order, made narrower on the way. -/
import Derived.Test.YtinigkpidhbgcaaBase
namespace Go.Proofs.Ytinigkpidhbgcaa
open Go.RowKit
/-- What holds under a narrower condition on the worlds holds under the wider one. -/
theorem wpAnyH_narrow {P : Program} {md : Region.Mode} {ops : Array Oper} {Q : Exit → Act → World → Prop} {S S' : World → Prop} (h : ∀ w, S' w → S w) : ∀ (fuel : Nat) (listed : Array Bool) (a : Act) (w : World), wpAnyH P md ops Q S' fuel listed a w → wpAnyH P md ops Q S fuel listed a w
  | 0, _, _, _, H => H
  | fuel + 1, _, _, _, H => ⟨H.1, fun i hi => wpOp_mono (fun a' w' h' => ⟨h w' h'.1, wpAnyH_narrow h fuel _ a' w' h'.2⟩) (H.2 i hi)⟩
end Go.Proofs.Ytinigkpidhbgcaa
