/-
  NARROWER THAN 'FOR EVERY INPUT', by the rows' own cells (each row's printed sentence says how): PointBytes: laid · PointTimes: laid · PointSums: laid · PointGroup: laid · PointDoubles: laid.
  DERIVED. THE GIVEN ROWS OF THIS SEAT. 5 by the template 'for every input the law returns true; each argument reads behind the call as it read before'; 0 by the template 'total and deterministic' (their statements: YteekjcfbnoakgaaDoorTotals.lean).
  GIVEN WITH THE SEED: the statements are not yours to turn. If you find one false, say at which input.
  Laid BY PROGRAM, IN A SANDBOX (cutbox-rows.mjs): the forced cells as the released guide's own fill.sh prints them over the translation 8c56e8883169726b… (all of the seat's roots in one cut). By AI agents, Wed Nov 11 2026. No macro, syntax, notation, axiom, sorry.
-/
import Derived.Test.YteekjcfbnoakgaaDoorChecked
import GoSem.Claim
import GoSem.ClaimJoined
import GoSem.ClaimMapViews
import Derived.JoinedTies
import Derived.KernelRfl
namespace Go.Proofs.YteekjcfbnoakgaaDoor
/- THE CELL 'sum', in the pinned program and in every row, IS THE sha256 OF THE DUMP (.gsa) THAT YteekjcfbnoakgaaDoorProg.lean LOADS. Nothing in Lean hashes anything: it is a label: what it is worth is what the hold of that sum in a sandbox is worth. -/
noncomputable def Tryd.pinned : Pinned := { name := "yteekjcfbnoakgaadoor", sum := "8c56e8883169726bfde2fa1d8d369cc6c563cc6622416cd92e9c58e30f144ef4", checked := Tryd.checked }
namespace Rows
def none {H : Type} : Left H := { results := [], args := [] }

/- WHAT THE LISTED PACKAGE-LEVEL VARIABLES READ AS WHEN THE CALL BEGINS. Each datum BY PROGRAM (the guide's laid-datum.mjs) off the statement by which the dump's own 'gosem.cut.vars' lays the variable. In a bare row this is a premise. The card (YteekjcfbnoakgaaDoorCards.lean) ties it to the program's text. -/
def laid_synod_field_rootOfMinusOne {H : Type} : DataW H := .agg [.lit (.int .u64 14190309331451158704), .lit (.int .u64 3405592160176694392), .lit (.int .u64 3120150775007532967), .lit (.int .u64 3135389899092516619)]
def laid_synod_scalar_order {H : Type} : DataW H := .agg [.lit (.int .u64 6346243789798364141), .lit (.int .u64 1503914060200516822), .lit (.int .u64 0), .lit (.int .u64 1152921504606846976)]

/-- 'synodlaw06.PointBytes': WHATEVER THE INPUT: true; the input reads as it did. -/
def pointBytesSpec : ChangeSpec := { name := "pointBytes", fn := fun _ => fun
  | [d] => { results := [.lit (.bool true)], args := [d] }
  | _ => none }
def pointBytesRow : OpenClaim := { program := "yteekjcfbnoakgaadoor", sum := "8c56e8883169726bfde2fa1d8d369cc6c563cc6622416cd92e9c58e30f144ef4", func := "synod/synodlaw06.PointBytes", spec := "pointBytes", inPlace := ["math/bits.Add64", "math/bits.Sub64"], unfollowed := true, recurses := true, named := ["synod/field.rootOfMinusOne"], apart := false, laid := [("synod/field.rootOfMinusOne", laid_synod_field_rootOfMinusOne)] }
def PointBytesSaid : Prop := pointBytesRow.holds Tryd.pinned (OpenSpec.ofChange pointBytesSpec)

/-- ITS FALSE NEIGHBOUR: 'it returns false'. Refute it at one input. -/
def pointBytesWrong : ChangeSpec := { name := "pointBytes", fn := fun _ => fun
  | [d] => { results := [.lit (.bool false)], args := [d] }
  | _ => none }
def PointBytesWrongFalsely : Prop := pointBytesRow.holds Tryd.pinned (OpenSpec.ofChange pointBytesWrong)

/-- 'synodlaw06.PointTimes': WHATEVER THE INPUT: true; the input reads as it did. -/
def pointTimesSpec : ChangeSpec := { name := "pointTimes", fn := fun _ => fun
  | [d1, d2] => { results := [.lit (.bool true)], args := [d1, d2] }
  | _ => none }
def pointTimesRow : OpenClaim := { program := "yteekjcfbnoakgaadoor", sum := "8c56e8883169726bfde2fa1d8d369cc6c563cc6622416cd92e9c58e30f144ef4", func := "synod/synodlaw06.PointTimes", spec := "pointTimes", inPlace := ["math/bits.Add64", "math/bits.Sub64"], unfollowed := true, recurses := true, named := ["synod/field.rootOfMinusOne"], apart := false, laid := [("synod/field.rootOfMinusOne", laid_synod_field_rootOfMinusOne)] }
def PointTimesSaid : Prop := pointTimesRow.holds Tryd.pinned (OpenSpec.ofChange pointTimesSpec)

/-- ITS FALSE NEIGHBOUR: 'it returns false'. Refute it at one input. -/
def pointTimesWrong : ChangeSpec := { name := "pointTimes", fn := fun _ => fun
  | [d1, d2] => { results := [.lit (.bool false)], args := [d1, d2] }
  | _ => none }
def PointTimesWrongFalsely : Prop := pointTimesRow.holds Tryd.pinned (OpenSpec.ofChange pointTimesWrong)

/-- 'synodlaw06.PointSums': WHATEVER THE INPUT: true; the input reads as it did. -/
def pointSumsSpec : ChangeSpec := { name := "pointSums", fn := fun _ => fun
  | [d1, d2] => { results := [.lit (.bool true)], args := [d1, d2] }
  | _ => none }
def pointSumsRow : OpenClaim := { program := "yteekjcfbnoakgaadoor", sum := "8c56e8883169726bfde2fa1d8d369cc6c563cc6622416cd92e9c58e30f144ef4", func := "synod/synodlaw06.PointSums", spec := "pointSums", inPlace := ["math/bits.Add64", "math/bits.Sub64"], unfollowed := true, recurses := true, named := ["synod/field.rootOfMinusOne"], apart := false, laid := [("synod/field.rootOfMinusOne", laid_synod_field_rootOfMinusOne)] }
def PointSumsSaid : Prop := pointSumsRow.holds Tryd.pinned (OpenSpec.ofChange pointSumsSpec)

/-- ITS FALSE NEIGHBOUR: 'it returns false'. Refute it at one input. -/
def pointSumsWrong : ChangeSpec := { name := "pointSums", fn := fun _ => fun
  | [d1, d2] => { results := [.lit (.bool false)], args := [d1, d2] }
  | _ => none }
def PointSumsWrongFalsely : Prop := pointSumsRow.holds Tryd.pinned (OpenSpec.ofChange pointSumsWrong)

/-- 'synodlaw06.PointGroup': WHATEVER THE INPUT: true; the input reads as it did. -/
def pointGroupSpec : ChangeSpec := { name := "pointGroup", fn := fun _ => fun
  | [d1, d2, d3] => { results := [.lit (.bool true)], args := [d1, d2, d3] }
  | _ => none }
def pointGroupRow : OpenClaim := { program := "yteekjcfbnoakgaadoor", sum := "8c56e8883169726bfde2fa1d8d369cc6c563cc6622416cd92e9c58e30f144ef4", func := "synod/synodlaw06.PointGroup", spec := "pointGroup", inPlace := ["math/bits.Add64", "math/bits.Sub64"], unfollowed := true, recurses := true, named := ["synod/field.rootOfMinusOne", "synod/scalar.order"], apart := false, laid := [("synod/field.rootOfMinusOne", laid_synod_field_rootOfMinusOne), ("synod/scalar.order", laid_synod_scalar_order)] }
def PointGroupSaid : Prop := pointGroupRow.holds Tryd.pinned (OpenSpec.ofChange pointGroupSpec)

/-- ITS FALSE NEIGHBOUR: 'it returns false'. Refute it at one input. -/
def pointGroupWrong : ChangeSpec := { name := "pointGroup", fn := fun _ => fun
  | [d1, d2, d3] => { results := [.lit (.bool false)], args := [d1, d2, d3] }
  | _ => none }
def PointGroupWrongFalsely : Prop := pointGroupRow.holds Tryd.pinned (OpenSpec.ofChange pointGroupWrong)

/-- 'synodlaw06.PointDoubles': WHATEVER THE INPUT: true; the input reads as it did. -/
def pointDoublesSpec : ChangeSpec := { name := "pointDoubles", fn := fun _ => fun
  | [d1, d2] => { results := [.lit (.bool true)], args := [d1, d2] }
  | _ => none }
def pointDoublesRow : OpenClaim := { program := "yteekjcfbnoakgaadoor", sum := "8c56e8883169726bfde2fa1d8d369cc6c563cc6622416cd92e9c58e30f144ef4", func := "synod/synodlaw06.PointDoubles", spec := "pointDoubles", inPlace := ["math/bits.Add64", "math/bits.Sub64"], unfollowed := true, recurses := true, named := ["synod/field.rootOfMinusOne"], apart := false, laid := [("synod/field.rootOfMinusOne", laid_synod_field_rootOfMinusOne)] }
def PointDoublesSaid : Prop := pointDoublesRow.holds Tryd.pinned (OpenSpec.ofChange pointDoublesSpec)

/-- ITS FALSE NEIGHBOUR: 'it returns false'. Refute it at one input. -/
def pointDoublesWrong : ChangeSpec := { name := "pointDoubles", fn := fun _ => fun
  | [d1, d2] => { results := [.lit (.bool false)], args := [d1, d2] }
  | _ => none }
def PointDoublesWrongFalsely : Prop := pointDoublesRow.holds Tryd.pinned (OpenSpec.ofChange pointDoublesWrong)

/- THE SECOND FORM. 'bulk': how many values and letters a reading holds, each counted each time it is reached (what is shared counts as often as it is met; a slice's spare places count too). A statement '..UptoSaid' is the law's where the arguments, and the package variables that the reading takes, are together of bulk at most 1048576: NARROWER than '..Said'. Prove '..Said' where nothing that the law and all that it calls make is longer than what came in: it says more and counts as full. Else prove '..UptoSaid'. A law counts once. -/
mutual
def uptoBulk {H : Type} : DataW H → Nat
  | .lit (.string bytes) => bytes.length + 1
  | .lit _ => 1
  | .nil => 1
  | .ptr d => uptoBulk d + 1
  | .slice elems spare => uptoBulkAll elems + uptoBulkAll spare + 1
  | .agg parts => uptoBulkAll parts + 1
  | .iface _ d => uptoBulk d + 1
  | .map entries => uptoBulkEntries entries + 1
  | .held _ => 1
def uptoBulkAll {H : Type} : List (DataW H) → Nat
  | [] => 0
  | d :: r => uptoBulk d + uptoBulkAll r
def uptoBulkEntries {H : Type} : List (Lit × DataW H) → Nat
  | [] => 0
  | x :: r => uptoBulkEntry x + uptoBulkEntries r
def uptoBulkEntry {H : Type} : Lit × DataW H → Nat
  | (.string bytes, d) => bytes.length + uptoBulk d + 1
  | (_, d) => uptoBulk d + 1
 end
def uptoSmall : (H : Type) → List (DataW H) → Bool := fun _ ds => decide (uptoBulkAll ds ≤ 1048576)
def OpenSpec.upto (s : _root_.Go.ChangeSpec) : _root_.Go.OpenSpec := { _root_.Go.OpenSpec.ofChange s with cond := some uptoSmall }

/-- 'synodlaw06.PointBytes', WHERE WHAT IT READS IS OF BULK AT MOST 1048576: true; the input reads as it did. -/
def pointBytesUptoRow : OpenClaim := { program := "yteekjcfbnoakgaadoor", sum := "8c56e8883169726bfde2fa1d8d369cc6c563cc6622416cd92e9c58e30f144ef4", func := "synod/synodlaw06.PointBytes", spec := "pointBytes", inPlace := ["math/bits.Add64", "math/bits.Sub64"], unfollowed := true, recurses := true, named := ["synod/field.rootOfMinusOne"], apart := false, laid := [("synod/field.rootOfMinusOne", laid_synod_field_rootOfMinusOne)], narrowed := true }
def PointBytesUptoSaid : Prop := pointBytesUptoRow.holds Tryd.pinned (OpenSpec.upto pointBytesSpec)

/-- 'synodlaw06.PointTimes', WHERE WHAT IT READS IS OF BULK AT MOST 1048576: true; the input reads as it did. -/
def pointTimesUptoRow : OpenClaim := { program := "yteekjcfbnoakgaadoor", sum := "8c56e8883169726bfde2fa1d8d369cc6c563cc6622416cd92e9c58e30f144ef4", func := "synod/synodlaw06.PointTimes", spec := "pointTimes", inPlace := ["math/bits.Add64", "math/bits.Sub64"], unfollowed := true, recurses := true, named := ["synod/field.rootOfMinusOne"], apart := false, laid := [("synod/field.rootOfMinusOne", laid_synod_field_rootOfMinusOne)], narrowed := true }
def PointTimesUptoSaid : Prop := pointTimesUptoRow.holds Tryd.pinned (OpenSpec.upto pointTimesSpec)

/-- 'synodlaw06.PointSums', WHERE WHAT IT READS IS OF BULK AT MOST 1048576: true; the input reads as it did. -/
def pointSumsUptoRow : OpenClaim := { program := "yteekjcfbnoakgaadoor", sum := "8c56e8883169726bfde2fa1d8d369cc6c563cc6622416cd92e9c58e30f144ef4", func := "synod/synodlaw06.PointSums", spec := "pointSums", inPlace := ["math/bits.Add64", "math/bits.Sub64"], unfollowed := true, recurses := true, named := ["synod/field.rootOfMinusOne"], apart := false, laid := [("synod/field.rootOfMinusOne", laid_synod_field_rootOfMinusOne)], narrowed := true }
def PointSumsUptoSaid : Prop := pointSumsUptoRow.holds Tryd.pinned (OpenSpec.upto pointSumsSpec)

/-- 'synodlaw06.PointGroup', WHERE WHAT IT READS IS OF BULK AT MOST 1048576: true; the input reads as it did. -/
def pointGroupUptoRow : OpenClaim := { program := "yteekjcfbnoakgaadoor", sum := "8c56e8883169726bfde2fa1d8d369cc6c563cc6622416cd92e9c58e30f144ef4", func := "synod/synodlaw06.PointGroup", spec := "pointGroup", inPlace := ["math/bits.Add64", "math/bits.Sub64"], unfollowed := true, recurses := true, named := ["synod/field.rootOfMinusOne", "synod/scalar.order"], apart := false, laid := [("synod/field.rootOfMinusOne", laid_synod_field_rootOfMinusOne), ("synod/scalar.order", laid_synod_scalar_order)], narrowed := true }
def PointGroupUptoSaid : Prop := pointGroupUptoRow.holds Tryd.pinned (OpenSpec.upto pointGroupSpec)

/-- 'synodlaw06.PointDoubles', WHERE WHAT IT READS IS OF BULK AT MOST 1048576: true; the input reads as it did. -/
def pointDoublesUptoRow : OpenClaim := { program := "yteekjcfbnoakgaadoor", sum := "8c56e8883169726bfde2fa1d8d369cc6c563cc6622416cd92e9c58e30f144ef4", func := "synod/synodlaw06.PointDoubles", spec := "pointDoubles", inPlace := ["math/bits.Add64", "math/bits.Sub64"], unfollowed := true, recurses := true, named := ["synod/field.rootOfMinusOne"], apart := false, laid := [("synod/field.rootOfMinusOne", laid_synod_field_rootOfMinusOne)], narrowed := true }
def PointDoublesUptoSaid : Prop := pointDoublesUptoRow.holds Tryd.pinned (OpenSpec.upto pointDoublesSpec)

end Rows
end Go.Proofs.YteekjcfbnoakgaaDoor
