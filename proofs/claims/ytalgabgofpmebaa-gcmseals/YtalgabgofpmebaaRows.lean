/-
  No cell of these rows narrows 'for every input' (looked for: loops, veiled, ifaces, maps, wideKeys, modest, calm, conditions, laid).
  DERIVED. THE GIVEN ROWS OF THIS SEAT. 7 by the template 'for every input the law returns true; each argument reads behind the call as it read before'; 0 by the template 'total and deterministic' (their statements: YtalgabgofpmebaaTotals.lean).
  GIVEN WITH THE SEED: the statements are not yours to turn. If you find one false, say at which input.
  Laid BY PROGRAM, IN A SANDBOX (cutbox-rows.mjs): the forced cells as the released guide's own fill.sh prints them over the translation 8cde486d3f0cf521… (all of the seat's roots in one cut). By AI agents, Wed Nov 11 2026. No macro, syntax, notation, axiom, sorry.
-/
import Derived.Test.YtalgabgofpmebaaChecked
import GoSem.Claim
import GoSem.ClaimJoined
import GoSem.ClaimMapViews
import Derived.JoinedTies
import Derived.KernelRfl
namespace Go.Proofs.Ytalgabgofpmebaa
/- THE CELL 'sum', in the pinned program and in every row, IS THE sha256 OF THE DUMP (.gsa) THAT YtalgabgofpmebaaProg.lean LOADS. Nothing in Lean hashes anything: it is a label: what it is worth is what the hold of that sum in a sandbox is worth. -/
noncomputable def Try.pinned : Pinned := { name := "ytalgabgofpmebaa", sum := "8cde486d3f0cf521400c41413a4002c2e3cbf2ed3a695d15ddc9e5dd8770b613", checked := Try.checked }
namespace Rows
def none {H : Type} : Left H := { results := [], args := [] }

/-- 'synodlaw09.GcmProducts': WHATEVER THE INPUT: true; the input reads as it did. -/
def gcmProductsSpec : ChangeSpec := { name := "gcmProducts", fn := fun _ => fun
  | [d1, d2] => { results := [.lit (.bool true)], args := [d1, d2] }
  | _ => none }
def gcmProductsRow : OpenClaim := { program := "ytalgabgofpmebaa", sum := "8cde486d3f0cf521400c41413a4002c2e3cbf2ed3a695d15ddc9e5dd8770b613", func := "synod/synodlaw09.GcmProducts", spec := "gcmProducts", unfollowed := true, recurses := true, apart := false }
def GcmProductsSaid : Prop := gcmProductsRow.holds Try.pinned (OpenSpec.ofChange gcmProductsSpec)

/-- ITS FALSE NEIGHBOUR: 'it returns false'. Refute it at one input. -/
def gcmProductsWrong : ChangeSpec := { name := "gcmProducts", fn := fun _ => fun
  | [d1, d2] => { results := [.lit (.bool false)], args := [d1, d2] }
  | _ => none }
def GcmProductsWrongFalsely : Prop := gcmProductsRow.holds Try.pinned (OpenSpec.ofChange gcmProductsWrong)

/-- 'synodlaw09.GcmHashes': WHATEVER THE INPUT: true; the input reads as it did. -/
def gcmHashesSpec : ChangeSpec := { name := "gcmHashes", fn := fun _ => fun
  | [d1, d2] => { results := [.lit (.bool true)], args := [d1, d2] }
  | _ => none }
def gcmHashesRow : OpenClaim := { program := "ytalgabgofpmebaa", sum := "8cde486d3f0cf521400c41413a4002c2e3cbf2ed3a695d15ddc9e5dd8770b613", func := "synod/synodlaw09.GcmHashes", spec := "gcmHashes", unfollowed := true, recurses := true, apart := false }
def GcmHashesSaid : Prop := gcmHashesRow.holds Try.pinned (OpenSpec.ofChange gcmHashesSpec)

/-- ITS FALSE NEIGHBOUR: 'it returns false'. Refute it at one input. -/
def gcmHashesWrong : ChangeSpec := { name := "gcmHashes", fn := fun _ => fun
  | [d1, d2] => { results := [.lit (.bool false)], args := [d1, d2] }
  | _ => none }
def GcmHashesWrongFalsely : Prop := gcmHashesRow.holds Try.pinned (OpenSpec.ofChange gcmHashesWrong)

/-- 'synodlaw09.GcmSeals': WHATEVER THE INPUT: true; the input reads as it did. -/
def gcmSealsSpec : ChangeSpec := { name := "gcmSeals", fn := fun _ => fun
  | [d] => { results := [.lit (.bool true)], args := [d] }
  | _ => none }
def gcmSealsRow : OpenClaim := { program := "ytalgabgofpmebaa", sum := "8cde486d3f0cf521400c41413a4002c2e3cbf2ed3a695d15ddc9e5dd8770b613", func := "synod/synodlaw09.GcmSeals", spec := "gcmSeals", unfollowed := true, recurses := true, apart := false }
def GcmSealsSaid : Prop := gcmSealsRow.holds Try.pinned (OpenSpec.ofChange gcmSealsSpec)

/-- ITS FALSE NEIGHBOUR: 'it returns false'. Refute it at one input. -/
def gcmSealsWrong : ChangeSpec := { name := "gcmSeals", fn := fun _ => fun
  | [d] => { results := [.lit (.bool false)], args := [d] }
  | _ => none }
def GcmSealsWrongFalsely : Prop := gcmSealsRow.holds Try.pinned (OpenSpec.ofChange gcmSealsWrong)

/-- 'synodlaw09.GcmOpens': WHATEVER THE INPUT: true; the input reads as it did. -/
def gcmOpensSpec : ChangeSpec := { name := "gcmOpens", fn := fun _ => fun
  | [d] => { results := [.lit (.bool true)], args := [d] }
  | _ => none }
def gcmOpensRow : OpenClaim := { program := "ytalgabgofpmebaa", sum := "8cde486d3f0cf521400c41413a4002c2e3cbf2ed3a695d15ddc9e5dd8770b613", func := "synod/synodlaw09.GcmOpens", spec := "gcmOpens", unfollowed := true, recurses := true, apart := false }
def GcmOpensSaid : Prop := gcmOpensRow.holds Try.pinned (OpenSpec.ofChange gcmOpensSpec)

/-- ITS FALSE NEIGHBOUR: 'it returns false'. Refute it at one input. -/
def gcmOpensWrong : ChangeSpec := { name := "gcmOpens", fn := fun _ => fun
  | [d] => { results := [.lit (.bool false)], args := [d] }
  | _ => none }
def GcmOpensWrongFalsely : Prop := gcmOpensRow.holds Try.pinned (OpenSpec.ofChange gcmOpensWrong)

/-- 'synodlaw09.GcmBack': WHATEVER THE INPUT: true; the input reads as it did. -/
def gcmBackSpec : ChangeSpec := { name := "gcmBack", fn := fun _ => fun
  | [d1, d2, d3, d4] => { results := [.lit (.bool true)], args := [d1, d2, d3, d4] }
  | _ => none }
def gcmBackRow : OpenClaim := { program := "ytalgabgofpmebaa", sum := "8cde486d3f0cf521400c41413a4002c2e3cbf2ed3a695d15ddc9e5dd8770b613", func := "synod/synodlaw09.GcmBack", spec := "gcmBack", unfollowed := true, recurses := true, apart := false }
def GcmBackSaid : Prop := gcmBackRow.holds Try.pinned (OpenSpec.ofChange gcmBackSpec)

/-- ITS FALSE NEIGHBOUR: 'it returns false'. Refute it at one input. -/
def gcmBackWrong : ChangeSpec := { name := "gcmBack", fn := fun _ => fun
  | [d1, d2, d3, d4] => { results := [.lit (.bool false)], args := [d1, d2, d3, d4] }
  | _ => none }
def GcmBackWrongFalsely : Prop := gcmBackRow.holds Try.pinned (OpenSpec.ofChange gcmBackWrong)

/-- 'synodlaw09.GcmLaws': WHATEVER THE INPUT: true; the input reads as it did. -/
def gcmLawsSpec : ChangeSpec := { name := "gcmLaws", fn := fun _ => fun
  | [d1, d2, d3] => { results := [.lit (.bool true)], args := [d1, d2, d3] }
  | _ => none }
def gcmLawsRow : OpenClaim := { program := "ytalgabgofpmebaa", sum := "8cde486d3f0cf521400c41413a4002c2e3cbf2ed3a695d15ddc9e5dd8770b613", func := "synod/synodlaw09.GcmLaws", spec := "gcmLaws", unfollowed := true, recurses := true, apart := false }
def GcmLawsSaid : Prop := gcmLawsRow.holds Try.pinned (OpenSpec.ofChange gcmLawsSpec)

/-- ITS FALSE NEIGHBOUR: 'it returns false'. Refute it at one input. -/
def gcmLawsWrong : ChangeSpec := { name := "gcmLaws", fn := fun _ => fun
  | [d1, d2, d3] => { results := [.lit (.bool false)], args := [d1, d2, d3] }
  | _ => none }
def GcmLawsWrongFalsely : Prop := gcmLawsRow.holds Try.pinned (OpenSpec.ofChange gcmLawsWrong)

/-- 'synodlaw09.GcmStreams': WHATEVER THE INPUT: true; the input reads as it did. -/
def gcmStreamsSpec : ChangeSpec := { name := "gcmStreams", fn := fun _ => fun
  | [d1, d2] => { results := [.lit (.bool true)], args := [d1, d2] }
  | _ => none }
def gcmStreamsRow : OpenClaim := { program := "ytalgabgofpmebaa", sum := "8cde486d3f0cf521400c41413a4002c2e3cbf2ed3a695d15ddc9e5dd8770b613", func := "synod/synodlaw09.GcmStreams", spec := "gcmStreams", unfollowed := true, recurses := true, apart := false }
def GcmStreamsSaid : Prop := gcmStreamsRow.holds Try.pinned (OpenSpec.ofChange gcmStreamsSpec)

/-- ITS FALSE NEIGHBOUR: 'it returns false'. Refute it at one input. -/
def gcmStreamsWrong : ChangeSpec := { name := "gcmStreams", fn := fun _ => fun
  | [d1, d2] => { results := [.lit (.bool false)], args := [d1, d2] }
  | _ => none }
def GcmStreamsWrongFalsely : Prop := gcmStreamsRow.holds Try.pinned (OpenSpec.ofChange gcmStreamsWrong)

/- THE SECOND FORM. 'bulk': how many values and letters a reading holds, each counted each time it is reached (what is shared counts as often as it is met; a slice's spare places count too). A statement '..UptoSaid' is the law's where the arguments, and the package variables that the reading takes, are together of bulk at most 1048576: NARROWER than '..Said'. Prove '..Said' where nothing that the law and all that it calls make is longer than what came in: it says more and counts as full. Else prove '..UptoSaid'. A law counts once. -/
mutual
def uptoBulk {H : Type} : DataW H → Nat
  | .lit (.string bytes) => bytes.length + 1
  | .lit _ => 1
  | .nil => 1
  | .ptr d => uptoBulk d + 1
  | .slice elems spare => uptoBulkAll elems + uptoBulkAll spare + 1
  | .agg parts => uptoBulkAll parts + 1
  | .iface _ d => uptoBulk d + 1
  | .map entries => uptoBulkEntries entries + 1
  | .held _ => 1
def uptoBulkAll {H : Type} : List (DataW H) → Nat
  | [] => 0
  | d :: r => uptoBulk d + uptoBulkAll r
def uptoBulkEntries {H : Type} : List (Lit × DataW H) → Nat
  | [] => 0
  | x :: r => uptoBulkEntry x + uptoBulkEntries r
def uptoBulkEntry {H : Type} : Lit × DataW H → Nat
  | (.string bytes, d) => bytes.length + uptoBulk d + 1
  | (_, d) => uptoBulk d + 1
 end
def uptoSmall : (H : Type) → List (DataW H) → Bool := fun _ ds => decide (uptoBulkAll ds ≤ 1048576)
def OpenSpec.upto (s : _root_.Go.ChangeSpec) : _root_.Go.OpenSpec := { _root_.Go.OpenSpec.ofChange s with cond := some uptoSmall }

/-- 'synodlaw09.GcmProducts', WHERE WHAT IT READS IS OF BULK AT MOST 1048576: true; the input reads as it did. -/
def gcmProductsUptoRow : OpenClaim := { program := "ytalgabgofpmebaa", sum := "8cde486d3f0cf521400c41413a4002c2e3cbf2ed3a695d15ddc9e5dd8770b613", func := "synod/synodlaw09.GcmProducts", spec := "gcmProducts", unfollowed := true, recurses := true, apart := false, narrowed := true }
def GcmProductsUptoSaid : Prop := gcmProductsUptoRow.holds Try.pinned (OpenSpec.upto gcmProductsSpec)

/-- 'synodlaw09.GcmHashes', WHERE WHAT IT READS IS OF BULK AT MOST 1048576: true; the input reads as it did. -/
def gcmHashesUptoRow : OpenClaim := { program := "ytalgabgofpmebaa", sum := "8cde486d3f0cf521400c41413a4002c2e3cbf2ed3a695d15ddc9e5dd8770b613", func := "synod/synodlaw09.GcmHashes", spec := "gcmHashes", unfollowed := true, recurses := true, apart := false, narrowed := true }
def GcmHashesUptoSaid : Prop := gcmHashesUptoRow.holds Try.pinned (OpenSpec.upto gcmHashesSpec)

/-- 'synodlaw09.GcmSeals', WHERE WHAT IT READS IS OF BULK AT MOST 1048576: true; the input reads as it did. -/
def gcmSealsUptoRow : OpenClaim := { program := "ytalgabgofpmebaa", sum := "8cde486d3f0cf521400c41413a4002c2e3cbf2ed3a695d15ddc9e5dd8770b613", func := "synod/synodlaw09.GcmSeals", spec := "gcmSeals", unfollowed := true, recurses := true, apart := false, narrowed := true }
def GcmSealsUptoSaid : Prop := gcmSealsUptoRow.holds Try.pinned (OpenSpec.upto gcmSealsSpec)

/-- 'synodlaw09.GcmOpens', WHERE WHAT IT READS IS OF BULK AT MOST 1048576: true; the input reads as it did. -/
def gcmOpensUptoRow : OpenClaim := { program := "ytalgabgofpmebaa", sum := "8cde486d3f0cf521400c41413a4002c2e3cbf2ed3a695d15ddc9e5dd8770b613", func := "synod/synodlaw09.GcmOpens", spec := "gcmOpens", unfollowed := true, recurses := true, apart := false, narrowed := true }
def GcmOpensUptoSaid : Prop := gcmOpensUptoRow.holds Try.pinned (OpenSpec.upto gcmOpensSpec)

/-- 'synodlaw09.GcmBack', WHERE WHAT IT READS IS OF BULK AT MOST 1048576: true; the input reads as it did. -/
def gcmBackUptoRow : OpenClaim := { program := "ytalgabgofpmebaa", sum := "8cde486d3f0cf521400c41413a4002c2e3cbf2ed3a695d15ddc9e5dd8770b613", func := "synod/synodlaw09.GcmBack", spec := "gcmBack", unfollowed := true, recurses := true, apart := false, narrowed := true }
def GcmBackUptoSaid : Prop := gcmBackUptoRow.holds Try.pinned (OpenSpec.upto gcmBackSpec)

/-- 'synodlaw09.GcmLaws', WHERE WHAT IT READS IS OF BULK AT MOST 1048576: true; the input reads as it did. -/
def gcmLawsUptoRow : OpenClaim := { program := "ytalgabgofpmebaa", sum := "8cde486d3f0cf521400c41413a4002c2e3cbf2ed3a695d15ddc9e5dd8770b613", func := "synod/synodlaw09.GcmLaws", spec := "gcmLaws", unfollowed := true, recurses := true, apart := false, narrowed := true }
def GcmLawsUptoSaid : Prop := gcmLawsUptoRow.holds Try.pinned (OpenSpec.upto gcmLawsSpec)

/-- 'synodlaw09.GcmStreams', WHERE WHAT IT READS IS OF BULK AT MOST 1048576: true; the input reads as it did. -/
def gcmStreamsUptoRow : OpenClaim := { program := "ytalgabgofpmebaa", sum := "8cde486d3f0cf521400c41413a4002c2e3cbf2ed3a695d15ddc9e5dd8770b613", func := "synod/synodlaw09.GcmStreams", spec := "gcmStreams", unfollowed := true, recurses := true, apart := false, narrowed := true }
def GcmStreamsUptoSaid : Prop := gcmStreamsUptoRow.holds Try.pinned (OpenSpec.upto gcmStreamsSpec)

end Rows
end Go.Proofs.Ytalgabgofpmebaa
