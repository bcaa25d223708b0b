/-
  DERIVED. GIVEN WITH THE SEED: THE CARDS: each row of YtkoedfmdhdikaaaDoorRows.lean that lists a variable, with what it lists TIED to the program's text (the seventh form; the later family's looks); each row that meets fmt, with fmt's text TOLD by the authors' own Lean function (tested against real Go, not proved from fmt's source: count such statements apart). THE CARD IS WHAT COUNTS. Prove the row's statement (the work); the ties are given (YtkoedfmdhdikaaaDoorTie.lean); close each card by the builder's one call (the guide's Derived/Test/ToyasCard.lean, 'card_holds'). Laid BY PROGRAM, IN A SANDBOX (cutbox-door.mjs). By AI agents, Wed Nov 11 2026. No macro, syntax, notation, axiom, sorry.
-/
import Derived.Test.YtkoedfmdhdikaaaDoorRows
import GoSem.ClaimSeven
namespace Go.Proofs.YtkoedfmdhdikaaaDoor
namespace Rows

/-- THE TIED CARD OF 'synodlaw16.SchedulePsks'. -/
def schedulePsksCard : Claim7 := { stood := { row := schedulePsksRow, standIns := [], harness := (true, "8aeb9d87beb5600da7d230aa55dfe3f5a29c5b315f0d9080a21c07bcbab4e57d"), looks := false }, kinds := [], alts := [], laidByText := true, laidKinds := [.data, .data, .data, .data], laidTests := true, laidLooks := .later }
def SchedulePsksCardSaid : Prop := Claim7.holds Tryd.pinned (.plain (OpenSpec.ofChange schedulePsksSpec)) schedulePsksCard

/-- THE TIED CARD OF 'synodlaw16.ScheduleAgrees'. -/
def scheduleAgreesCard : Claim7 := { stood := { row := scheduleAgreesRow, standIns := [], harness := (true, "8aeb9d87beb5600da7d230aa55dfe3f5a29c5b315f0d9080a21c07bcbab4e57d"), looks := false }, kinds := [], alts := [], laidByText := true, laidKinds := [.data, .data, .data, .data], laidTests := true, laidLooks := .later }
def ScheduleAgreesCardSaid : Prop := Claim7.holds Tryd.pinned (.plain (OpenSpec.ofChange scheduleAgreesSpec)) scheduleAgreesCard

/-- THE SECOND FORM's CARD OF 'synodlaw16.SchedulePsks'. -/
def schedulePsksUptoCard : Claim7 := { stood := { row := schedulePsksUptoRow, standIns := [], harness := (true, "8aeb9d87beb5600da7d230aa55dfe3f5a29c5b315f0d9080a21c07bcbab4e57d"), looks := false }, kinds := [], alts := [], laidByText := true, laidKinds := [.data, .data, .data, .data], laidTests := true, laidLooks := .later }
def SchedulePsksUptoCardSaid : Prop := Claim7.holds Tryd.pinned (.plain (OpenSpec.upto schedulePsksSpec)) schedulePsksUptoCard

/-- THE SECOND FORM's CARD OF 'synodlaw16.ScheduleAgrees'. -/
def scheduleAgreesUptoCard : Claim7 := { stood := { row := scheduleAgreesUptoRow, standIns := [], harness := (true, "8aeb9d87beb5600da7d230aa55dfe3f5a29c5b315f0d9080a21c07bcbab4e57d"), looks := false }, kinds := [], alts := [], laidByText := true, laidKinds := [.data, .data, .data, .data], laidTests := true, laidLooks := .later }
def ScheduleAgreesUptoCardSaid : Prop := Claim7.holds Tryd.pinned (.plain (OpenSpec.upto scheduleAgreesSpec)) scheduleAgreesUptoCard
end Rows
end Go.Proofs.YtkoedfmdhdikaaaDoor
