/-
  DERIVED. GIVEN WITH THE SEED: THE CARDS: each row of YtibmlmmoifgliaaGreatDoorRows.lean that lists a variable, with what it lists TIED to the program's text (the seventh form; the later family's looks); each row that meets fmt, with fmt's text TOLD by the authors' own Lean function (tested against real Go, not proved from fmt's source: count such statements apart). THE CARD IS WHAT COUNTS. Prove the row's statement (the work); the ties are given (YtibmlmmoifgliaaGreatDoorTie.lean); close each card by the builder's one call (the guide's Derived/Test/ToyasCard.lean, 'card_holds'). Laid BY PROGRAM, IN A SANDBOX (cutbox-door.mjs). By AI agents, Wed Nov 11 2026. No macro, syntax, notation, axiom, sorry.
-/
import Derived.Test.YtibmlmmoifgliaaGreatDoorRows
import GoSem.ClaimSeven
namespace Go.Proofs.YtibmlmmoifgliaaGreatDoor
namespace Rows

/-- THE TIED CARD OF 'synodlaw16.ScheduleBytes'. -/
def scheduleBytesCard : Claim7 := { stood := { row := scheduleBytesRow, standIns := [], harness := (true, "e51452d5062ac8b6f566f6d47b8bc5080a8c3809ff5a8374eeed95a92baecd65"), looks := false }, kinds := [], alts := [], laidByText := true, laidKinds := [.data, .data, .data, .data], laidTests := true, laidLooks := .later }
def ScheduleBytesCardSaid : Prop := Claim7.holds Tryz.pinned (.plain (OpenSpec.ofChange scheduleBytesSpec)) scheduleBytesCard

/-- THE TIED CARD OF 'synodlaw16.ScheduleEpochs'. -/
def scheduleEpochsCard : Claim7 := { stood := { row := scheduleEpochsRow, standIns := [], harness := (true, "e51452d5062ac8b6f566f6d47b8bc5080a8c3809ff5a8374eeed95a92baecd65"), looks := false }, kinds := [], alts := [], laidByText := true, laidKinds := [.data, .data, .data, .data], laidTests := true, laidLooks := .later }
def ScheduleEpochsCardSaid : Prop := Claim7.holds Tryz.pinned (.plain (OpenSpec.ofChange scheduleEpochsSpec)) scheduleEpochsCard

/-- THE TIED CARD OF 'synodlaw16.ScheduleTags'. -/
def scheduleTagsCard : Claim7 := { stood := { row := scheduleTagsRow, standIns := [], harness := (true, "e51452d5062ac8b6f566f6d47b8bc5080a8c3809ff5a8374eeed95a92baecd65"), looks := false }, kinds := [], alts := [], laidByText := true, laidKinds := [.data, .data, .data, .data], laidTests := true, laidLooks := .later }
def ScheduleTagsCardSaid : Prop := Claim7.holds Tryz.pinned (.plain (OpenSpec.ofChange scheduleTagsSpec)) scheduleTagsCard

/-- THE SECOND FORM's CARD OF 'synodlaw16.ScheduleBytes'. -/
def scheduleBytesUptoCard : Claim7 := { stood := { row := scheduleBytesUptoRow, standIns := [], harness := (true, "e51452d5062ac8b6f566f6d47b8bc5080a8c3809ff5a8374eeed95a92baecd65"), looks := false }, kinds := [], alts := [], laidByText := true, laidKinds := [.data, .data, .data, .data], laidTests := true, laidLooks := .later }
def ScheduleBytesUptoCardSaid : Prop := Claim7.holds Tryz.pinned (.plain (OpenSpec.upto scheduleBytesSpec)) scheduleBytesUptoCard

/-- THE SECOND FORM's CARD OF 'synodlaw16.ScheduleEpochs'. -/
def scheduleEpochsUptoCard : Claim7 := { stood := { row := scheduleEpochsUptoRow, standIns := [], harness := (true, "e51452d5062ac8b6f566f6d47b8bc5080a8c3809ff5a8374eeed95a92baecd65"), looks := false }, kinds := [], alts := [], laidByText := true, laidKinds := [.data, .data, .data, .data], laidTests := true, laidLooks := .later }
def ScheduleEpochsUptoCardSaid : Prop := Claim7.holds Tryz.pinned (.plain (OpenSpec.upto scheduleEpochsSpec)) scheduleEpochsUptoCard

/-- THE SECOND FORM's CARD OF 'synodlaw16.ScheduleTags'. -/
def scheduleTagsUptoCard : Claim7 := { stood := { row := scheduleTagsUptoRow, standIns := [], harness := (true, "e51452d5062ac8b6f566f6d47b8bc5080a8c3809ff5a8374eeed95a92baecd65"), looks := false }, kinds := [], alts := [], laidByText := true, laidKinds := [.data, .data, .data, .data], laidTests := true, laidLooks := .later }
def ScheduleTagsUptoCardSaid : Prop := Claim7.holds Tryz.pinned (.plain (OpenSpec.upto scheduleTagsSpec)) scheduleTagsUptoCard
end Rows
end Go.Proofs.YtibmlmmoifgliaaGreatDoor
