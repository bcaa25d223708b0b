/-
  DERIVED. GIVEN WITH THE SEED: THE CARDS: each row of YtibdhadbflfdpaaGreatDoorRows.lean that lists a variable, with what it lists TIED to the program's text (the seventh form; the later family's looks); each row that meets fmt, with fmt's text TOLD by the authors' own Lean function (tested against real Go, not proved from fmt's source: count such statements apart). THE CARD IS WHAT COUNTS. Prove the row's statement (the work); the ties are given (YtibdhadbflfdpaaGreatDoorTie.lean); close each card by the builder's one call (the guide's Derived/Test/ToyasCard.lean, 'card_holds'). Laid BY PROGRAM, IN A SANDBOX (cutbox-door.mjs). By AI agents, Wed Nov 11 2026. No macro, syntax, notation, axiom, sorry.
-/
import Derived.Test.YtibdhadbflfdpaaGreatDoorRows
import GoSem.ClaimSeven
namespace Go.Proofs.YtibdhadbflfdpaaGreatDoor
namespace Rows

/-- THE TIED CARD OF 'synodlaw15.LabelsSigns'. -/
def labelsSignsCard : Claim7 := { stood := { row := labelsSignsRow, standIns := [], harness := (true, "692f5d1c9c9a7dfbdb029a9e5fcab811fbc178e20bd0a6db9303a88bc263ea72"), looks := false }, kinds := [], alts := [], laidByText := true, laidKinds := [.data, .data, .data, .data, .data, .data], laidTests := true, laidLooks := .later }
def LabelsSignsCardSaid : Prop := Claim7.holds Tryz.pinned (.plain (OpenSpec.ofChange labelsSignsSpec)) labelsSignsCard

/-- THE TIED CARD OF 'synodlaw15.LabelsSeals'. -/
def labelsSealsCard : Claim7 := { stood := { row := labelsSealsRow, standIns := [], harness := (true, "692f5d1c9c9a7dfbdb029a9e5fcab811fbc178e20bd0a6db9303a88bc263ea72"), looks := false }, kinds := [], alts := [], laidByText := true, laidKinds := [.data, .data, .data, .data], laidTests := true, laidLooks := .later }
def LabelsSealsCardSaid : Prop := Claim7.holds Tryz.pinned (.plain (OpenSpec.ofChange labelsSealsSpec)) labelsSealsCard

/-- THE TIED CARD OF 'synodlaw15.LabelsHold'. -/
def labelsHoldCard : Claim7 := { stood := { row := labelsHoldRow, standIns := [], harness := (true, "692f5d1c9c9a7dfbdb029a9e5fcab811fbc178e20bd0a6db9303a88bc263ea72"), looks := false }, kinds := [], alts := [], laidByText := true, laidKinds := [.data, .data, .data, .data, .data, .data], laidTests := true, laidLooks := .later }
def LabelsHoldCardSaid : Prop := Claim7.holds Tryz.pinned (.plain (OpenSpec.ofChange labelsHoldSpec)) labelsHoldCard

/-- THE SECOND FORM's CARD OF 'synodlaw15.LabelsSigns'. -/
def labelsSignsUptoCard : Claim7 := { stood := { row := labelsSignsUptoRow, standIns := [], harness := (true, "692f5d1c9c9a7dfbdb029a9e5fcab811fbc178e20bd0a6db9303a88bc263ea72"), looks := false }, kinds := [], alts := [], laidByText := true, laidKinds := [.data, .data, .data, .data, .data, .data], laidTests := true, laidLooks := .later }
def LabelsSignsUptoCardSaid : Prop := Claim7.holds Tryz.pinned (.plain (OpenSpec.upto labelsSignsSpec)) labelsSignsUptoCard

/-- THE SECOND FORM's CARD OF 'synodlaw15.LabelsSeals'. -/
def labelsSealsUptoCard : Claim7 := { stood := { row := labelsSealsUptoRow, standIns := [], harness := (true, "692f5d1c9c9a7dfbdb029a9e5fcab811fbc178e20bd0a6db9303a88bc263ea72"), looks := false }, kinds := [], alts := [], laidByText := true, laidKinds := [.data, .data, .data, .data], laidTests := true, laidLooks := .later }
def LabelsSealsUptoCardSaid : Prop := Claim7.holds Tryz.pinned (.plain (OpenSpec.upto labelsSealsSpec)) labelsSealsUptoCard

/-- THE SECOND FORM's CARD OF 'synodlaw15.LabelsHold'. -/
def labelsHoldUptoCard : Claim7 := { stood := { row := labelsHoldUptoRow, standIns := [], harness := (true, "692f5d1c9c9a7dfbdb029a9e5fcab811fbc178e20bd0a6db9303a88bc263ea72"), looks := false }, kinds := [], alts := [], laidByText := true, laidKinds := [.data, .data, .data, .data, .data, .data], laidTests := true, laidLooks := .later }
def LabelsHoldUptoCardSaid : Prop := Claim7.holds Tryz.pinned (.plain (OpenSpec.upto labelsHoldSpec)) labelsHoldUptoCard
end Rows
end Go.Proofs.YtibdhadbflfdpaaGreatDoor
