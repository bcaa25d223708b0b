/-
  DERIVED. GIVEN WITH THE SEED: THE CARDS: each row of YtibdhadbflfdpaaDoorRows.lean that lists a variable, with what it lists TIED to the program's text (the seventh form; the later family's looks); each row that meets fmt, with fmt's text TOLD by the authors' own Lean function (tested against real Go, not proved from fmt's source: count such statements apart). THE CARD IS WHAT COUNTS. Prove the row's statement (the work); the ties are given (YtibdhadbflfdpaaDoorTie.lean); close each card by the builder's one call (the guide's Derived/Test/ToyasCard.lean, 'card_holds'). Laid BY PROGRAM, IN A SANDBOX (cutbox-door.mjs). By AI agents, Wed Nov 11 2026. No macro, syntax, notation, axiom, sorry.
-/
import Derived.Test.YtibdhadbflfdpaaDoorRows
import GoSem.ClaimSeven
namespace Go.Proofs.YtibdhadbflfdpaaDoor
namespace Rows

/-- THE TIED CARD OF 'synodlaw15.LabelsKeys'. -/
def labelsKeysCard : Claim7 := { stood := { row := labelsKeysRow, standIns := [], harness := (true, "020241a37c54152f13ea3c9e6587f7bd5055a83823a36f0cbd01350316b198f1"), looks := false }, kinds := [], alts := [], laidByText := true, laidKinds := [.data, .data, .data, .data], laidTests := true, laidLooks := .later }
def LabelsKeysCardSaid : Prop := Claim7.holds Tryd.pinned (.plain (OpenSpec.ofChange labelsKeysSpec)) labelsKeysCard

/-- THE TIED CARD OF 'synodlaw15.LabelsApart'. -/
def labelsApartCard : Claim7 := { stood := { row := labelsApartRow, standIns := [], harness := (true, "020241a37c54152f13ea3c9e6587f7bd5055a83823a36f0cbd01350316b198f1"), looks := false }, kinds := [], alts := [], laidByText := true, laidKinds := [.data, .data, .data, .data], laidTests := true, laidLooks := .later }
def LabelsApartCardSaid : Prop := Claim7.holds Tryd.pinned (.plain (OpenSpec.ofChange labelsApartSpec)) labelsApartCard

/-- THE SECOND FORM's CARD OF 'synodlaw15.LabelsKeys'. -/
def labelsKeysUptoCard : Claim7 := { stood := { row := labelsKeysUptoRow, standIns := [], harness := (true, "020241a37c54152f13ea3c9e6587f7bd5055a83823a36f0cbd01350316b198f1"), looks := false }, kinds := [], alts := [], laidByText := true, laidKinds := [.data, .data, .data, .data], laidTests := true, laidLooks := .later }
def LabelsKeysUptoCardSaid : Prop := Claim7.holds Tryd.pinned (.plain (OpenSpec.upto labelsKeysSpec)) labelsKeysUptoCard

/-- THE SECOND FORM's CARD OF 'synodlaw15.LabelsApart'. -/
def labelsApartUptoCard : Claim7 := { stood := { row := labelsApartUptoRow, standIns := [], harness := (true, "020241a37c54152f13ea3c9e6587f7bd5055a83823a36f0cbd01350316b198f1"), looks := false }, kinds := [], alts := [], laidByText := true, laidKinds := [.data, .data, .data, .data], laidTests := true, laidLooks := .later }
def LabelsApartUptoCardSaid : Prop := Claim7.holds Tryd.pinned (.plain (OpenSpec.upto labelsApartSpec)) labelsApartUptoCard
end Rows
end Go.Proofs.YtibdhadbflfdpaaDoor
