/-
  DERIVED. GIVEN WITH THE SEED: THE CARDS: each row of YtddkbmnkbfciaaaGreatDoorRows.lean that lists a variable, with what it lists TIED to the program's text (the seventh form; the later family's looks); each row that meets fmt, with fmt's text TOLD by the authors' own Lean function (tested against real Go, not proved from fmt's source: count such statements apart). THE CARD IS WHAT COUNTS. Prove the row's statement (the work); the ties are given (YtddkbmnkbfciaaaGreatDoorTie.lean); close each card by the builder's one call (the guide's Derived/Test/ToyasCard.lean, 'card_holds'). Laid BY PROGRAM, IN A SANDBOX (cutbox-door.mjs). By AI agents, Wed Nov 11 2026. No macro, syntax, notation, axiom, sorry.
-/
import Derived.Test.YtddkbmnkbfciaaaGreatDoorRows
import GoSem.ClaimSeven
namespace Go.Proofs.YtddkbmnkbfciaaaGreatDoor
namespace Rows

/-- THE TIED CARD OF 'synodlaw14.TreePlays'. -/
def treePlaysCard : Claim7 := { stood := { row := treePlaysRow, standIns := [], harness := (true, "4f22b9fd6c3aa55c778f44c580b50246d92502ac29bb33b382feb3ab2f6a5cea"), looks := true }, kinds := [], alts := [], laidByText := true, laidKinds := [.data, .data, .data, .data], laidTests := true, laidLooks := .later }
def TreePlaysCardSaid : Prop := Claim7.holds Tryz.pinned (.plain (OpenSpec.ofChange treePlaysSpec)) treePlaysCard

/-- THE TIED CARD OF 'synodlaw14.TreeReads'. -/
def treeReadsCard : Claim7 := { stood := { row := treeReadsRow, standIns := [], harness := (true, "4f22b9fd6c3aa55c778f44c580b50246d92502ac29bb33b382feb3ab2f6a5cea"), looks := true }, kinds := [], alts := [], laidByText := true, laidKinds := [.data, .data, .data, .data], laidTests := true, laidLooks := .later }
def TreeReadsCardSaid : Prop := Claim7.holds Tryz.pinned (.plain (OpenSpec.ofChange treeReadsSpec)) treeReadsCard

/-- THE TIED CARD OF 'synodlaw14.TreeNil'. -/
def treeNilCard : Claim7 := { stood := { row := treeNilRow, standIns := [], harness := (true, "4f22b9fd6c3aa55c778f44c580b50246d92502ac29bb33b382feb3ab2f6a5cea"), looks := true }, kinds := [], alts := [], laidByText := true, laidKinds := [.data, .data, .data, .data], laidTests := true, laidLooks := .later }
def TreeNilCardSaid : Prop := Claim7.holds Tryz.pinned (.plain (OpenSpec.ofChange treeNilSpec)) treeNilCard

/-- THE TIED CARD OF 'synodlaw14.TreeKeeps'. -/
def treeKeepsCard : Claim7 := { stood := { row := treeKeepsRow, standIns := [], harness := (true, "4f22b9fd6c3aa55c778f44c580b50246d92502ac29bb33b382feb3ab2f6a5cea"), looks := true }, kinds := [], alts := [], laidByText := true, laidKinds := [.data, .data, .data, .data], laidTests := true, laidLooks := .later }
def TreeKeepsCardSaid : Prop := Claim7.holds Tryz.pinned (.plain (OpenSpec.ofChange treeKeepsSpec)) treeKeepsCard

/-- THE TIED CARD OF 'synodlaw14.TreeReaches'. -/
def treeReachesCard : Claim7 := { stood := { row := treeReachesRow, standIns := [], harness := (true, "4f22b9fd6c3aa55c778f44c580b50246d92502ac29bb33b382feb3ab2f6a5cea"), looks := true }, kinds := [], alts := [], laidByText := true, laidKinds := [.data, .data, .data, .data], laidTests := true, laidLooks := .later }
def TreeReachesCardSaid : Prop := Claim7.holds Tryz.pinned (.plain (OpenSpec.ofChange treeReachesSpec)) treeReachesCard

/-- THE TIED CARD OF 'synodlaw14.TreeWidths'. -/
def treeWidthsCard : Claim7 := { stood := { row := treeWidthsRow, standIns := [], harness := (true, "4f22b9fd6c3aa55c778f44c580b50246d92502ac29bb33b382feb3ab2f6a5cea"), looks := true }, kinds := [], alts := [], laidByText := true, laidKinds := [.data, .data, .data, .data], laidTests := true, laidLooks := .later }
def TreeWidthsCardSaid : Prop := Claim7.holds Tryz.pinned (.plain (OpenSpec.ofChange treeWidthsSpec)) treeWidthsCard

/-- THE SECOND FORM's CARD OF 'synodlaw14.TreePlays'. -/
def treePlaysUptoCard : Claim7 := { stood := { row := treePlaysUptoRow, standIns := [], harness := (true, "4f22b9fd6c3aa55c778f44c580b50246d92502ac29bb33b382feb3ab2f6a5cea"), looks := true }, kinds := [], alts := [], laidByText := true, laidKinds := [.data, .data, .data, .data], laidTests := true, laidLooks := .later }
def TreePlaysUptoCardSaid : Prop := Claim7.holds Tryz.pinned (.plain (OpenSpec.upto treePlaysSpec)) treePlaysUptoCard

/-- THE SECOND FORM's CARD OF 'synodlaw14.TreeReads'. -/
def treeReadsUptoCard : Claim7 := { stood := { row := treeReadsUptoRow, standIns := [], harness := (true, "4f22b9fd6c3aa55c778f44c580b50246d92502ac29bb33b382feb3ab2f6a5cea"), looks := true }, kinds := [], alts := [], laidByText := true, laidKinds := [.data, .data, .data, .data], laidTests := true, laidLooks := .later }
def TreeReadsUptoCardSaid : Prop := Claim7.holds Tryz.pinned (.plain (OpenSpec.upto treeReadsSpec)) treeReadsUptoCard

/-- THE SECOND FORM's CARD OF 'synodlaw14.TreeNil'. -/
def treeNilUptoCard : Claim7 := { stood := { row := treeNilUptoRow, standIns := [], harness := (true, "4f22b9fd6c3aa55c778f44c580b50246d92502ac29bb33b382feb3ab2f6a5cea"), looks := true }, kinds := [], alts := [], laidByText := true, laidKinds := [.data, .data, .data, .data], laidTests := true, laidLooks := .later }
def TreeNilUptoCardSaid : Prop := Claim7.holds Tryz.pinned (.plain (OpenSpec.upto treeNilSpec)) treeNilUptoCard

/-- THE SECOND FORM's CARD OF 'synodlaw14.TreeKeeps'. -/
def treeKeepsUptoCard : Claim7 := { stood := { row := treeKeepsUptoRow, standIns := [], harness := (true, "4f22b9fd6c3aa55c778f44c580b50246d92502ac29bb33b382feb3ab2f6a5cea"), looks := true }, kinds := [], alts := [], laidByText := true, laidKinds := [.data, .data, .data, .data], laidTests := true, laidLooks := .later }
def TreeKeepsUptoCardSaid : Prop := Claim7.holds Tryz.pinned (.plain (OpenSpec.upto treeKeepsSpec)) treeKeepsUptoCard

/-- THE SECOND FORM's CARD OF 'synodlaw14.TreeReaches'. -/
def treeReachesUptoCard : Claim7 := { stood := { row := treeReachesUptoRow, standIns := [], harness := (true, "4f22b9fd6c3aa55c778f44c580b50246d92502ac29bb33b382feb3ab2f6a5cea"), looks := true }, kinds := [], alts := [], laidByText := true, laidKinds := [.data, .data, .data, .data], laidTests := true, laidLooks := .later }
def TreeReachesUptoCardSaid : Prop := Claim7.holds Tryz.pinned (.plain (OpenSpec.upto treeReachesSpec)) treeReachesUptoCard

/-- THE SECOND FORM's CARD OF 'synodlaw14.TreeWidths'. -/
def treeWidthsUptoCard : Claim7 := { stood := { row := treeWidthsUptoRow, standIns := [], harness := (true, "4f22b9fd6c3aa55c778f44c580b50246d92502ac29bb33b382feb3ab2f6a5cea"), looks := true }, kinds := [], alts := [], laidByText := true, laidKinds := [.data, .data, .data, .data], laidTests := true, laidLooks := .later }
def TreeWidthsUptoCardSaid : Prop := Claim7.holds Tryz.pinned (.plain (OpenSpec.upto treeWidthsSpec)) treeWidthsUptoCard
end Rows
end Go.Proofs.YtddkbmnkbfciaaaGreatDoor
