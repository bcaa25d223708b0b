/-
  DERIVED. GIVEN WITH THE SEED: THE CARDS: each row of YtbbikhlbkpjpjaaGreatDoorRows.lean that lists a variable, with what it lists TIED to the program's text (the seventh form; the later family's looks); each row that meets fmt, with fmt's text TOLD by the authors' own Lean function (tested against real Go, not proved from fmt's source: count such statements apart). THE CARD IS WHAT COUNTS. Prove the row's statement (the work); the ties are given (YtbbikhlbkpjpjaaGreatDoorTie.lean); close each card by the builder's one call (the guide's Derived/Test/ToyasCard.lean, 'card_holds'). Laid BY PROGRAM, IN A SANDBOX (cutbox-door.mjs). By AI agents, Wed Nov 11 2026. No macro, syntax, notation, axiom, sorry.
-/
import Derived.Test.YtbbikhlbkpjpjaaGreatDoorRows
import GoSem.ClaimSeven
namespace Go.Proofs.YtbbikhlbkpjpjaaGreatDoor
namespace Rows

/-- THE TIED CARD OF 'synodlaw17.RatchetPlays'. -/
def ratchetPlaysCard : Claim7 := { stood := { row := ratchetPlaysRow, standIns := [], harness := (true, "9b0493705c016447bfa1461c95a55b08c62ae95dbecbb5ac5460f7f96eb5dd46"), looks := true }, kinds := [], alts := [], laidByText := true, laidKinds := [.data, .data, .data, .data, .data], laidTests := true, laidLooks := .later }
def RatchetPlaysCardSaid : Prop := Claim7.holds Tryz.pinned (.plain (OpenSpec.ofChange ratchetPlaysSpec)) ratchetPlaysCard

/-- THE TIED CARD OF 'synodlaw17.RatchetNil'. -/
def ratchetNilCard : Claim7 := { stood := { row := ratchetNilRow, standIns := [], harness := (true, "9b0493705c016447bfa1461c95a55b08c62ae95dbecbb5ac5460f7f96eb5dd46"), looks := true }, kinds := [], alts := [], laidByText := true, laidKinds := [.data, .data, .data, .data, .data], laidTests := true, laidLooks := .later }
def RatchetNilCardSaid : Prop := Claim7.holds Tryz.pinned (.plain (OpenSpec.ofChange ratchetNilSpec)) ratchetNilCard

/-- THE TIED CARD OF 'synodlaw17.RatchetOnce'. -/
def ratchetOnceCard : Claim7 := { stood := { row := ratchetOnceRow, standIns := [], harness := (true, "9b0493705c016447bfa1461c95a55b08c62ae95dbecbb5ac5460f7f96eb5dd46"), looks := true }, kinds := [], alts := [], laidByText := true, laidKinds := [.data, .data, .data, .data, .data], laidTests := true, laidLooks := .later }
def RatchetOnceCardSaid : Prop := Claim7.holds Tryz.pinned (.plain (OpenSpec.ofChange ratchetOnceSpec)) ratchetOnceCard

/-- THE TIED CARD OF 'synodlaw17.RatchetApart'. -/
def ratchetApartCard : Claim7 := { stood := { row := ratchetApartRow, standIns := [], harness := (true, "9b0493705c016447bfa1461c95a55b08c62ae95dbecbb5ac5460f7f96eb5dd46"), looks := true }, kinds := [], alts := [], laidByText := true, laidKinds := [.data, .data, .data, .data, .data], laidTests := true, laidLooks := .later }
def RatchetApartCardSaid : Prop := Claim7.holds Tryz.pinned (.plain (OpenSpec.ofChange ratchetApartSpec)) ratchetApartCard

/-- THE SECOND FORM's CARD OF 'synodlaw17.RatchetPlays'. -/
def ratchetPlaysUptoCard : Claim7 := { stood := { row := ratchetPlaysUptoRow, standIns := [], harness := (true, "9b0493705c016447bfa1461c95a55b08c62ae95dbecbb5ac5460f7f96eb5dd46"), looks := true }, kinds := [], alts := [], laidByText := true, laidKinds := [.data, .data, .data, .data, .data], laidTests := true, laidLooks := .later }
def RatchetPlaysUptoCardSaid : Prop := Claim7.holds Tryz.pinned (.plain (OpenSpec.upto ratchetPlaysSpec)) ratchetPlaysUptoCard

/-- THE SECOND FORM's CARD OF 'synodlaw17.RatchetNil'. -/
def ratchetNilUptoCard : Claim7 := { stood := { row := ratchetNilUptoRow, standIns := [], harness := (true, "9b0493705c016447bfa1461c95a55b08c62ae95dbecbb5ac5460f7f96eb5dd46"), looks := true }, kinds := [], alts := [], laidByText := true, laidKinds := [.data, .data, .data, .data, .data], laidTests := true, laidLooks := .later }
def RatchetNilUptoCardSaid : Prop := Claim7.holds Tryz.pinned (.plain (OpenSpec.upto ratchetNilSpec)) ratchetNilUptoCard

/-- THE SECOND FORM's CARD OF 'synodlaw17.RatchetOnce'. -/
def ratchetOnceUptoCard : Claim7 := { stood := { row := ratchetOnceUptoRow, standIns := [], harness := (true, "9b0493705c016447bfa1461c95a55b08c62ae95dbecbb5ac5460f7f96eb5dd46"), looks := true }, kinds := [], alts := [], laidByText := true, laidKinds := [.data, .data, .data, .data, .data], laidTests := true, laidLooks := .later }
def RatchetOnceUptoCardSaid : Prop := Claim7.holds Tryz.pinned (.plain (OpenSpec.upto ratchetOnceSpec)) ratchetOnceUptoCard

/-- THE SECOND FORM's CARD OF 'synodlaw17.RatchetApart'. -/
def ratchetApartUptoCard : Claim7 := { stood := { row := ratchetApartUptoRow, standIns := [], harness := (true, "9b0493705c016447bfa1461c95a55b08c62ae95dbecbb5ac5460f7f96eb5dd46"), looks := true }, kinds := [], alts := [], laidByText := true, laidKinds := [.data, .data, .data, .data, .data], laidTests := true, laidLooks := .later }
def RatchetApartUptoCardSaid : Prop := Claim7.holds Tryz.pinned (.plain (OpenSpec.upto ratchetApartSpec)) ratchetApartUptoCard
end Rows
end Go.Proofs.YtbbikhlbkpjpjaaGreatDoor
