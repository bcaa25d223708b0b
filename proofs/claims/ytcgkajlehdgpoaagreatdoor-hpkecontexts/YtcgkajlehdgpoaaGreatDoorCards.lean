/-
  DERIVED. GIVEN WITH THE SEED: THE CARDS: each row of YtcgkajlehdgpoaaGreatDoorRows.lean that lists a variable, with what it lists TIED to the program's text (the seventh form; the later family's looks); each row that meets fmt, with fmt's text TOLD by the authors' own Lean function (tested against real Go, not proved from fmt's source: count such statements apart). THE CARD IS WHAT COUNTS. Prove the row's statement (the work); the ties are given (YtcgkajlehdgpoaaGreatDoorTie.lean); close each card by the builder's one call (the guide's Derived/Test/ToyasCard.lean, 'card_holds'). Laid BY PROGRAM, IN A SANDBOX (cutbox-door.mjs). By AI agents, Wed Nov 11 2026. No macro, syntax, notation, axiom, sorry.
-/
import Derived.Test.YtcgkajlehdgpoaaGreatDoorRows
import GoSem.ClaimSeven
namespace Go.Proofs.YtcgkajlehdgpoaaGreatDoor
namespace Rows

/-- THE TIED CARD OF 'synodlaw10.HpkeKeys'. -/
def hpkeKeysCard : Claim7 := { stood := { row := hpkeKeysRow, standIns := [], harness := (true, "a226fd29b011ff719601c6bb55d5d3031e04db2f9fd678834929e2516544570d"), looks := false }, kinds := [], alts := [], laidByText := true, laidKinds := [.data, .data, .data, .data], laidTests := true, laidLooks := .later }
def HpkeKeysCardSaid : Prop := Claim7.holds Tryz.pinned (.plain (OpenSpec.ofChange hpkeKeysSpec)) hpkeKeysCard

/-- THE TIED CARD OF 'synodlaw10.HpkeContexts'. -/
def hpkeContextsCard : Claim7 := { stood := { row := hpkeContextsRow, standIns := [], harness := (true, "a226fd29b011ff719601c6bb55d5d3031e04db2f9fd678834929e2516544570d"), looks := false }, kinds := [], alts := [], laidByText := true, laidKinds := [.data, .data, .data, .data], laidTests := true, laidLooks := .later }
def HpkeContextsCardSaid : Prop := Claim7.holds Tryz.pinned (.plain (OpenSpec.ofChange hpkeContextsSpec)) hpkeContextsCard

/-- THE TIED CARD OF 'synodlaw10.HpkeNil'. -/
def hpkeNilCard : Claim7 := { stood := { row := hpkeNilRow, standIns := [], harness := (true, "a226fd29b011ff719601c6bb55d5d3031e04db2f9fd678834929e2516544570d"), looks := false }, kinds := [], alts := [], laidByText := true, laidKinds := [.data, .data, .data, .data], laidTests := true, laidLooks := .later }
def HpkeNilCardSaid : Prop := Claim7.holds Tryz.pinned (.plain (OpenSpec.ofChange hpkeNilSpec)) hpkeNilCard

/-- THE TIED CARD OF 'synodlaw10.HpkeOnce'. -/
def hpkeOnceCard : Claim7 := { stood := { row := hpkeOnceRow, standIns := [], harness := (true, "a226fd29b011ff719601c6bb55d5d3031e04db2f9fd678834929e2516544570d"), looks := false }, kinds := [], alts := [], laidByText := true, laidKinds := [.data, .data, .data, .data], laidTests := true, laidLooks := .later }
def HpkeOnceCardSaid : Prop := Claim7.holds Tryz.pinned (.plain (OpenSpec.ofChange hpkeOnceSpec)) hpkeOnceCard

/-- THE TIED CARD OF 'synodlaw10.HpkeBack'. -/
def hpkeBackCard : Claim7 := { stood := { row := hpkeBackRow, standIns := [], harness := (true, "a226fd29b011ff719601c6bb55d5d3031e04db2f9fd678834929e2516544570d"), looks := false }, kinds := [], alts := [], laidByText := true, laidKinds := [.data, .data, .data, .data], laidTests := true, laidLooks := .later }
def HpkeBackCardSaid : Prop := Claim7.holds Tryz.pinned (.plain (OpenSpec.ofChange hpkeBackSpec)) hpkeBackCard

/-- THE SECOND FORM's CARD OF 'synodlaw10.HpkeKeys'. -/
def hpkeKeysUptoCard : Claim7 := { stood := { row := hpkeKeysUptoRow, standIns := [], harness := (true, "a226fd29b011ff719601c6bb55d5d3031e04db2f9fd678834929e2516544570d"), looks := false }, kinds := [], alts := [], laidByText := true, laidKinds := [.data, .data, .data, .data], laidTests := true, laidLooks := .later }
def HpkeKeysUptoCardSaid : Prop := Claim7.holds Tryz.pinned (.plain (OpenSpec.upto hpkeKeysSpec)) hpkeKeysUptoCard

/-- THE SECOND FORM's CARD OF 'synodlaw10.HpkeContexts'. -/
def hpkeContextsUptoCard : Claim7 := { stood := { row := hpkeContextsUptoRow, standIns := [], harness := (true, "a226fd29b011ff719601c6bb55d5d3031e04db2f9fd678834929e2516544570d"), looks := false }, kinds := [], alts := [], laidByText := true, laidKinds := [.data, .data, .data, .data], laidTests := true, laidLooks := .later }
def HpkeContextsUptoCardSaid : Prop := Claim7.holds Tryz.pinned (.plain (OpenSpec.upto hpkeContextsSpec)) hpkeContextsUptoCard

/-- THE SECOND FORM's CARD OF 'synodlaw10.HpkeNil'. -/
def hpkeNilUptoCard : Claim7 := { stood := { row := hpkeNilUptoRow, standIns := [], harness := (true, "a226fd29b011ff719601c6bb55d5d3031e04db2f9fd678834929e2516544570d"), looks := false }, kinds := [], alts := [], laidByText := true, laidKinds := [.data, .data, .data, .data], laidTests := true, laidLooks := .later }
def HpkeNilUptoCardSaid : Prop := Claim7.holds Tryz.pinned (.plain (OpenSpec.upto hpkeNilSpec)) hpkeNilUptoCard

/-- THE SECOND FORM's CARD OF 'synodlaw10.HpkeOnce'. -/
def hpkeOnceUptoCard : Claim7 := { stood := { row := hpkeOnceUptoRow, standIns := [], harness := (true, "a226fd29b011ff719601c6bb55d5d3031e04db2f9fd678834929e2516544570d"), looks := false }, kinds := [], alts := [], laidByText := true, laidKinds := [.data, .data, .data, .data], laidTests := true, laidLooks := .later }
def HpkeOnceUptoCardSaid : Prop := Claim7.holds Tryz.pinned (.plain (OpenSpec.upto hpkeOnceSpec)) hpkeOnceUptoCard

/-- THE SECOND FORM's CARD OF 'synodlaw10.HpkeBack'. -/
def hpkeBackUptoCard : Claim7 := { stood := { row := hpkeBackUptoRow, standIns := [], harness := (true, "a226fd29b011ff719601c6bb55d5d3031e04db2f9fd678834929e2516544570d"), looks := false }, kinds := [], alts := [], laidByText := true, laidKinds := [.data, .data, .data, .data], laidTests := true, laidLooks := .later }
def HpkeBackUptoCardSaid : Prop := Claim7.holds Tryz.pinned (.plain (OpenSpec.upto hpkeBackSpec)) hpkeBackUptoCard
end Rows
end Go.Proofs.YtcgkajlehdgpoaaGreatDoor
