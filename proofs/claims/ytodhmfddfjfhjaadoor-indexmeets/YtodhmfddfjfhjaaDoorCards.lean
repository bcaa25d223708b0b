/-
  DERIVED. GIVEN WITH THE SEED: THE CARDS: each row of YtodhmfddfjfhjaaDoorRows.lean that lists a variable, with what it lists TIED to the program's text (the seventh form; the later family's looks); each row that meets fmt, with fmt's text TOLD by the authors' own Lean function (tested against real Go, not proved from fmt's source: count such statements apart). THE CARD IS WHAT COUNTS. Prove the row's statement (the work); the ties are given (YtodhmfddfjfhjaaDoorTie.lean); close each card by the builder's one call (the guide's Derived/Test/ToyasCard.lean, 'card_holds'). Laid BY PROGRAM, IN A SANDBOX (cutbox-door.mjs). By AI agents, Wed Nov 11 2026. No macro, syntax, notation, axiom, sorry.
-/
import Derived.Test.YtodhmfddfjfhjaaDoorRows
import GoSem.ClaimSeven
namespace Go.Proofs.YtodhmfddfjfhjaaDoor
namespace Rows

/-- THE TIED CARD OF 'synodlaw12.IndexPlaces'. -/
def indexPlacesCard : Claim7 := { stood := { row := indexPlacesRow, standIns := [], harness := (true, "b961363fccc221659f934372edbf85069ac64a0940bc500887dd291cc95f68b7"), looks := false }, kinds := [], alts := [], laidByText := true, laidKinds := [.data], laidTests := true, laidLooks := .later }
def IndexPlacesCardSaid : Prop := Claim7.holds Tryd.pinned (.plain (OpenSpec.ofChange indexPlacesSpec)) indexPlacesCard

/-- THE TIED CARD OF 'synodlaw12.IndexWays'. -/
def indexWaysCard : Claim7 := { stood := { row := indexWaysRow, standIns := [], harness := (true, "b961363fccc221659f934372edbf85069ac64a0940bc500887dd291cc95f68b7"), looks := false }, kinds := [], alts := [], laidByText := true, laidKinds := [.data], laidTests := true, laidLooks := .later }
def IndexWaysCardSaid : Prop := Claim7.holds Tryd.pinned (.plain (OpenSpec.ofChange indexWaysSpec)) indexWaysCard

/-- THE TIED CARD OF 'synodlaw12.IndexNumbers'. -/
def indexNumbersCard : Claim7 := { stood := { row := indexNumbersRow, standIns := [], harness := (true, "b961363fccc221659f934372edbf85069ac64a0940bc500887dd291cc95f68b7"), looks := false }, kinds := [], alts := [], laidByText := true, laidKinds := [.data], laidTests := true, laidLooks := .later }
def IndexNumbersCardSaid : Prop := Claim7.holds Tryd.pinned (.plain (OpenSpec.ofChange indexNumbersSpec)) indexNumbersCard

/-- THE TIED CARD OF 'synodlaw12.IndexMeets'. -/
def indexMeetsCard : Claim7 := { stood := { row := indexMeetsRow, standIns := [], harness := (true, "b961363fccc221659f934372edbf85069ac64a0940bc500887dd291cc95f68b7"), looks := false }, kinds := [], alts := [], laidByText := true, laidKinds := [.data], laidTests := true, laidLooks := .later }
def IndexMeetsCardSaid : Prop := Claim7.holds Tryd.pinned (.plain (OpenSpec.ofChange indexMeetsSpec)) indexMeetsCard

/-- THE TIED CARD OF 'synodlaw12.IndexHalves'. -/
def indexHalvesCard : Claim7 := { stood := { row := indexHalvesRow, standIns := [], harness := (true, "b961363fccc221659f934372edbf85069ac64a0940bc500887dd291cc95f68b7"), looks := false }, kinds := [], alts := [], laidByText := true, laidKinds := [.data], laidTests := true, laidLooks := .later }
def IndexHalvesCardSaid : Prop := Claim7.holds Tryd.pinned (.plain (OpenSpec.ofChange indexHalvesSpec)) indexHalvesCard

/-- THE SECOND FORM's CARD OF 'synodlaw12.IndexPlaces'. -/
def indexPlacesUptoCard : Claim7 := { stood := { row := indexPlacesUptoRow, standIns := [], harness := (true, "b961363fccc221659f934372edbf85069ac64a0940bc500887dd291cc95f68b7"), looks := false }, kinds := [], alts := [], laidByText := true, laidKinds := [.data], laidTests := true, laidLooks := .later }
def IndexPlacesUptoCardSaid : Prop := Claim7.holds Tryd.pinned (.plain (OpenSpec.upto indexPlacesSpec)) indexPlacesUptoCard

/-- THE SECOND FORM's CARD OF 'synodlaw12.IndexWays'. -/
def indexWaysUptoCard : Claim7 := { stood := { row := indexWaysUptoRow, standIns := [], harness := (true, "b961363fccc221659f934372edbf85069ac64a0940bc500887dd291cc95f68b7"), looks := false }, kinds := [], alts := [], laidByText := true, laidKinds := [.data], laidTests := true, laidLooks := .later }
def IndexWaysUptoCardSaid : Prop := Claim7.holds Tryd.pinned (.plain (OpenSpec.upto indexWaysSpec)) indexWaysUptoCard

/-- THE SECOND FORM's CARD OF 'synodlaw12.IndexNumbers'. -/
def indexNumbersUptoCard : Claim7 := { stood := { row := indexNumbersUptoRow, standIns := [], harness := (true, "b961363fccc221659f934372edbf85069ac64a0940bc500887dd291cc95f68b7"), looks := false }, kinds := [], alts := [], laidByText := true, laidKinds := [.data], laidTests := true, laidLooks := .later }
def IndexNumbersUptoCardSaid : Prop := Claim7.holds Tryd.pinned (.plain (OpenSpec.upto indexNumbersSpec)) indexNumbersUptoCard

/-- THE SECOND FORM's CARD OF 'synodlaw12.IndexMeets'. -/
def indexMeetsUptoCard : Claim7 := { stood := { row := indexMeetsUptoRow, standIns := [], harness := (true, "b961363fccc221659f934372edbf85069ac64a0940bc500887dd291cc95f68b7"), looks := false }, kinds := [], alts := [], laidByText := true, laidKinds := [.data], laidTests := true, laidLooks := .later }
def IndexMeetsUptoCardSaid : Prop := Claim7.holds Tryd.pinned (.plain (OpenSpec.upto indexMeetsSpec)) indexMeetsUptoCard

/-- THE SECOND FORM's CARD OF 'synodlaw12.IndexHalves'. -/
def indexHalvesUptoCard : Claim7 := { stood := { row := indexHalvesUptoRow, standIns := [], harness := (true, "b961363fccc221659f934372edbf85069ac64a0940bc500887dd291cc95f68b7"), looks := false }, kinds := [], alts := [], laidByText := true, laidKinds := [.data], laidTests := true, laidLooks := .later }
def IndexHalvesUptoCardSaid : Prop := Claim7.holds Tryd.pinned (.plain (OpenSpec.upto indexHalvesSpec)) indexHalvesUptoCard
end Rows
end Go.Proofs.YtodhmfddfjfhjaaDoor
