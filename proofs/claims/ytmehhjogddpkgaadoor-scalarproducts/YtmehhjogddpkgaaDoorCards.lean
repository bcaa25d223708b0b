/-
  DERIVED. GIVEN WITH THE SEED: THE CARDS: each row of YtmehhjogddpkgaaDoorRows.lean that lists a variable, with what it lists TIED to the program's text (the seventh form; the later family's looks); each row that meets fmt, with fmt's text TOLD by the authors' own Lean function (tested against real Go, not proved from fmt's source: count such statements apart). THE CARD IS WHAT COUNTS. Prove the row's statement (the work); the ties are given (YtmehhjogddpkgaaDoorTie.lean); close each card by the builder's one call (the guide's Derived/Test/ToyasCard.lean, 'card_holds'). Laid BY PROGRAM, IN A SANDBOX (cutbox-door.mjs). By AI agents, Wed Nov 11 2026. No macro, syntax, notation, axiom, sorry.
-/
import Derived.Test.YtmehhjogddpkgaaDoorRows
import GoSem.ClaimSeven
namespace Go.Proofs.YtmehhjogddpkgaaDoor
namespace Rows

/-- THE TIED CARD OF 'synodlaw04.ScalarReduces'. -/
def scalarReducesCard : Claim7 := { stood := { row := scalarReducesRow, standIns := [], harness := (true, "96a165b8d29c4c892de16a4723f23d238f1ca6475284e16164b9abe2a2ff50bd"), looks := false }, kinds := [], alts := [], laidByText := true, laidKinds := [.data], laidTests := true, laidLooks := .later }
def ScalarReducesCardSaid : Prop := Claim7.holds Tryd.pinned (.plain (OpenSpec.ofChange scalarReducesSpec)) scalarReducesCard

/-- THE TIED CARD OF 'synodlaw04.ScalarProducts'. -/
def scalarProductsCard : Claim7 := { stood := { row := scalarProductsRow, standIns := [], harness := (true, "96a165b8d29c4c892de16a4723f23d238f1ca6475284e16164b9abe2a2ff50bd"), looks := false }, kinds := [], alts := [], laidByText := true, laidKinds := [.data], laidTests := true, laidLooks := .later }
def ScalarProductsCardSaid : Prop := Claim7.holds Tryd.pinned (.plain (OpenSpec.ofChange scalarProductsSpec)) scalarProductsCard

/-- THE TIED CARD OF 'synodlaw04.ScalarNegs'. -/
def scalarNegsCard : Claim7 := { stood := { row := scalarNegsRow, standIns := [], harness := (true, "96a165b8d29c4c892de16a4723f23d238f1ca6475284e16164b9abe2a2ff50bd"), looks := false }, kinds := [], alts := [], laidByText := true, laidKinds := [.data], laidTests := true, laidLooks := .later }
def ScalarNegsCardSaid : Prop := Claim7.holds Tryd.pinned (.plain (OpenSpec.ofChange scalarNegsSpec)) scalarNegsCard

/-- THE TIED CARD OF 'synodlaw04.ScalarLaws'. -/
def scalarLawsCard : Claim7 := { stood := { row := scalarLawsRow, standIns := [], harness := (true, "96a165b8d29c4c892de16a4723f23d238f1ca6475284e16164b9abe2a2ff50bd"), looks := false }, kinds := [], alts := [], laidByText := true, laidKinds := [.data], laidTests := true, laidLooks := .later }
def ScalarLawsCardSaid : Prop := Claim7.holds Tryd.pinned (.plain (OpenSpec.ofChange scalarLawsSpec)) scalarLawsCard

/-- THE TIED CARD OF 'synodlaw04.ScalarOne'. -/
def scalarOneCard : Claim7 := { stood := { row := scalarOneRow, standIns := [], harness := (true, "96a165b8d29c4c892de16a4723f23d238f1ca6475284e16164b9abe2a2ff50bd"), looks := false }, kinds := [], alts := [], laidByText := true, laidKinds := [.data], laidTests := true, laidLooks := .later }
def ScalarOneCardSaid : Prop := Claim7.holds Tryd.pinned (.plain (OpenSpec.ofChange scalarOneSpec)) scalarOneCard

/-- THE SECOND FORM's CARD OF 'synodlaw04.ScalarReduces'. -/
def scalarReducesUptoCard : Claim7 := { stood := { row := scalarReducesUptoRow, standIns := [], harness := (true, "96a165b8d29c4c892de16a4723f23d238f1ca6475284e16164b9abe2a2ff50bd"), looks := false }, kinds := [], alts := [], laidByText := true, laidKinds := [.data], laidTests := true, laidLooks := .later }
def ScalarReducesUptoCardSaid : Prop := Claim7.holds Tryd.pinned (.plain (OpenSpec.upto scalarReducesSpec)) scalarReducesUptoCard

/-- THE SECOND FORM's CARD OF 'synodlaw04.ScalarProducts'. -/
def scalarProductsUptoCard : Claim7 := { stood := { row := scalarProductsUptoRow, standIns := [], harness := (true, "96a165b8d29c4c892de16a4723f23d238f1ca6475284e16164b9abe2a2ff50bd"), looks := false }, kinds := [], alts := [], laidByText := true, laidKinds := [.data], laidTests := true, laidLooks := .later }
def ScalarProductsUptoCardSaid : Prop := Claim7.holds Tryd.pinned (.plain (OpenSpec.upto scalarProductsSpec)) scalarProductsUptoCard

/-- THE SECOND FORM's CARD OF 'synodlaw04.ScalarNegs'. -/
def scalarNegsUptoCard : Claim7 := { stood := { row := scalarNegsUptoRow, standIns := [], harness := (true, "96a165b8d29c4c892de16a4723f23d238f1ca6475284e16164b9abe2a2ff50bd"), looks := false }, kinds := [], alts := [], laidByText := true, laidKinds := [.data], laidTests := true, laidLooks := .later }
def ScalarNegsUptoCardSaid : Prop := Claim7.holds Tryd.pinned (.plain (OpenSpec.upto scalarNegsSpec)) scalarNegsUptoCard

/-- THE SECOND FORM's CARD OF 'synodlaw04.ScalarLaws'. -/
def scalarLawsUptoCard : Claim7 := { stood := { row := scalarLawsUptoRow, standIns := [], harness := (true, "96a165b8d29c4c892de16a4723f23d238f1ca6475284e16164b9abe2a2ff50bd"), looks := false }, kinds := [], alts := [], laidByText := true, laidKinds := [.data], laidTests := true, laidLooks := .later }
def ScalarLawsUptoCardSaid : Prop := Claim7.holds Tryd.pinned (.plain (OpenSpec.upto scalarLawsSpec)) scalarLawsUptoCard

/-- THE SECOND FORM's CARD OF 'synodlaw04.ScalarOne'. -/
def scalarOneUptoCard : Claim7 := { stood := { row := scalarOneUptoRow, standIns := [], harness := (true, "96a165b8d29c4c892de16a4723f23d238f1ca6475284e16164b9abe2a2ff50bd"), looks := false }, kinds := [], alts := [], laidByText := true, laidKinds := [.data], laidTests := true, laidLooks := .later }
def ScalarOneUptoCardSaid : Prop := Claim7.holds Tryd.pinned (.plain (OpenSpec.upto scalarOneSpec)) scalarOneUptoCard
end Rows
end Go.Proofs.YtmehhjogddpkgaaDoor
