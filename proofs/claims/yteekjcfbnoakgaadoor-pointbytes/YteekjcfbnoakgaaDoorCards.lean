/-
  DERIVED. GIVEN WITH THE SEED: THE CARDS: each row of YteekjcfbnoakgaaDoorRows.lean that lists a variable, with what it lists TIED to the program's text (the seventh form; the later family's looks); each row that meets fmt, with fmt's text TOLD by the authors' own Lean function (tested against real Go, not proved from fmt's source: count such statements apart). THE CARD IS WHAT COUNTS. Prove the row's statement (the work); the ties are given (YteekjcfbnoakgaaDoorTie.lean); close each card by the builder's one call (the guide's Derived/Test/ToyasCard.lean, 'card_holds'). Laid BY PROGRAM, IN A SANDBOX (cutbox-door.mjs). By AI agents, Wed Nov 11 2026. No macro, syntax, notation, axiom, sorry.
-/
import Derived.Test.YteekjcfbnoakgaaDoorRows
import GoSem.ClaimSeven
namespace Go.Proofs.YteekjcfbnoakgaaDoor
namespace Rows

/-- THE TIED CARD OF 'synodlaw06.PointBytes'. -/
def pointBytesCard : Claim7 := { stood := { row := pointBytesRow, standIns := [], harness := (true, "c782a81c1ef94744e95fedf6230989a9352144bc8ce1f91ae4acd93683d1794d"), looks := false }, kinds := [], alts := [], laidByText := true, laidKinds := [.data], laidTests := true, laidLooks := .later }
def PointBytesCardSaid : Prop := Claim7.holds Tryd.pinned (.plain (OpenSpec.ofChange pointBytesSpec)) pointBytesCard

/-- THE TIED CARD OF 'synodlaw06.PointTimes'. -/
def pointTimesCard : Claim7 := { stood := { row := pointTimesRow, standIns := [], harness := (true, "c782a81c1ef94744e95fedf6230989a9352144bc8ce1f91ae4acd93683d1794d"), looks := false }, kinds := [], alts := [], laidByText := true, laidKinds := [.data], laidTests := true, laidLooks := .later }
def PointTimesCardSaid : Prop := Claim7.holds Tryd.pinned (.plain (OpenSpec.ofChange pointTimesSpec)) pointTimesCard

/-- THE TIED CARD OF 'synodlaw06.PointSums'. -/
def pointSumsCard : Claim7 := { stood := { row := pointSumsRow, standIns := [], harness := (true, "c782a81c1ef94744e95fedf6230989a9352144bc8ce1f91ae4acd93683d1794d"), looks := false }, kinds := [], alts := [], laidByText := true, laidKinds := [.data], laidTests := true, laidLooks := .later }
def PointSumsCardSaid : Prop := Claim7.holds Tryd.pinned (.plain (OpenSpec.ofChange pointSumsSpec)) pointSumsCard

/-- THE TIED CARD OF 'synodlaw06.PointGroup'. -/
def pointGroupCard : Claim7 := { stood := { row := pointGroupRow, standIns := [], harness := (true, "c782a81c1ef94744e95fedf6230989a9352144bc8ce1f91ae4acd93683d1794d"), looks := false }, kinds := [], alts := [], laidByText := true, laidKinds := [.data, .data], laidTests := true, laidLooks := .later }
def PointGroupCardSaid : Prop := Claim7.holds Tryd.pinned (.plain (OpenSpec.ofChange pointGroupSpec)) pointGroupCard

/-- THE TIED CARD OF 'synodlaw06.PointDoubles'. -/
def pointDoublesCard : Claim7 := { stood := { row := pointDoublesRow, standIns := [], harness := (true, "c782a81c1ef94744e95fedf6230989a9352144bc8ce1f91ae4acd93683d1794d"), looks := false }, kinds := [], alts := [], laidByText := true, laidKinds := [.data], laidTests := true, laidLooks := .later }
def PointDoublesCardSaid : Prop := Claim7.holds Tryd.pinned (.plain (OpenSpec.ofChange pointDoublesSpec)) pointDoublesCard

/-- THE SECOND FORM's CARD OF 'synodlaw06.PointBytes'. -/
def pointBytesUptoCard : Claim7 := { stood := { row := pointBytesUptoRow, standIns := [], harness := (true, "c782a81c1ef94744e95fedf6230989a9352144bc8ce1f91ae4acd93683d1794d"), looks := false }, kinds := [], alts := [], laidByText := true, laidKinds := [.data], laidTests := true, laidLooks := .later }
def PointBytesUptoCardSaid : Prop := Claim7.holds Tryd.pinned (.plain (OpenSpec.upto pointBytesSpec)) pointBytesUptoCard

/-- THE SECOND FORM's CARD OF 'synodlaw06.PointTimes'. -/
def pointTimesUptoCard : Claim7 := { stood := { row := pointTimesUptoRow, standIns := [], harness := (true, "c782a81c1ef94744e95fedf6230989a9352144bc8ce1f91ae4acd93683d1794d"), looks := false }, kinds := [], alts := [], laidByText := true, laidKinds := [.data], laidTests := true, laidLooks := .later }
def PointTimesUptoCardSaid : Prop := Claim7.holds Tryd.pinned (.plain (OpenSpec.upto pointTimesSpec)) pointTimesUptoCard

/-- THE SECOND FORM's CARD OF 'synodlaw06.PointSums'. -/
def pointSumsUptoCard : Claim7 := { stood := { row := pointSumsUptoRow, standIns := [], harness := (true, "c782a81c1ef94744e95fedf6230989a9352144bc8ce1f91ae4acd93683d1794d"), looks := false }, kinds := [], alts := [], laidByText := true, laidKinds := [.data], laidTests := true, laidLooks := .later }
def PointSumsUptoCardSaid : Prop := Claim7.holds Tryd.pinned (.plain (OpenSpec.upto pointSumsSpec)) pointSumsUptoCard

/-- THE SECOND FORM's CARD OF 'synodlaw06.PointGroup'. -/
def pointGroupUptoCard : Claim7 := { stood := { row := pointGroupUptoRow, standIns := [], harness := (true, "c782a81c1ef94744e95fedf6230989a9352144bc8ce1f91ae4acd93683d1794d"), looks := false }, kinds := [], alts := [], laidByText := true, laidKinds := [.data, .data], laidTests := true, laidLooks := .later }
def PointGroupUptoCardSaid : Prop := Claim7.holds Tryd.pinned (.plain (OpenSpec.upto pointGroupSpec)) pointGroupUptoCard

/-- THE SECOND FORM's CARD OF 'synodlaw06.PointDoubles'. -/
def pointDoublesUptoCard : Claim7 := { stood := { row := pointDoublesUptoRow, standIns := [], harness := (true, "c782a81c1ef94744e95fedf6230989a9352144bc8ce1f91ae4acd93683d1794d"), looks := false }, kinds := [], alts := [], laidByText := true, laidKinds := [.data], laidTests := true, laidLooks := .later }
def PointDoublesUptoCardSaid : Prop := Claim7.holds Tryd.pinned (.plain (OpenSpec.upto pointDoublesSpec)) pointDoublesUptoCard
end Rows
end Go.Proofs.YteekjcfbnoakgaaDoor
