/-
  DERIVED. GIVEN WITH THE SEED: THE CARDS: each row of YtbfkdbbgbdihdacDoorRows.lean that lists a variable, with what it lists TIED to the program's text (the seventh form; the later family's looks); each row that meets fmt, with fmt's text TOLD by the authors' own Lean function (tested against real Go, not proved from fmt's source: count such statements apart). THE CARD IS WHAT COUNTS. Prove the row's statement (the work); the ties are given (YtbfkdbbgbdihdacDoorTie.lean); close each card by the builder's one call (the guide's Derived/Test/ToyasCard.lean, 'card_holds'). Laid BY PROGRAM, IN A SANDBOX (cutbox-door.mjs). By AI agents, Wed Nov 11 2026. No macro, syntax, notation, axiom, sorry.
-/
import Derived.Test.YtbfkdbbgbdihdacDoorRows
import GoSem.ClaimSeven
namespace Go.Proofs.YtbfkdbbgbdihdacDoor
namespace Rows

/-- THE TIED CARD OF 'laws.FnExactSetGen'. -/
def fnExactSetGenCard : Claim7 := { stood := { row := fnExactSetGenRow, standIns := [], harness := (true, "d650e496130d08f8008fcd10cf440a7193ba2f1dfb89a7d5d04270374c7584b2"), looks := false }, kinds := [], alts := [], laidByText := true, laidKinds := [.data], laidTests := true, laidLooks := .later }
def FnExactSetGenCardSaid : Prop := Claim7.holds Tryd.pinned (.plain (OpenSpec.ofChange fnExactSetGenSpec)) fnExactSetGenCard

/-- THE TIED CARD OF 'laws.FnExactGrant'. -/
def fnExactGrantCard : Claim7 := { stood := { row := fnExactGrantRow, standIns := [], harness := (true, "d650e496130d08f8008fcd10cf440a7193ba2f1dfb89a7d5d04270374c7584b2"), looks := false }, kinds := [], alts := [], laidByText := true, laidKinds := [.data], laidTests := true, laidLooks := .later }
def FnExactGrantCardSaid : Prop := Claim7.holds Tryd.pinned (.plain (OpenSpec.ofChange fnExactGrantSpec)) fnExactGrantCard

/-- THE TIED CARD OF 'laws.FnExactMemOk'. -/
def fnExactMemOkCard : Claim7 := { stood := { row := fnExactMemOkRow, standIns := [], harness := (true, "d650e496130d08f8008fcd10cf440a7193ba2f1dfb89a7d5d04270374c7584b2"), looks := false }, kinds := [], alts := [], laidByText := true, laidKinds := [.data], laidTests := true, laidLooks := .later }
def FnExactMemOkCardSaid : Prop := Claim7.holds Tryd.pinned (.plain (OpenSpec.ofChange fnExactMemOkSpec)) fnExactMemOkCard

/-- THE TIED CARD OF 'laws.FnExactStateOf'. -/
def fnExactStateOfCard : Claim7 := { stood := { row := fnExactStateOfRow, standIns := [], harness := (true, "d650e496130d08f8008fcd10cf440a7193ba2f1dfb89a7d5d04270374c7584b2"), looks := false }, kinds := [], alts := [], laidByText := true, laidKinds := [.data], laidTests := true, laidLooks := .later }
def FnExactStateOfCardSaid : Prop := Claim7.holds Tryd.pinned (.plain (OpenSpec.ofChange fnExactStateOfSpec)) fnExactStateOfCard

/-- THE TIED CARD OF 'laws.FnExactValid'. -/
def fnExactValidCard : Claim7 := { stood := { row := fnExactValidRow, standIns := [], harness := (true, "d650e496130d08f8008fcd10cf440a7193ba2f1dfb89a7d5d04270374c7584b2"), looks := false }, kinds := [], alts := [], laidByText := true, laidKinds := [.data], laidTests := true, laidLooks := .later }
def FnExactValidCardSaid : Prop := Claim7.holds Tryd.pinned (.plain (OpenSpec.ofChange fnExactValidSpec)) fnExactValidCard

/-- THE TIED CARD OF 'laws.FnExactCounts'. -/
def fnExactCountsCard : Claim7 := { stood := { row := fnExactCountsRow, standIns := [], harness := (true, "d650e496130d08f8008fcd10cf440a7193ba2f1dfb89a7d5d04270374c7584b2"), looks := false }, kinds := [], alts := [], laidByText := true, laidKinds := [.data], laidTests := true, laidLooks := .later }
def FnExactCountsCardSaid : Prop := Claim7.holds Tryd.pinned (.plain (OpenSpec.ofChange fnExactCountsSpec)) fnExactCountsCard

/-- THE TIED CARD OF 'laws.FnExactLoadIn'. -/
def fnExactLoadInCard : Claim7 := { stood := { row := fnExactLoadInRow, standIns := [], harness := (true, "d650e496130d08f8008fcd10cf440a7193ba2f1dfb89a7d5d04270374c7584b2"), looks := false }, kinds := [], alts := [], laidByText := true, laidKinds := [.data], laidTests := true, laidLooks := .later }
def FnExactLoadInCardSaid : Prop := Claim7.holds Tryd.pinned (.plain (OpenSpec.ofChange fnExactLoadInSpec)) fnExactLoadInCard

/-- THE SECOND FORM's CARD OF 'laws.FnExactSetGen'. -/
def fnExactSetGenUptoCard : Claim7 := { stood := { row := fnExactSetGenUptoRow, standIns := [], harness := (true, "d650e496130d08f8008fcd10cf440a7193ba2f1dfb89a7d5d04270374c7584b2"), looks := false }, kinds := [], alts := [], laidByText := true, laidKinds := [.data], laidTests := true, laidLooks := .later }
def FnExactSetGenUptoCardSaid : Prop := Claim7.holds Tryd.pinned (.plain (OpenSpec.upto fnExactSetGenSpec)) fnExactSetGenUptoCard

/-- THE SECOND FORM's CARD OF 'laws.FnExactGrant'. -/
def fnExactGrantUptoCard : Claim7 := { stood := { row := fnExactGrantUptoRow, standIns := [], harness := (true, "d650e496130d08f8008fcd10cf440a7193ba2f1dfb89a7d5d04270374c7584b2"), looks := false }, kinds := [], alts := [], laidByText := true, laidKinds := [.data], laidTests := true, laidLooks := .later }
def FnExactGrantUptoCardSaid : Prop := Claim7.holds Tryd.pinned (.plain (OpenSpec.upto fnExactGrantSpec)) fnExactGrantUptoCard

/-- THE SECOND FORM's CARD OF 'laws.FnExactMemOk'. -/
def fnExactMemOkUptoCard : Claim7 := { stood := { row := fnExactMemOkUptoRow, standIns := [], harness := (true, "d650e496130d08f8008fcd10cf440a7193ba2f1dfb89a7d5d04270374c7584b2"), looks := false }, kinds := [], alts := [], laidByText := true, laidKinds := [.data], laidTests := true, laidLooks := .later }
def FnExactMemOkUptoCardSaid : Prop := Claim7.holds Tryd.pinned (.plain (OpenSpec.upto fnExactMemOkSpec)) fnExactMemOkUptoCard

/-- THE SECOND FORM's CARD OF 'laws.FnExactStateOf'. -/
def fnExactStateOfUptoCard : Claim7 := { stood := { row := fnExactStateOfUptoRow, standIns := [], harness := (true, "d650e496130d08f8008fcd10cf440a7193ba2f1dfb89a7d5d04270374c7584b2"), looks := false }, kinds := [], alts := [], laidByText := true, laidKinds := [.data], laidTests := true, laidLooks := .later }
def FnExactStateOfUptoCardSaid : Prop := Claim7.holds Tryd.pinned (.plain (OpenSpec.upto fnExactStateOfSpec)) fnExactStateOfUptoCard

/-- THE SECOND FORM's CARD OF 'laws.FnExactValid'. -/
def fnExactValidUptoCard : Claim7 := { stood := { row := fnExactValidUptoRow, standIns := [], harness := (true, "d650e496130d08f8008fcd10cf440a7193ba2f1dfb89a7d5d04270374c7584b2"), looks := false }, kinds := [], alts := [], laidByText := true, laidKinds := [.data], laidTests := true, laidLooks := .later }
def FnExactValidUptoCardSaid : Prop := Claim7.holds Tryd.pinned (.plain (OpenSpec.upto fnExactValidSpec)) fnExactValidUptoCard

/-- THE SECOND FORM's CARD OF 'laws.FnExactCounts'. -/
def fnExactCountsUptoCard : Claim7 := { stood := { row := fnExactCountsUptoRow, standIns := [], harness := (true, "d650e496130d08f8008fcd10cf440a7193ba2f1dfb89a7d5d04270374c7584b2"), looks := false }, kinds := [], alts := [], laidByText := true, laidKinds := [.data], laidTests := true, laidLooks := .later }
def FnExactCountsUptoCardSaid : Prop := Claim7.holds Tryd.pinned (.plain (OpenSpec.upto fnExactCountsSpec)) fnExactCountsUptoCard

/-- THE SECOND FORM's CARD OF 'laws.FnExactLoadIn'. -/
def fnExactLoadInUptoCard : Claim7 := { stood := { row := fnExactLoadInUptoRow, standIns := [], harness := (true, "d650e496130d08f8008fcd10cf440a7193ba2f1dfb89a7d5d04270374c7584b2"), looks := false }, kinds := [], alts := [], laidByText := true, laidKinds := [.data], laidTests := true, laidLooks := .later }
def FnExactLoadInUptoCardSaid : Prop := Claim7.holds Tryd.pinned (.plain (OpenSpec.upto fnExactLoadInSpec)) fnExactLoadInUptoCard
end Rows
end Go.Proofs.YtbfkdbbgbdihdacDoor
