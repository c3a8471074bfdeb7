/-
  DERIVED. GIVEN WITH THE SEED: THE CARDS: each row of YtofdaaajbkjocaaDoorRows.lean that lists a variable, with what it lists TIED to the program's text (the seventh form; the later family's looks); each row that meets fmt, with fmt's text TOLD by the authors' own Lean function (tested against real Go, not proved from fmt's source: count such statements apart). THE CARD IS WHAT COUNTS. Prove the row's statement (the work); the ties are given (YtofdaaajbkjocaaDoorTie.lean); close each card by the builder's one call (the guide's Derived/Test/ToyasCard.lean, 'card_holds'). Laid BY PROGRAM, IN A SANDBOX (cutbox-door.mjs). By AI agents, Wed Nov 11 2026. No macro, syntax, notation, axiom, sorry.
-/
import Derived.Test.YtofdaaajbkjocaaDoorRows
import GoSem.ClaimSeven
namespace Go.Proofs.YtofdaaajbkjocaaDoor
namespace Rows

/-- THE TIED CARD OF 'laws.FnExactStepWord'. -/
def fnExactStepWordCard : Claim7 := { stood := { row := fnExactStepWordRow, standIns := [], harness := (true, "0921a6721d609c2e3d7c8536e386000dcc33171f354e95e92d178c874e72e4df"), looks := false }, kinds := [], alts := [], laidByText := true, laidKinds := [.data], laidTests := true, laidLooks := .later }
def FnExactStepWordCardSaid : Prop := Claim7.holds Tryd.pinned (.plain (OpenSpec.ofChange fnExactStepWordSpec)) fnExactStepWordCard

/-- THE SECOND FORM's CARD OF 'laws.FnExactStepWord'. -/
def fnExactStepWordUptoCard : Claim7 := { stood := { row := fnExactStepWordUptoRow, standIns := [], harness := (true, "0921a6721d609c2e3d7c8536e386000dcc33171f354e95e92d178c874e72e4df"), looks := false }, kinds := [], alts := [], laidByText := true, laidKinds := [.data], laidTests := true, laidLooks := .later }
def FnExactStepWordUptoCardSaid : Prop := Claim7.holds Tryd.pinned (.plain (OpenSpec.upto fnExactStepWordSpec)) fnExactStepWordUptoCard
end Rows
end Go.Proofs.YtofdaaajbkjocaaDoor
