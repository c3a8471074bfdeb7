/-
  DERIVED. GIVEN WITH THE SEED: THE CARDS: each row of YtbfkdbbgbdihdabDoorRows.lean that lists a variable, with what it lists TIED to the program's text (the seventh form; the later family's looks); each row that meets fmt, with fmt's text TOLD by the authors' own Lean function (tested against real Go, not proved from fmt's source: count such statements apart). THE CARD IS WHAT COUNTS. Prove the row's statement (the work); the ties are given (YtbfkdbbgbdihdabDoorTie.lean); close each card by the builder's one call (the guide's Derived/Test/ToyasCard.lean, 'card_holds'). Laid BY PROGRAM, IN A SANDBOX (cutbox-door.mjs). By AI agents, Wed Nov 11 2026. No macro, syntax, notation, axiom, sorry.
-/
import Derived.Test.YtbfkdbbgbdihdabDoorRows
import GoSem.ClaimSeven
namespace Go.Proofs.YtbfkdbbgbdihdabDoor
namespace Rows

/-- THE TIED CARD OF 'laws.FnExactHeapOk'. -/
def fnExactHeapOkCard : Claim7 := { stood := { row := fnExactHeapOkRow, standIns := [], harness := (true, "8927ecece521812bac76983b11f9c5c91fd5aacad30b29123e2597d38731ccda"), looks := false }, kinds := [], alts := [], laidByText := true, laidKinds := [.data], laidTests := true, laidLooks := .later }
def FnExactHeapOkCardSaid : Prop := Claim7.holds Tryd.pinned (.plain (OpenSpec.ofChange fnExactHeapOkSpec)) fnExactHeapOkCard

/-- THE SECOND FORM's CARD OF 'laws.FnExactHeapOk'. -/
def fnExactHeapOkUptoCard : Claim7 := { stood := { row := fnExactHeapOkUptoRow, standIns := [], harness := (true, "8927ecece521812bac76983b11f9c5c91fd5aacad30b29123e2597d38731ccda"), looks := false }, kinds := [], alts := [], laidByText := true, laidKinds := [.data], laidTests := true, laidLooks := .later }
def FnExactHeapOkUptoCardSaid : Prop := Claim7.holds Tryd.pinned (.plain (OpenSpec.upto fnExactHeapOkSpec)) fnExactHeapOkUptoCard
end Rows
end Go.Proofs.YtbfkdbbgbdihdabDoor
