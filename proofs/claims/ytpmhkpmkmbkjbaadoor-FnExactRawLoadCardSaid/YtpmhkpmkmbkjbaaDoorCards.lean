/-
  DERIVED. GIVEN WITH THE SEED: THE CARDS: each row of YtpmhkpmkmbkjbaaDoorRows.lean that lists a variable, with what it lists TIED to the program's text (the seventh form; the later family's looks); each row that meets fmt, with fmt's text TOLD by the authors' own Lean function (tested against real Go, not proved from fmt's source: count such statements apart). THE CARD IS WHAT COUNTS. Prove the row's statement (the work); the ties are given (YtpmhkpmkmbkjbaaDoorTie.lean); close each card by the builder's one call (the guide's Derived/Test/ToyasCard.lean, 'card_holds'). Laid BY PROGRAM, IN A SANDBOX (cutbox-door.mjs). By AI agents, Wed Nov 11 2026. No macro, syntax, notation, axiom, sorry.
-/
import Derived.Test.YtpmhkpmkmbkjbaaDoorRows
import GoSem.ClaimSeven
namespace Go.Proofs.YtpmhkpmkmbkjbaaDoor
namespace Rows

/-- THE TIED CARD OF 'laws.FnExactSetGen'. -/
def fnExactSetGenCard : Claim7 := { stood := { row := fnExactSetGenRow, standIns := [], harness := (true, "241e0f974860710bff4c6e37cdefee63d6e680f53fecb2143c3f1ce5377459dd"), looks := false }, kinds := [], alts := [], laidByText := true, laidKinds := [.data], laidTests := true, laidLooks := .later }
def FnExactSetGenCardSaid : Prop := Claim7.holds Tryd.pinned (.plain (OpenSpec.ofChange fnExactSetGenSpec)) fnExactSetGenCard

/-- THE TIED CARD OF 'laws.FnExactGrant'. -/
def fnExactGrantCard : Claim7 := { stood := { row := fnExactGrantRow, standIns := [], harness := (true, "241e0f974860710bff4c6e37cdefee63d6e680f53fecb2143c3f1ce5377459dd"), looks := false }, kinds := [], alts := [], laidByText := true, laidKinds := [.data], laidTests := true, laidLooks := .later }
def FnExactGrantCardSaid : Prop := Claim7.holds Tryd.pinned (.plain (OpenSpec.ofChange fnExactGrantSpec)) fnExactGrantCard

/-- THE TIED CARD OF 'laws.FnExactNodeAt'. -/
def fnExactNodeAtCard : Claim7 := { stood := { row := fnExactNodeAtRow, standIns := [], harness := (true, "241e0f974860710bff4c6e37cdefee63d6e680f53fecb2143c3f1ce5377459dd"), looks := false }, kinds := [], alts := [], laidByText := true, laidKinds := [.data], laidTests := true, laidLooks := .later }
def FnExactNodeAtCardSaid : Prop := Claim7.holds Tryd.pinned (.plain (OpenSpec.ofChange fnExactNodeAtSpec)) fnExactNodeAtCard

/-- THE TIED CARD OF 'laws.FnExactRawLoad'. -/
def fnExactRawLoadCard : Claim7 := { stood := { row := fnExactRawLoadRow, standIns := [], harness := (true, "241e0f974860710bff4c6e37cdefee63d6e680f53fecb2143c3f1ce5377459dd"), looks := false }, kinds := [], alts := [], laidByText := true, laidKinds := [.data], laidTests := true, laidLooks := .later }
def FnExactRawLoadCardSaid : Prop := Claim7.holds Tryd.pinned (.plain (OpenSpec.ofChange fnExactRawLoadSpec)) fnExactRawLoadCard

/-- THE SECOND FORM's CARD OF 'laws.FnExactSetGen'. -/
def fnExactSetGenUptoCard : Claim7 := { stood := { row := fnExactSetGenUptoRow, standIns := [], harness := (true, "241e0f974860710bff4c6e37cdefee63d6e680f53fecb2143c3f1ce5377459dd"), looks := false }, kinds := [], alts := [], laidByText := true, laidKinds := [.data], laidTests := true, laidLooks := .later }
def FnExactSetGenUptoCardSaid : Prop := Claim7.holds Tryd.pinned (.plain (OpenSpec.upto fnExactSetGenSpec)) fnExactSetGenUptoCard

/-- THE SECOND FORM's CARD OF 'laws.FnExactGrant'. -/
def fnExactGrantUptoCard : Claim7 := { stood := { row := fnExactGrantUptoRow, standIns := [], harness := (true, "241e0f974860710bff4c6e37cdefee63d6e680f53fecb2143c3f1ce5377459dd"), looks := false }, kinds := [], alts := [], laidByText := true, laidKinds := [.data], laidTests := true, laidLooks := .later }
def FnExactGrantUptoCardSaid : Prop := Claim7.holds Tryd.pinned (.plain (OpenSpec.upto fnExactGrantSpec)) fnExactGrantUptoCard

/-- THE SECOND FORM's CARD OF 'laws.FnExactNodeAt'. -/
def fnExactNodeAtUptoCard : Claim7 := { stood := { row := fnExactNodeAtUptoRow, standIns := [], harness := (true, "241e0f974860710bff4c6e37cdefee63d6e680f53fecb2143c3f1ce5377459dd"), looks := false }, kinds := [], alts := [], laidByText := true, laidKinds := [.data], laidTests := true, laidLooks := .later }
def FnExactNodeAtUptoCardSaid : Prop := Claim7.holds Tryd.pinned (.plain (OpenSpec.upto fnExactNodeAtSpec)) fnExactNodeAtUptoCard

/-- THE SECOND FORM's CARD OF 'laws.FnExactRawLoad'. -/
def fnExactRawLoadUptoCard : Claim7 := { stood := { row := fnExactRawLoadUptoRow, standIns := [], harness := (true, "241e0f974860710bff4c6e37cdefee63d6e680f53fecb2143c3f1ce5377459dd"), looks := false }, kinds := [], alts := [], laidByText := true, laidKinds := [.data], laidTests := true, laidLooks := .later }
def FnExactRawLoadUptoCardSaid : Prop := Claim7.holds Tryd.pinned (.plain (OpenSpec.upto fnExactRawLoadSpec)) fnExactRawLoadUptoCard
end Rows
end Go.Proofs.YtpmhkpmkmbkjbaaDoor
