/-
  DERIVED. GIVEN WITH THE SEED: THE CARDS: each row of YthnihgnboelipadDoorRows.lean that lists a variable, with what it lists TIED to the program's text (the seventh form; the later family's looks); each row that meets fmt, with fmt's text TOLD by the authors' own Lean function (tested against real Go, not proved from fmt's source: count such statements apart). THE CARD IS WHAT COUNTS. Prove the row's statement (the work); the ties are given (YthnihgnboelipadDoorTie.lean); close each card by the builder's one call (the guide's Derived/Test/ToyasCard.lean, 'card_holds'). Laid BY PROGRAM, IN A SANDBOX (cutbox-door.mjs). By AI agents, Wed Nov 11 2026. No macro, syntax, notation, axiom, sorry.
-/
import Derived.Test.YthnihgnboelipadDoorRows
import GoSem.ClaimSeven
namespace Go.Proofs.YthnihgnboelipadDoor
namespace Rows

/-- THE TIED CARD OF 'laws.FnExactGenIn'. -/
def fnExactGenInCard : Claim7 := { stood := { row := fnExactGenInRow, standIns := [], harness := (true, "9619ff76c9bf363f1a702420e441f78a3becea693bfa72e0de15a174c8e7602d"), looks := false }, kinds := [], alts := [], laidByText := true, laidKinds := [.data], laidTests := true, laidLooks := .later }
def FnExactGenInCardSaid : Prop := Claim7.holds Tryd.pinned (.plain (OpenSpec.ofChange fnExactGenInSpec)) fnExactGenInCard

/-- THE TIED CARD OF 'laws.FnExactSetGen'. -/
def fnExactSetGenCard : Claim7 := { stood := { row := fnExactSetGenRow, standIns := [], harness := (true, "9619ff76c9bf363f1a702420e441f78a3becea693bfa72e0de15a174c8e7602d"), looks := false }, kinds := [], alts := [], laidByText := true, laidKinds := [.data], laidTests := true, laidLooks := .later }
def FnExactSetGenCardSaid : Prop := Claim7.holds Tryd.pinned (.plain (OpenSpec.ofChange fnExactSetGenSpec)) fnExactSetGenCard

/-- THE TIED CARD OF 'laws.FnExactGrant'. -/
def fnExactGrantCard : Claim7 := { stood := { row := fnExactGrantRow, standIns := [], harness := (true, "9619ff76c9bf363f1a702420e441f78a3becea693bfa72e0de15a174c8e7602d"), looks := false }, kinds := [], alts := [], laidByText := true, laidKinds := [.data], laidTests := true, laidLooks := .later }
def FnExactGrantCardSaid : Prop := Claim7.holds Tryd.pinned (.plain (OpenSpec.ofChange fnExactGrantSpec)) fnExactGrantCard

/-- THE SECOND FORM's CARD OF 'laws.FnExactGenIn'. -/
def fnExactGenInUptoCard : Claim7 := { stood := { row := fnExactGenInUptoRow, standIns := [], harness := (true, "9619ff76c9bf363f1a702420e441f78a3becea693bfa72e0de15a174c8e7602d"), looks := false }, kinds := [], alts := [], laidByText := true, laidKinds := [.data], laidTests := true, laidLooks := .later }
def FnExactGenInUptoCardSaid : Prop := Claim7.holds Tryd.pinned (.plain (OpenSpec.upto fnExactGenInSpec)) fnExactGenInUptoCard

/-- THE SECOND FORM's CARD OF 'laws.FnExactSetGen'. -/
def fnExactSetGenUptoCard : Claim7 := { stood := { row := fnExactSetGenUptoRow, standIns := [], harness := (true, "9619ff76c9bf363f1a702420e441f78a3becea693bfa72e0de15a174c8e7602d"), looks := false }, kinds := [], alts := [], laidByText := true, laidKinds := [.data], laidTests := true, laidLooks := .later }
def FnExactSetGenUptoCardSaid : Prop := Claim7.holds Tryd.pinned (.plain (OpenSpec.upto fnExactSetGenSpec)) fnExactSetGenUptoCard

/-- THE SECOND FORM's CARD OF 'laws.FnExactGrant'. -/
def fnExactGrantUptoCard : Claim7 := { stood := { row := fnExactGrantUptoRow, standIns := [], harness := (true, "9619ff76c9bf363f1a702420e441f78a3becea693bfa72e0de15a174c8e7602d"), looks := false }, kinds := [], alts := [], laidByText := true, laidKinds := [.data], laidTests := true, laidLooks := .later }
def FnExactGrantUptoCardSaid : Prop := Claim7.holds Tryd.pinned (.plain (OpenSpec.upto fnExactGrantSpec)) fnExactGrantUptoCard
end Rows
end Go.Proofs.YthnihgnboelipadDoor
