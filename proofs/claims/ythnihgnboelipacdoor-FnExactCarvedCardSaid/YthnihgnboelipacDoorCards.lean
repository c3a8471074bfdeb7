/-
  DERIVED. GIVEN WITH THE SEED: THE CARDS: each row of YthnihgnboelipacDoorRows.lean that lists a variable, with what it lists TIED to the program's text (the seventh form; the later family's looks); each row that meets fmt, with fmt's text TOLD by the authors' own Lean function (tested against real Go, not proved from fmt's source: count such statements apart). THE CARD IS WHAT COUNTS. Prove the row's statement (the work); the ties are given (YthnihgnboelipacDoorTie.lean); close each card by the builder's one call (the guide's Derived/Test/ToyasCard.lean, 'card_holds'). Laid BY PROGRAM, IN A SANDBOX (cutbox-door.mjs). By AI agents, Wed Nov 11 2026. No macro, syntax, notation, axiom, sorry.
-/
import Derived.Test.YthnihgnboelipacDoorRows
import GoSem.ClaimSeven
namespace Go.Proofs.YthnihgnboelipacDoor
namespace Rows

/-- THE TIED CARD OF 'laws.FnGrants'. -/
def fnGrantsCard : Claim7 := { stood := { row := fnGrantsRow, standIns := [], harness := (true, "a2fd9010d0708ef8b4e8a11358abd7d67028819677dc5a0b173eda0e28814dea"), looks := false }, kinds := [], alts := [], laidByText := true, laidKinds := [.data], laidTests := true, laidLooks := .later }
def FnGrantsCardSaid : Prop := Claim7.holds Tryd.pinned (.plain (OpenSpec.ofChange fnGrantsSpec)) fnGrantsCard

/-- THE TIED CARD OF 'laws.FnExactHeapOk'. -/
def fnExactHeapOkCard : Claim7 := { stood := { row := fnExactHeapOkRow, standIns := [], harness := (true, "a2fd9010d0708ef8b4e8a11358abd7d67028819677dc5a0b173eda0e28814dea"), looks := false }, kinds := [], alts := [], laidByText := true, laidKinds := [.data], laidTests := true, laidLooks := .later }
def FnExactHeapOkCardSaid : Prop := Claim7.holds Tryd.pinned (.plain (OpenSpec.ofChange fnExactHeapOkSpec)) fnExactHeapOkCard

/-- THE TIED CARD OF 'laws.FnExactCarved'. -/
def fnExactCarvedCard : Claim7 := { stood := { row := fnExactCarvedRow, standIns := [], harness := (true, "a2fd9010d0708ef8b4e8a11358abd7d67028819677dc5a0b173eda0e28814dea"), looks := false }, kinds := [], alts := [], laidByText := true, laidKinds := [.data], laidTests := true, laidLooks := .later }
def FnExactCarvedCardSaid : Prop := Claim7.holds Tryd.pinned (.plain (OpenSpec.ofChange fnExactCarvedSpec)) fnExactCarvedCard

/-- THE TIED CARD OF 'laws.FnExactClassAt'. -/
def fnExactClassAtCard : Claim7 := { stood := { row := fnExactClassAtRow, standIns := [], harness := (true, "a2fd9010d0708ef8b4e8a11358abd7d67028819677dc5a0b173eda0e28814dea"), looks := false }, kinds := [], alts := [], laidByText := true, laidKinds := [.data], laidTests := true, laidLooks := .later }
def FnExactClassAtCardSaid : Prop := Claim7.holds Tryd.pinned (.plain (OpenSpec.ofChange fnExactClassAtSpec)) fnExactClassAtCard

/-- THE SECOND FORM's CARD OF 'laws.FnGrants'. -/
def fnGrantsUptoCard : Claim7 := { stood := { row := fnGrantsUptoRow, standIns := [], harness := (true, "a2fd9010d0708ef8b4e8a11358abd7d67028819677dc5a0b173eda0e28814dea"), looks := false }, kinds := [], alts := [], laidByText := true, laidKinds := [.data], laidTests := true, laidLooks := .later }
def FnGrantsUptoCardSaid : Prop := Claim7.holds Tryd.pinned (.plain (OpenSpec.upto fnGrantsSpec)) fnGrantsUptoCard

/-- THE SECOND FORM's CARD OF 'laws.FnExactHeapOk'. -/
def fnExactHeapOkUptoCard : Claim7 := { stood := { row := fnExactHeapOkUptoRow, standIns := [], harness := (true, "a2fd9010d0708ef8b4e8a11358abd7d67028819677dc5a0b173eda0e28814dea"), looks := false }, kinds := [], alts := [], laidByText := true, laidKinds := [.data], laidTests := true, laidLooks := .later }
def FnExactHeapOkUptoCardSaid : Prop := Claim7.holds Tryd.pinned (.plain (OpenSpec.upto fnExactHeapOkSpec)) fnExactHeapOkUptoCard

/-- THE SECOND FORM's CARD OF 'laws.FnExactCarved'. -/
def fnExactCarvedUptoCard : Claim7 := { stood := { row := fnExactCarvedUptoRow, standIns := [], harness := (true, "a2fd9010d0708ef8b4e8a11358abd7d67028819677dc5a0b173eda0e28814dea"), looks := false }, kinds := [], alts := [], laidByText := true, laidKinds := [.data], laidTests := true, laidLooks := .later }
def FnExactCarvedUptoCardSaid : Prop := Claim7.holds Tryd.pinned (.plain (OpenSpec.upto fnExactCarvedSpec)) fnExactCarvedUptoCard

/-- THE SECOND FORM's CARD OF 'laws.FnExactClassAt'. -/
def fnExactClassAtUptoCard : Claim7 := { stood := { row := fnExactClassAtUptoRow, standIns := [], harness := (true, "a2fd9010d0708ef8b4e8a11358abd7d67028819677dc5a0b173eda0e28814dea"), looks := false }, kinds := [], alts := [], laidByText := true, laidKinds := [.data], laidTests := true, laidLooks := .later }
def FnExactClassAtUptoCardSaid : Prop := Claim7.holds Tryd.pinned (.plain (OpenSpec.upto fnExactClassAtSpec)) fnExactClassAtUptoCard
end Rows
end Go.Proofs.YthnihgnboelipacDoor
