/-
  DERIVED. GIVEN WITH THE SEED: THE CARDS: each row of YtnfjpjgmhhmdeaaGreatDoorRows.lean that lists a variable, with what it lists TIED to the program's text (the seventh form; the later family's looks); each row that meets fmt, with fmt's text TOLD by the authors' own Lean function (tested against real Go, not proved from fmt's source: count such statements apart). THE CARD IS WHAT COUNTS. Prove the row's statement (the work); the ties are given (YtnfjpjgmhhmdeaaGreatDoorTie.lean); close each card by the builder's one call (the guide's Derived/Test/ToyasCard.lean, 'card_holds'). Laid BY PROGRAM, IN A SANDBOX (cutbox-door.mjs). By AI agents, Wed Nov 11 2026. No macro, syntax, notation, axiom, sorry.
-/
import Derived.Test.YtnfjpjgmhhmdeaaGreatDoorRows
import GoSem.ClaimSeven
namespace Go.Proofs.YtnfjpjgmhhmdeaaGreatDoor
namespace Rows

/-- THE TIED CARD OF 'laws.FnExactShelfOk'. -/
def fnExactShelfOkCard : Claim7 := { stood := { row := fnExactShelfOkRow, standIns := [], harness := (true, "a5988eaa8395434956b19fd9daf867d30a95e1c6b69226f9a7665c1c8befbc08"), looks := false }, kinds := [], alts := [], laidByText := true, laidKinds := [.data], laidTests := true, laidLooks := .later }
def FnExactShelfOkCardSaid : Prop := Claim7.holds Tryz.pinned (.plain (OpenSpec.ofChange fnExactShelfOkSpec)) fnExactShelfOkCard

/-- THE TIED CARD OF 'laws.FnExactGuarded'. -/
def fnExactGuardedCard : Claim7 := { stood := { row := fnExactGuardedRow, standIns := [], harness := (true, "a5988eaa8395434956b19fd9daf867d30a95e1c6b69226f9a7665c1c8befbc08"), looks := false }, kinds := [], alts := [], laidByText := true, laidKinds := [.data], laidTests := true, laidLooks := .later }
def FnExactGuardedCardSaid : Prop := Claim7.holds Tryz.pinned (.plain (OpenSpec.ofChange fnExactGuardedSpec)) fnExactGuardedCard

/-- THE TIED CARD OF 'laws.FnExactSafeNow'. -/
def fnExactSafeNowCard : Claim7 := { stood := { row := fnExactSafeNowRow, standIns := [], harness := (true, "a5988eaa8395434956b19fd9daf867d30a95e1c6b69226f9a7665c1c8befbc08"), looks := false }, kinds := [], alts := [], laidByText := true, laidKinds := [.data], laidTests := true, laidLooks := .later }
def FnExactSafeNowCardSaid : Prop := Claim7.holds Tryz.pinned (.plain (OpenSpec.ofChange fnExactSafeNowSpec)) fnExactSafeNowCard

/-- THE TIED CARD OF 'laws.FnExactNamed'. -/
def fnExactNamedCard : Claim7 := { stood := { row := fnExactNamedRow, standIns := [], harness := (true, "a5988eaa8395434956b19fd9daf867d30a95e1c6b69226f9a7665c1c8befbc08"), looks := false }, kinds := [], alts := [], laidByText := true, laidKinds := [.data], laidTests := true, laidLooks := .later }
def FnExactNamedCardSaid : Prop := Claim7.holds Tryz.pinned (.plain (OpenSpec.ofChange fnExactNamedSpec)) fnExactNamedCard

/-- THE TIED CARD OF 'laws.FnExactAccounted'. -/
def fnExactAccountedCard : Claim7 := { stood := { row := fnExactAccountedRow, standIns := [], harness := (true, "a5988eaa8395434956b19fd9daf867d30a95e1c6b69226f9a7665c1c8befbc08"), looks := false }, kinds := [], alts := [], laidByText := true, laidKinds := [.data], laidTests := true, laidLooks := .later }
def FnExactAccountedCardSaid : Prop := Claim7.holds Tryz.pinned (.plain (OpenSpec.ofChange fnExactAccountedSpec)) fnExactAccountedCard

/-- THE TIED CARD OF 'laws.FnExactCollectors'. -/
def fnExactCollectorsCard : Claim7 := { stood := { row := fnExactCollectorsRow, standIns := [], harness := (true, "a5988eaa8395434956b19fd9daf867d30a95e1c6b69226f9a7665c1c8befbc08"), looks := false }, kinds := [], alts := [], laidByText := true, laidKinds := [.data], laidTests := true, laidLooks := .later }
def FnExactCollectorsCardSaid : Prop := Claim7.holds Tryz.pinned (.plain (OpenSpec.ofChange fnExactCollectorsSpec)) fnExactCollectorsCard

/-- THE TIED CARD OF 'laws.FnExactStuck'. -/
def fnExactStuckCard : Claim7 := { stood := { row := fnExactStuckRow, standIns := [], harness := (true, "a5988eaa8395434956b19fd9daf867d30a95e1c6b69226f9a7665c1c8befbc08"), looks := false }, kinds := [], alts := [], laidByText := true, laidKinds := [.data], laidTests := true, laidLooks := .later }
def FnExactStuckCardSaid : Prop := Claim7.holds Tryz.pinned (.plain (OpenSpec.ofChange fnExactStuckSpec)) fnExactStuckCard

/-- THE SECOND FORM's CARD OF 'laws.FnExactShelfOk'. -/
def fnExactShelfOkUptoCard : Claim7 := { stood := { row := fnExactShelfOkUptoRow, standIns := [], harness := (true, "a5988eaa8395434956b19fd9daf867d30a95e1c6b69226f9a7665c1c8befbc08"), looks := false }, kinds := [], alts := [], laidByText := true, laidKinds := [.data], laidTests := true, laidLooks := .later }
def FnExactShelfOkUptoCardSaid : Prop := Claim7.holds Tryz.pinned (.plain (OpenSpec.upto fnExactShelfOkSpec)) fnExactShelfOkUptoCard

/-- THE SECOND FORM's CARD OF 'laws.FnExactGuarded'. -/
def fnExactGuardedUptoCard : Claim7 := { stood := { row := fnExactGuardedUptoRow, standIns := [], harness := (true, "a5988eaa8395434956b19fd9daf867d30a95e1c6b69226f9a7665c1c8befbc08"), looks := false }, kinds := [], alts := [], laidByText := true, laidKinds := [.data], laidTests := true, laidLooks := .later }
def FnExactGuardedUptoCardSaid : Prop := Claim7.holds Tryz.pinned (.plain (OpenSpec.upto fnExactGuardedSpec)) fnExactGuardedUptoCard

/-- THE SECOND FORM's CARD OF 'laws.FnExactSafeNow'. -/
def fnExactSafeNowUptoCard : Claim7 := { stood := { row := fnExactSafeNowUptoRow, standIns := [], harness := (true, "a5988eaa8395434956b19fd9daf867d30a95e1c6b69226f9a7665c1c8befbc08"), looks := false }, kinds := [], alts := [], laidByText := true, laidKinds := [.data], laidTests := true, laidLooks := .later }
def FnExactSafeNowUptoCardSaid : Prop := Claim7.holds Tryz.pinned (.plain (OpenSpec.upto fnExactSafeNowSpec)) fnExactSafeNowUptoCard

/-- THE SECOND FORM's CARD OF 'laws.FnExactNamed'. -/
def fnExactNamedUptoCard : Claim7 := { stood := { row := fnExactNamedUptoRow, standIns := [], harness := (true, "a5988eaa8395434956b19fd9daf867d30a95e1c6b69226f9a7665c1c8befbc08"), looks := false }, kinds := [], alts := [], laidByText := true, laidKinds := [.data], laidTests := true, laidLooks := .later }
def FnExactNamedUptoCardSaid : Prop := Claim7.holds Tryz.pinned (.plain (OpenSpec.upto fnExactNamedSpec)) fnExactNamedUptoCard

/-- THE SECOND FORM's CARD OF 'laws.FnExactAccounted'. -/
def fnExactAccountedUptoCard : Claim7 := { stood := { row := fnExactAccountedUptoRow, standIns := [], harness := (true, "a5988eaa8395434956b19fd9daf867d30a95e1c6b69226f9a7665c1c8befbc08"), looks := false }, kinds := [], alts := [], laidByText := true, laidKinds := [.data], laidTests := true, laidLooks := .later }
def FnExactAccountedUptoCardSaid : Prop := Claim7.holds Tryz.pinned (.plain (OpenSpec.upto fnExactAccountedSpec)) fnExactAccountedUptoCard

/-- THE SECOND FORM's CARD OF 'laws.FnExactCollectors'. -/
def fnExactCollectorsUptoCard : Claim7 := { stood := { row := fnExactCollectorsUptoRow, standIns := [], harness := (true, "a5988eaa8395434956b19fd9daf867d30a95e1c6b69226f9a7665c1c8befbc08"), looks := false }, kinds := [], alts := [], laidByText := true, laidKinds := [.data], laidTests := true, laidLooks := .later }
def FnExactCollectorsUptoCardSaid : Prop := Claim7.holds Tryz.pinned (.plain (OpenSpec.upto fnExactCollectorsSpec)) fnExactCollectorsUptoCard

/-- THE SECOND FORM's CARD OF 'laws.FnExactStuck'. -/
def fnExactStuckUptoCard : Claim7 := { stood := { row := fnExactStuckUptoRow, standIns := [], harness := (true, "a5988eaa8395434956b19fd9daf867d30a95e1c6b69226f9a7665c1c8befbc08"), looks := false }, kinds := [], alts := [], laidByText := true, laidKinds := [.data], laidTests := true, laidLooks := .later }
def FnExactStuckUptoCardSaid : Prop := Claim7.holds Tryz.pinned (.plain (OpenSpec.upto fnExactStuckSpec)) fnExactStuckUptoCard
end Rows
end Go.Proofs.YtnfjpjgmhhmdeaaGreatDoor
