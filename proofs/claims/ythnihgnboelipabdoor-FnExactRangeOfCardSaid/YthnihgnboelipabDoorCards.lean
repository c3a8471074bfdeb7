/-
  DERIVED. GIVEN WITH THE SEED: THE CARDS: each row of YthnihgnboelipabDoorRows.lean that lists a variable, with what it lists TIED to the program's text (the seventh form; the later family's looks); each row that meets fmt, with fmt's text TOLD by the authors' own Lean function (tested against real Go, not proved from fmt's source: count such statements apart). THE CARD IS WHAT COUNTS. Prove the row's statement (the work); the ties are given (YthnihgnboelipabDoorTie.lean); close each card by the builder's one call (the guide's Derived/Test/ToyasCard.lean, 'card_holds'). Laid BY PROGRAM, IN A SANDBOX (cutbox-door.mjs). By AI agents, Wed Nov 11 2026. No macro, syntax, notation, axiom, sorry.
-/
import Derived.Test.YthnihgnboelipabDoorRows
import GoSem.ClaimSeven
namespace Go.Proofs.YthnihgnboelipabDoor
namespace Rows

/-- THE TIED CARD OF 'laws.FnExactClassOf'. -/
def fnExactClassOfCard : Claim7 := { stood := { row := fnExactClassOfRow, standIns := [], harness := (true, "66bdfba32feeabf4db39da1f58bda3010c03718b614ae8e0b39804eadf62b208"), looks := false }, kinds := [], alts := [], laidByText := true, laidKinds := [.data], laidTests := true, laidLooks := .later }
def FnExactClassOfCardSaid : Prop := Claim7.holds Tryd.pinned (.plain (OpenSpec.ofChange fnExactClassOfSpec)) fnExactClassOfCard

/-- THE TIED CARD OF 'laws.FnExactStrideOf'. -/
def fnExactStrideOfCard : Claim7 := { stood := { row := fnExactStrideOfRow, standIns := [], harness := (true, "66bdfba32feeabf4db39da1f58bda3010c03718b614ae8e0b39804eadf62b208"), looks := false }, kinds := [], alts := [], laidByText := true, laidKinds := [.data], laidTests := true, laidLooks := .later }
def FnExactStrideOfCardSaid : Prop := Claim7.holds Tryd.pinned (.plain (OpenSpec.ofChange fnExactStrideOfSpec)) fnExactStrideOfCard

/-- THE TIED CARD OF 'laws.FnExactPerPage'. -/
def fnExactPerPageCard : Claim7 := { stood := { row := fnExactPerPageRow, standIns := [], harness := (true, "66bdfba32feeabf4db39da1f58bda3010c03718b614ae8e0b39804eadf62b208"), looks := false }, kinds := [], alts := [], laidByText := true, laidKinds := [.data], laidTests := true, laidLooks := .later }
def FnExactPerPageCardSaid : Prop := Claim7.holds Tryd.pinned (.plain (OpenSpec.ofChange fnExactPerPageSpec)) fnExactPerPageCard

/-- THE TIED CARD OF 'laws.FnExactWaste'. -/
def fnExactWasteCard : Claim7 := { stood := { row := fnExactWasteRow, standIns := [], harness := (true, "66bdfba32feeabf4db39da1f58bda3010c03718b614ae8e0b39804eadf62b208"), looks := false }, kinds := [], alts := [], laidByText := true, laidKinds := [.data], laidTests := true, laidLooks := .later }
def FnExactWasteCardSaid : Prop := Claim7.holds Tryd.pinned (.plain (OpenSpec.ofChange fnExactWasteSpec)) fnExactWasteCard

/-- THE TIED CARD OF 'laws.FnSpots'. -/
def fnSpotsCard : Claim7 := { stood := { row := fnSpotsRow, standIns := [], harness := (true, "66bdfba32feeabf4db39da1f58bda3010c03718b614ae8e0b39804eadf62b208"), looks := false }, kinds := [], alts := [], laidByText := true, laidKinds := [.data], laidTests := true, laidLooks := .later }
def FnSpotsCardSaid : Prop := Claim7.holds Tryd.pinned (.plain (OpenSpec.ofChange fnSpotsSpec)) fnSpotsCard

/-- THE TIED CARD OF 'laws.FnExactGenAt'. -/
def fnExactGenAtCard : Claim7 := { stood := { row := fnExactGenAtRow, standIns := [], harness := (true, "66bdfba32feeabf4db39da1f58bda3010c03718b614ae8e0b39804eadf62b208"), looks := false }, kinds := [], alts := [], laidByText := true, laidKinds := [.data], laidTests := true, laidLooks := .later }
def FnExactGenAtCardSaid : Prop := Claim7.holds Tryd.pinned (.plain (OpenSpec.ofChange fnExactGenAtSpec)) fnExactGenAtCard

/-- THE TIED CARD OF 'laws.FnExactStartOf'. -/
def fnExactStartOfCard : Claim7 := { stood := { row := fnExactStartOfRow, standIns := [], harness := (true, "66bdfba32feeabf4db39da1f58bda3010c03718b614ae8e0b39804eadf62b208"), looks := false }, kinds := [], alts := [], laidByText := true, laidKinds := [.data], laidTests := true, laidLooks := .later }
def FnExactStartOfCardSaid : Prop := Claim7.holds Tryd.pinned (.plain (OpenSpec.ofChange fnExactStartOfSpec)) fnExactStartOfCard

/-- THE TIED CARD OF 'laws.FnExactRangeOf'. -/
def fnExactRangeOfCard : Claim7 := { stood := { row := fnExactRangeOfRow, standIns := [], harness := (true, "66bdfba32feeabf4db39da1f58bda3010c03718b614ae8e0b39804eadf62b208"), looks := false }, kinds := [], alts := [], laidByText := true, laidKinds := [.data], laidTests := true, laidLooks := .later }
def FnExactRangeOfCardSaid : Prop := Claim7.holds Tryd.pinned (.plain (OpenSpec.ofChange fnExactRangeOfSpec)) fnExactRangeOfCard

/-- THE SECOND FORM's CARD OF 'laws.FnExactClassOf'. -/
def fnExactClassOfUptoCard : Claim7 := { stood := { row := fnExactClassOfUptoRow, standIns := [], harness := (true, "66bdfba32feeabf4db39da1f58bda3010c03718b614ae8e0b39804eadf62b208"), looks := false }, kinds := [], alts := [], laidByText := true, laidKinds := [.data], laidTests := true, laidLooks := .later }
def FnExactClassOfUptoCardSaid : Prop := Claim7.holds Tryd.pinned (.plain (OpenSpec.upto fnExactClassOfSpec)) fnExactClassOfUptoCard

/-- THE SECOND FORM's CARD OF 'laws.FnExactStrideOf'. -/
def fnExactStrideOfUptoCard : Claim7 := { stood := { row := fnExactStrideOfUptoRow, standIns := [], harness := (true, "66bdfba32feeabf4db39da1f58bda3010c03718b614ae8e0b39804eadf62b208"), looks := false }, kinds := [], alts := [], laidByText := true, laidKinds := [.data], laidTests := true, laidLooks := .later }
def FnExactStrideOfUptoCardSaid : Prop := Claim7.holds Tryd.pinned (.plain (OpenSpec.upto fnExactStrideOfSpec)) fnExactStrideOfUptoCard

/-- THE SECOND FORM's CARD OF 'laws.FnExactPerPage'. -/
def fnExactPerPageUptoCard : Claim7 := { stood := { row := fnExactPerPageUptoRow, standIns := [], harness := (true, "66bdfba32feeabf4db39da1f58bda3010c03718b614ae8e0b39804eadf62b208"), looks := false }, kinds := [], alts := [], laidByText := true, laidKinds := [.data], laidTests := true, laidLooks := .later }
def FnExactPerPageUptoCardSaid : Prop := Claim7.holds Tryd.pinned (.plain (OpenSpec.upto fnExactPerPageSpec)) fnExactPerPageUptoCard

/-- THE SECOND FORM's CARD OF 'laws.FnExactWaste'. -/
def fnExactWasteUptoCard : Claim7 := { stood := { row := fnExactWasteUptoRow, standIns := [], harness := (true, "66bdfba32feeabf4db39da1f58bda3010c03718b614ae8e0b39804eadf62b208"), looks := false }, kinds := [], alts := [], laidByText := true, laidKinds := [.data], laidTests := true, laidLooks := .later }
def FnExactWasteUptoCardSaid : Prop := Claim7.holds Tryd.pinned (.plain (OpenSpec.upto fnExactWasteSpec)) fnExactWasteUptoCard

/-- THE SECOND FORM's CARD OF 'laws.FnSpots'. -/
def fnSpotsUptoCard : Claim7 := { stood := { row := fnSpotsUptoRow, standIns := [], harness := (true, "66bdfba32feeabf4db39da1f58bda3010c03718b614ae8e0b39804eadf62b208"), looks := false }, kinds := [], alts := [], laidByText := true, laidKinds := [.data], laidTests := true, laidLooks := .later }
def FnSpotsUptoCardSaid : Prop := Claim7.holds Tryd.pinned (.plain (OpenSpec.upto fnSpotsSpec)) fnSpotsUptoCard

/-- THE SECOND FORM's CARD OF 'laws.FnExactGenAt'. -/
def fnExactGenAtUptoCard : Claim7 := { stood := { row := fnExactGenAtUptoRow, standIns := [], harness := (true, "66bdfba32feeabf4db39da1f58bda3010c03718b614ae8e0b39804eadf62b208"), looks := false }, kinds := [], alts := [], laidByText := true, laidKinds := [.data], laidTests := true, laidLooks := .later }
def FnExactGenAtUptoCardSaid : Prop := Claim7.holds Tryd.pinned (.plain (OpenSpec.upto fnExactGenAtSpec)) fnExactGenAtUptoCard

/-- THE SECOND FORM's CARD OF 'laws.FnExactStartOf'. -/
def fnExactStartOfUptoCard : Claim7 := { stood := { row := fnExactStartOfUptoRow, standIns := [], harness := (true, "66bdfba32feeabf4db39da1f58bda3010c03718b614ae8e0b39804eadf62b208"), looks := false }, kinds := [], alts := [], laidByText := true, laidKinds := [.data], laidTests := true, laidLooks := .later }
def FnExactStartOfUptoCardSaid : Prop := Claim7.holds Tryd.pinned (.plain (OpenSpec.upto fnExactStartOfSpec)) fnExactStartOfUptoCard

/-- THE SECOND FORM's CARD OF 'laws.FnExactRangeOf'. -/
def fnExactRangeOfUptoCard : Claim7 := { stood := { row := fnExactRangeOfUptoRow, standIns := [], harness := (true, "66bdfba32feeabf4db39da1f58bda3010c03718b614ae8e0b39804eadf62b208"), looks := false }, kinds := [], alts := [], laidByText := true, laidKinds := [.data], laidTests := true, laidLooks := .later }
def FnExactRangeOfUptoCardSaid : Prop := Claim7.holds Tryd.pinned (.plain (OpenSpec.upto fnExactRangeOfSpec)) fnExactRangeOfUptoCard
end Rows
end Go.Proofs.YthnihgnboelipabDoor
