/-
  DERIVED. GIVEN WITH THE SEED: THE CARDS: each row of YthnihgnboelipaeDoorRows.lean that lists a variable, with what it lists TIED to the program's text (the seventh form; the later family's looks); each row that meets fmt, with fmt's text TOLD by the authors' own Lean function (tested against real Go, not proved from fmt's source: count such statements apart). THE CARD IS WHAT COUNTS. Prove the row's statement (the work); the ties are given (YthnihgnboelipaeDoorTie.lean); close each card by the builder's one call (the guide's Derived/Test/ToyasCard.lean, 'card_holds'). Laid BY PROGRAM, IN A SANDBOX (cutbox-door.mjs). By AI agents, Wed Nov 11 2026. No macro, syntax, notation, axiom, sorry.
-/
import Derived.Test.YthnihgnboelipaeDoorRows
import GoSem.ClaimSeven
namespace Go.Proofs.YthnihgnboelipaeDoor
namespace Rows

/-- THE TIED CARD OF 'laws.FnNoReuse'. -/
def fnNoReuseCard : Claim7 := { stood := { row := fnNoReuseRow, standIns := [], harness := (true, "aee0c7d0b0f2da3c713347adc3f2ddbbad5697fe70012fa527d3d1c2d57ae018"), looks := false }, kinds := [], alts := [], laidByText := true, laidKinds := [.data], laidTests := true, laidLooks := .later }
def FnNoReuseCardSaid : Prop := Claim7.holds Tryd.pinned (.plain (OpenSpec.ofChange fnNoReuseSpec)) fnNoReuseCard

/-- THE TIED CARD OF 'laws.FnExactCodeWord'. -/
def fnExactCodeWordCard : Claim7 := { stood := { row := fnExactCodeWordRow, standIns := [], harness := (true, "aee0c7d0b0f2da3c713347adc3f2ddbbad5697fe70012fa527d3d1c2d57ae018"), looks := false }, kinds := [], alts := [], laidByText := true, laidKinds := [.data], laidTests := true, laidLooks := .later }
def FnExactCodeWordCardSaid : Prop := Claim7.holds Tryd.pinned (.plain (OpenSpec.ofChange fnExactCodeWordSpec)) fnExactCodeWordCard

/-- THE TIED CARD OF 'laws.FnExactMemOk'. -/
def fnExactMemOkCard : Claim7 := { stood := { row := fnExactMemOkRow, standIns := [], harness := (true, "aee0c7d0b0f2da3c713347adc3f2ddbbad5697fe70012fa527d3d1c2d57ae018"), looks := false }, kinds := [], alts := [], laidByText := true, laidKinds := [.data], laidTests := true, laidLooks := .later }
def FnExactMemOkCardSaid : Prop := Claim7.holds Tryd.pinned (.plain (OpenSpec.ofChange fnExactMemOkSpec)) fnExactMemOkCard

/-- THE TIED CARD OF 'laws.FnExactStateOf'. -/
def fnExactStateOfCard : Claim7 := { stood := { row := fnExactStateOfRow, standIns := [], harness := (true, "aee0c7d0b0f2da3c713347adc3f2ddbbad5697fe70012fa527d3d1c2d57ae018"), looks := false }, kinds := [], alts := [], laidByText := true, laidKinds := [.data], laidTests := true, laidLooks := .later }
def FnExactStateOfCardSaid : Prop := Claim7.holds Tryd.pinned (.plain (OpenSpec.ofChange fnExactStateOfSpec)) fnExactStateOfCard

/-- THE TIED CARD OF 'laws.FnExactCounts'. -/
def fnExactCountsCard : Claim7 := { stood := { row := fnExactCountsRow, standIns := [], harness := (true, "aee0c7d0b0f2da3c713347adc3f2ddbbad5697fe70012fa527d3d1c2d57ae018"), looks := false }, kinds := [], alts := [], laidByText := true, laidKinds := [.data], laidTests := true, laidLooks := .later }
def FnExactCountsCardSaid : Prop := Claim7.holds Tryd.pinned (.plain (OpenSpec.ofChange fnExactCountsSpec)) fnExactCountsCard

/-- THE SECOND FORM's CARD OF 'laws.FnNoReuse'. -/
def fnNoReuseUptoCard : Claim7 := { stood := { row := fnNoReuseUptoRow, standIns := [], harness := (true, "aee0c7d0b0f2da3c713347adc3f2ddbbad5697fe70012fa527d3d1c2d57ae018"), looks := false }, kinds := [], alts := [], laidByText := true, laidKinds := [.data], laidTests := true, laidLooks := .later }
def FnNoReuseUptoCardSaid : Prop := Claim7.holds Tryd.pinned (.plain (OpenSpec.upto fnNoReuseSpec)) fnNoReuseUptoCard

/-- THE SECOND FORM's CARD OF 'laws.FnExactCodeWord'. -/
def fnExactCodeWordUptoCard : Claim7 := { stood := { row := fnExactCodeWordUptoRow, standIns := [], harness := (true, "aee0c7d0b0f2da3c713347adc3f2ddbbad5697fe70012fa527d3d1c2d57ae018"), looks := false }, kinds := [], alts := [], laidByText := true, laidKinds := [.data], laidTests := true, laidLooks := .later }
def FnExactCodeWordUptoCardSaid : Prop := Claim7.holds Tryd.pinned (.plain (OpenSpec.upto fnExactCodeWordSpec)) fnExactCodeWordUptoCard

/-- THE SECOND FORM's CARD OF 'laws.FnExactMemOk'. -/
def fnExactMemOkUptoCard : Claim7 := { stood := { row := fnExactMemOkUptoRow, standIns := [], harness := (true, "aee0c7d0b0f2da3c713347adc3f2ddbbad5697fe70012fa527d3d1c2d57ae018"), looks := false }, kinds := [], alts := [], laidByText := true, laidKinds := [.data], laidTests := true, laidLooks := .later }
def FnExactMemOkUptoCardSaid : Prop := Claim7.holds Tryd.pinned (.plain (OpenSpec.upto fnExactMemOkSpec)) fnExactMemOkUptoCard

/-- THE SECOND FORM's CARD OF 'laws.FnExactStateOf'. -/
def fnExactStateOfUptoCard : Claim7 := { stood := { row := fnExactStateOfUptoRow, standIns := [], harness := (true, "aee0c7d0b0f2da3c713347adc3f2ddbbad5697fe70012fa527d3d1c2d57ae018"), looks := false }, kinds := [], alts := [], laidByText := true, laidKinds := [.data], laidTests := true, laidLooks := .later }
def FnExactStateOfUptoCardSaid : Prop := Claim7.holds Tryd.pinned (.plain (OpenSpec.upto fnExactStateOfSpec)) fnExactStateOfUptoCard

/-- THE SECOND FORM's CARD OF 'laws.FnExactCounts'. -/
def fnExactCountsUptoCard : Claim7 := { stood := { row := fnExactCountsUptoRow, standIns := [], harness := (true, "aee0c7d0b0f2da3c713347adc3f2ddbbad5697fe70012fa527d3d1c2d57ae018"), looks := false }, kinds := [], alts := [], laidByText := true, laidKinds := [.data], laidTests := true, laidLooks := .later }
def FnExactCountsUptoCardSaid : Prop := Claim7.holds Tryd.pinned (.plain (OpenSpec.upto fnExactCountsSpec)) fnExactCountsUptoCard
end Rows
end Go.Proofs.YthnihgnboelipaeDoor
