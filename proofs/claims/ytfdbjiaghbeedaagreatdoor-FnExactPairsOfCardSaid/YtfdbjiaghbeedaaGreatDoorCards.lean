/-
  DERIVED. GIVEN WITH THE SEED: THE CARDS: each row of YtfdbjiaghbeedaaGreatDoorRows.lean that lists a variable, with what it lists TIED to the program's text (the seventh form; the later family's looks); each row that meets fmt, with fmt's text TOLD by the authors' own Lean function (tested against real Go, not proved from fmt's source: count such statements apart). THE CARD IS WHAT COUNTS. Prove the row's statement (the work); the ties are given (YtfdbjiaghbeedaaGreatDoorTie.lean); close each card by the builder's one call (the guide's Derived/Test/ToyasCard.lean, 'card_holds'). Laid BY PROGRAM, IN A SANDBOX (cutbox-door.mjs). By AI agents, Wed Nov 11 2026. No macro, syntax, notation, axiom, sorry.
-/
import Derived.Test.YtfdbjiaghbeedaaGreatDoorRows
import GoSem.ClaimSeven
namespace Go.Proofs.YtfdbjiaghbeedaaGreatDoor
namespace Rows

/-- THE TIED CARD OF 'laws.FnExactChainOf'. -/
def fnExactChainOfCard : Claim7 := { stood := { row := fnExactChainOfRow, standIns := [], harness := (true, "5878f17d74934a5240c27cf29f8bb65a072004426fb37efb506aaabefede6db9"), looks := false }, kinds := [], alts := [], laidByText := true, laidKinds := [.data], laidTests := true, laidLooks := .later }
def FnExactChainOfCardSaid : Prop := Claim7.holds Tryz.pinned (.plain (OpenSpec.ofChange fnExactChainOfSpec)) fnExactChainOfCard

/-- THE TIED CARD OF 'laws.FnExactSeek'. -/
def fnExactSeekCard : Claim7 := { stood := { row := fnExactSeekRow, standIns := [], harness := (true, "5878f17d74934a5240c27cf29f8bb65a072004426fb37efb506aaabefede6db9"), looks := false }, kinds := [], alts := [], laidByText := true, laidKinds := [.data], laidTests := true, laidLooks := .later }
def FnExactSeekCardSaid : Prop := Claim7.holds Tryz.pinned (.plain (OpenSpec.ofChange fnExactSeekSpec)) fnExactSeekCard

/-- THE TIED CARD OF 'laws.FnExactPairsOf'. -/
def fnExactPairsOfCard : Claim7 := { stood := { row := fnExactPairsOfRow, standIns := [], harness := (true, "5878f17d74934a5240c27cf29f8bb65a072004426fb37efb506aaabefede6db9"), looks := false }, kinds := [], alts := [], laidByText := true, laidKinds := [.data], laidTests := true, laidLooks := .later }
def FnExactPairsOfCardSaid : Prop := Claim7.holds Tryz.pinned (.plain (OpenSpec.ofChange fnExactPairsOfSpec)) fnExactPairsOfCard

/-- THE TIED CARD OF 'laws.FnExactLinkIn'. -/
def fnExactLinkInCard : Claim7 := { stood := { row := fnExactLinkInRow, standIns := [], harness := (true, "5878f17d74934a5240c27cf29f8bb65a072004426fb37efb506aaabefede6db9"), looks := false }, kinds := [], alts := [], laidByText := true, laidKinds := [.data], laidTests := true, laidLooks := .later }
def FnExactLinkInCardSaid : Prop := Claim7.holds Tryz.pinned (.plain (OpenSpec.ofChange fnExactLinkInSpec)) fnExactLinkInCard

/-- THE TIED CARD OF 'laws.FnExactUnlink'. -/
def fnExactUnlinkCard : Claim7 := { stood := { row := fnExactUnlinkRow, standIns := [], harness := (true, "5878f17d74934a5240c27cf29f8bb65a072004426fb37efb506aaabefede6db9"), looks := false }, kinds := [], alts := [], laidByText := true, laidKinds := [.data], laidTests := true, laidLooks := .later }
def FnExactUnlinkCardSaid : Prop := Claim7.holds Tryz.pinned (.plain (OpenSpec.ofChange fnExactUnlinkSpec)) fnExactUnlinkCard

/-- THE TIED CARD OF 'laws.FnExactAllocNow'. -/
def fnExactAllocNowCard : Claim7 := { stood := { row := fnExactAllocNowRow, standIns := [], harness := (true, "5878f17d74934a5240c27cf29f8bb65a072004426fb37efb506aaabefede6db9"), looks := false }, kinds := [], alts := [], laidByText := true, laidKinds := [.data], laidTests := true, laidLooks := .later }
def FnExactAllocNowCardSaid : Prop := Claim7.holds Tryz.pinned (.plain (OpenSpec.ofChange fnExactAllocNowSpec)) fnExactAllocNowCard

/-- THE TIED CARD OF 'laws.FnExactRanges'. -/
def fnExactRangesCard : Claim7 := { stood := { row := fnExactRangesRow, standIns := [], harness := (true, "5878f17d74934a5240c27cf29f8bb65a072004426fb37efb506aaabefede6db9"), looks := false }, kinds := [], alts := [], laidByText := true, laidKinds := [.data], laidTests := true, laidLooks := .later }
def FnExactRangesCardSaid : Prop := Claim7.holds Tryz.pinned (.plain (OpenSpec.ofChange fnExactRangesSpec)) fnExactRangesCard

/-- THE SECOND FORM's CARD OF 'laws.FnExactChainOf'. -/
def fnExactChainOfUptoCard : Claim7 := { stood := { row := fnExactChainOfUptoRow, standIns := [], harness := (true, "5878f17d74934a5240c27cf29f8bb65a072004426fb37efb506aaabefede6db9"), looks := false }, kinds := [], alts := [], laidByText := true, laidKinds := [.data], laidTests := true, laidLooks := .later }
def FnExactChainOfUptoCardSaid : Prop := Claim7.holds Tryz.pinned (.plain (OpenSpec.upto fnExactChainOfSpec)) fnExactChainOfUptoCard

/-- THE SECOND FORM's CARD OF 'laws.FnExactSeek'. -/
def fnExactSeekUptoCard : Claim7 := { stood := { row := fnExactSeekUptoRow, standIns := [], harness := (true, "5878f17d74934a5240c27cf29f8bb65a072004426fb37efb506aaabefede6db9"), looks := false }, kinds := [], alts := [], laidByText := true, laidKinds := [.data], laidTests := true, laidLooks := .later }
def FnExactSeekUptoCardSaid : Prop := Claim7.holds Tryz.pinned (.plain (OpenSpec.upto fnExactSeekSpec)) fnExactSeekUptoCard

/-- THE SECOND FORM's CARD OF 'laws.FnExactPairsOf'. -/
def fnExactPairsOfUptoCard : Claim7 := { stood := { row := fnExactPairsOfUptoRow, standIns := [], harness := (true, "5878f17d74934a5240c27cf29f8bb65a072004426fb37efb506aaabefede6db9"), looks := false }, kinds := [], alts := [], laidByText := true, laidKinds := [.data], laidTests := true, laidLooks := .later }
def FnExactPairsOfUptoCardSaid : Prop := Claim7.holds Tryz.pinned (.plain (OpenSpec.upto fnExactPairsOfSpec)) fnExactPairsOfUptoCard

/-- THE SECOND FORM's CARD OF 'laws.FnExactLinkIn'. -/
def fnExactLinkInUptoCard : Claim7 := { stood := { row := fnExactLinkInUptoRow, standIns := [], harness := (true, "5878f17d74934a5240c27cf29f8bb65a072004426fb37efb506aaabefede6db9"), looks := false }, kinds := [], alts := [], laidByText := true, laidKinds := [.data], laidTests := true, laidLooks := .later }
def FnExactLinkInUptoCardSaid : Prop := Claim7.holds Tryz.pinned (.plain (OpenSpec.upto fnExactLinkInSpec)) fnExactLinkInUptoCard

/-- THE SECOND FORM's CARD OF 'laws.FnExactUnlink'. -/
def fnExactUnlinkUptoCard : Claim7 := { stood := { row := fnExactUnlinkUptoRow, standIns := [], harness := (true, "5878f17d74934a5240c27cf29f8bb65a072004426fb37efb506aaabefede6db9"), looks := false }, kinds := [], alts := [], laidByText := true, laidKinds := [.data], laidTests := true, laidLooks := .later }
def FnExactUnlinkUptoCardSaid : Prop := Claim7.holds Tryz.pinned (.plain (OpenSpec.upto fnExactUnlinkSpec)) fnExactUnlinkUptoCard

/-- THE SECOND FORM's CARD OF 'laws.FnExactAllocNow'. -/
def fnExactAllocNowUptoCard : Claim7 := { stood := { row := fnExactAllocNowUptoRow, standIns := [], harness := (true, "5878f17d74934a5240c27cf29f8bb65a072004426fb37efb506aaabefede6db9"), looks := false }, kinds := [], alts := [], laidByText := true, laidKinds := [.data], laidTests := true, laidLooks := .later }
def FnExactAllocNowUptoCardSaid : Prop := Claim7.holds Tryz.pinned (.plain (OpenSpec.upto fnExactAllocNowSpec)) fnExactAllocNowUptoCard

/-- THE SECOND FORM's CARD OF 'laws.FnExactRanges'. -/
def fnExactRangesUptoCard : Claim7 := { stood := { row := fnExactRangesUptoRow, standIns := [], harness := (true, "5878f17d74934a5240c27cf29f8bb65a072004426fb37efb506aaabefede6db9"), looks := false }, kinds := [], alts := [], laidByText := true, laidKinds := [.data], laidTests := true, laidLooks := .later }
def FnExactRangesUptoCardSaid : Prop := Claim7.holds Tryz.pinned (.plain (OpenSpec.upto fnExactRangesSpec)) fnExactRangesUptoCard
end Rows
end Go.Proofs.YtfdbjiaghbeedaaGreatDoor
