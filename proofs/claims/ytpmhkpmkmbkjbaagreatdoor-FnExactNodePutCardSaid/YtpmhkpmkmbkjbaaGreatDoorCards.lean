/-
  DERIVED. GIVEN WITH THE SEED: THE CARDS: each row of YtpmhkpmkmbkjbaaGreatDoorRows.lean that lists a variable, with what it lists TIED to the program's text (the seventh form; the later family's looks); each row that meets fmt, with fmt's text TOLD by the authors' own Lean function (tested against real Go, not proved from fmt's source: count such statements apart). THE CARD IS WHAT COUNTS. Prove the row's statement (the work); the ties are given (YtpmhkpmkmbkjbaaGreatDoorTie.lean); close each card by the builder's one call (the guide's Derived/Test/ToyasCard.lean, 'card_holds'). Laid BY PROGRAM, IN A SANDBOX (cutbox-door.mjs). By AI agents, Wed Nov 11 2026. No macro, syntax, notation, axiom, sorry.
-/
import Derived.Test.YtpmhkpmkmbkjbaaGreatDoorRows
import GoSem.ClaimSeven
namespace Go.Proofs.YtpmhkpmkmbkjbaaGreatDoor
namespace Rows

/-- THE TIED CARD OF 'laws.FnExactStoreIn'. -/
def fnExactStoreInCard : Claim7 := { stood := { row := fnExactStoreInRow, standIns := [], harness := (true, "b8a23f63c4e14e088a4cd37d448075290e9c773756291252b44901675e5e8249"), looks := false }, kinds := [], alts := [], laidByText := true, laidKinds := [.data], laidTests := true, laidLooks := .later }
def FnExactStoreInCardSaid : Prop := Claim7.holds Tryz.pinned (.plain (OpenSpec.ofChange fnExactStoreInSpec)) fnExactStoreInCard

/-- THE TIED CARD OF 'laws.FnExactNodePut'. -/
def fnExactNodePutCard : Claim7 := { stood := { row := fnExactNodePutRow, standIns := [], harness := (true, "b8a23f63c4e14e088a4cd37d448075290e9c773756291252b44901675e5e8249"), looks := false }, kinds := [], alts := [], laidByText := true, laidKinds := [.data], laidTests := true, laidLooks := .later }
def FnExactNodePutCardSaid : Prop := Claim7.holds Tryz.pinned (.plain (OpenSpec.ofChange fnExactNodePutSpec)) fnExactNodePutCard

/-- THE TIED CARD OF 'laws.FnExactNextTo'. -/
def fnExactNextToCard : Claim7 := { stood := { row := fnExactNextToRow, standIns := [], harness := (true, "b8a23f63c4e14e088a4cd37d448075290e9c773756291252b44901675e5e8249"), looks := false }, kinds := [], alts := [], laidByText := true, laidKinds := [.data], laidTests := true, laidLooks := .later }
def FnExactNextToCardSaid : Prop := Claim7.holds Tryz.pinned (.plain (OpenSpec.ofChange fnExactNextToSpec)) fnExactNextToCard

/-- THE TIED CARD OF 'laws.FnExactBaseOk'. -/
def fnExactBaseOkCard : Claim7 := { stood := { row := fnExactBaseOkRow, standIns := [], harness := (true, "b8a23f63c4e14e088a4cd37d448075290e9c773756291252b44901675e5e8249"), looks := false }, kinds := [], alts := [], laidByText := true, laidKinds := [.data], laidTests := true, laidLooks := .later }
def FnExactBaseOkCardSaid : Prop := Claim7.holds Tryz.pinned (.plain (OpenSpec.ofChange fnExactBaseOkSpec)) fnExactBaseOkCard

/-- THE TIED CARD OF 'laws.FnExactWhere'. -/
def fnExactWhereCard : Claim7 := { stood := { row := fnExactWhereRow, standIns := [], harness := (true, "b8a23f63c4e14e088a4cd37d448075290e9c773756291252b44901675e5e8249"), looks := false }, kinds := [], alts := [], laidByText := true, laidKinds := [.data], laidTests := true, laidLooks := .later }
def FnExactWhereCardSaid : Prop := Claim7.holds Tryz.pinned (.plain (OpenSpec.ofChange fnExactWhereSpec)) fnExactWhereCard

/-- THE TIED CARD OF 'laws.FnExactTally'. -/
def fnExactTallyCard : Claim7 := { stood := { row := fnExactTallyRow, standIns := [], harness := (true, "b8a23f63c4e14e088a4cd37d448075290e9c773756291252b44901675e5e8249"), looks := false }, kinds := [], alts := [], laidByText := true, laidKinds := [.data], laidTests := true, laidLooks := .later }
def FnExactTallyCardSaid : Prop := Claim7.holds Tryz.pinned (.plain (OpenSpec.ofChange fnExactTallySpec)) fnExactTallyCard

/-- THE TIED CARD OF 'laws.FnExactFreeNow'. -/
def fnExactFreeNowCard : Claim7 := { stood := { row := fnExactFreeNowRow, standIns := [], harness := (true, "b8a23f63c4e14e088a4cd37d448075290e9c773756291252b44901675e5e8249"), looks := false }, kinds := [], alts := [], laidByText := true, laidKinds := [.data], laidTests := true, laidLooks := .later }
def FnExactFreeNowCardSaid : Prop := Claim7.holds Tryz.pinned (.plain (OpenSpec.ofChange fnExactFreeNowSpec)) fnExactFreeNowCard

/-- THE TIED CARD OF 'laws.FnExactAllocNow'. -/
def fnExactAllocNowCard : Claim7 := { stood := { row := fnExactAllocNowRow, standIns := [], harness := (true, "b8a23f63c4e14e088a4cd37d448075290e9c773756291252b44901675e5e8249"), looks := false }, kinds := [], alts := [], laidByText := true, laidKinds := [.data], laidTests := true, laidLooks := .later }
def FnExactAllocNowCardSaid : Prop := Claim7.holds Tryz.pinned (.plain (OpenSpec.ofChange fnExactAllocNowSpec)) fnExactAllocNowCard

/-- THE SECOND FORM's CARD OF 'laws.FnExactStoreIn'. -/
def fnExactStoreInUptoCard : Claim7 := { stood := { row := fnExactStoreInUptoRow, standIns := [], harness := (true, "b8a23f63c4e14e088a4cd37d448075290e9c773756291252b44901675e5e8249"), looks := false }, kinds := [], alts := [], laidByText := true, laidKinds := [.data], laidTests := true, laidLooks := .later }
def FnExactStoreInUptoCardSaid : Prop := Claim7.holds Tryz.pinned (.plain (OpenSpec.upto fnExactStoreInSpec)) fnExactStoreInUptoCard

/-- THE SECOND FORM's CARD OF 'laws.FnExactNodePut'. -/
def fnExactNodePutUptoCard : Claim7 := { stood := { row := fnExactNodePutUptoRow, standIns := [], harness := (true, "b8a23f63c4e14e088a4cd37d448075290e9c773756291252b44901675e5e8249"), looks := false }, kinds := [], alts := [], laidByText := true, laidKinds := [.data], laidTests := true, laidLooks := .later }
def FnExactNodePutUptoCardSaid : Prop := Claim7.holds Tryz.pinned (.plain (OpenSpec.upto fnExactNodePutSpec)) fnExactNodePutUptoCard

/-- THE SECOND FORM's CARD OF 'laws.FnExactNextTo'. -/
def fnExactNextToUptoCard : Claim7 := { stood := { row := fnExactNextToUptoRow, standIns := [], harness := (true, "b8a23f63c4e14e088a4cd37d448075290e9c773756291252b44901675e5e8249"), looks := false }, kinds := [], alts := [], laidByText := true, laidKinds := [.data], laidTests := true, laidLooks := .later }
def FnExactNextToUptoCardSaid : Prop := Claim7.holds Tryz.pinned (.plain (OpenSpec.upto fnExactNextToSpec)) fnExactNextToUptoCard

/-- THE SECOND FORM's CARD OF 'laws.FnExactBaseOk'. -/
def fnExactBaseOkUptoCard : Claim7 := { stood := { row := fnExactBaseOkUptoRow, standIns := [], harness := (true, "b8a23f63c4e14e088a4cd37d448075290e9c773756291252b44901675e5e8249"), looks := false }, kinds := [], alts := [], laidByText := true, laidKinds := [.data], laidTests := true, laidLooks := .later }
def FnExactBaseOkUptoCardSaid : Prop := Claim7.holds Tryz.pinned (.plain (OpenSpec.upto fnExactBaseOkSpec)) fnExactBaseOkUptoCard

/-- THE SECOND FORM's CARD OF 'laws.FnExactWhere'. -/
def fnExactWhereUptoCard : Claim7 := { stood := { row := fnExactWhereUptoRow, standIns := [], harness := (true, "b8a23f63c4e14e088a4cd37d448075290e9c773756291252b44901675e5e8249"), looks := false }, kinds := [], alts := [], laidByText := true, laidKinds := [.data], laidTests := true, laidLooks := .later }
def FnExactWhereUptoCardSaid : Prop := Claim7.holds Tryz.pinned (.plain (OpenSpec.upto fnExactWhereSpec)) fnExactWhereUptoCard

/-- THE SECOND FORM's CARD OF 'laws.FnExactTally'. -/
def fnExactTallyUptoCard : Claim7 := { stood := { row := fnExactTallyUptoRow, standIns := [], harness := (true, "b8a23f63c4e14e088a4cd37d448075290e9c773756291252b44901675e5e8249"), looks := false }, kinds := [], alts := [], laidByText := true, laidKinds := [.data], laidTests := true, laidLooks := .later }
def FnExactTallyUptoCardSaid : Prop := Claim7.holds Tryz.pinned (.plain (OpenSpec.upto fnExactTallySpec)) fnExactTallyUptoCard

/-- THE SECOND FORM's CARD OF 'laws.FnExactFreeNow'. -/
def fnExactFreeNowUptoCard : Claim7 := { stood := { row := fnExactFreeNowUptoRow, standIns := [], harness := (true, "b8a23f63c4e14e088a4cd37d448075290e9c773756291252b44901675e5e8249"), looks := false }, kinds := [], alts := [], laidByText := true, laidKinds := [.data], laidTests := true, laidLooks := .later }
def FnExactFreeNowUptoCardSaid : Prop := Claim7.holds Tryz.pinned (.plain (OpenSpec.upto fnExactFreeNowSpec)) fnExactFreeNowUptoCard

/-- THE SECOND FORM's CARD OF 'laws.FnExactAllocNow'. -/
def fnExactAllocNowUptoCard : Claim7 := { stood := { row := fnExactAllocNowUptoRow, standIns := [], harness := (true, "b8a23f63c4e14e088a4cd37d448075290e9c773756291252b44901675e5e8249"), looks := false }, kinds := [], alts := [], laidByText := true, laidKinds := [.data], laidTests := true, laidLooks := .later }
def FnExactAllocNowUptoCardSaid : Prop := Claim7.holds Tryz.pinned (.plain (OpenSpec.upto fnExactAllocNowSpec)) fnExactAllocNowUptoCard
end Rows
end Go.Proofs.YtpmhkpmkmbkjbaaGreatDoor
