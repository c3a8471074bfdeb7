/-
  NARROWER THAN 'FOR EVERY INPUT', by the rows' own cells (each row's printed sentence says how): FnExactStoreIn: laid · FnExactNodePut: laid · FnExactNextTo: laid · FnExactBaseOk: laid · FnExactWhere: laid · FnExactTally: laid · FnExactFreeNow: laid · FnExactAllocNow: laid.
  DERIVED. THE GIVEN ROWS OF THIS SEAT. 8 by the template 'for every input the law returns true; each argument reads behind the call as it read before'; 0 by the template 'total and deterministic' (their statements: YtpmhkpmkmbkjbaaGreatDoorTotals.lean).
  GIVEN WITH THE SEED: the statements are not yours to turn. If you find one false, say at which input.
  Laid BY PROGRAM, IN A SANDBOX (cutbox-rows.mjs): the forced cells as the released guide's own fill.sh prints them over the translation 7590ae7c8c3498ed… (all of the seat's roots in one cut). By AI agents, Wed Nov 11 2026. No macro, syntax, notation, axiom, sorry.
-/
import Derived.Test.YtpmhkpmkmbkjbaaGreatDoorChecked
import GoSem.Claim
import GoSem.ClaimJoined
import GoSem.ClaimMapViews
import Derived.JoinedTies
import Derived.KernelRfl
namespace Go.Proofs.YtpmhkpmkmbkjbaaGreatDoor
/- THE CELL 'sum', in the pinned program and in every row, IS THE sha256 OF THE DUMP (.gsa) THAT YtpmhkpmkmbkjbaaGreatDoorProg.lean LOADS. Nothing in Lean hashes anything: it is a label: what it is worth is what the hold of that sum in a sandbox is worth. -/
noncomputable def Tryz.pinned : Pinned := { name := "ytpmhkpmkmbkjbaagreatdoor", sum := "7590ae7c8c3498ede24bf9b7c8900aa9ac1324209a87d406d65ac565a47a5aeb", checked := Tryz.checked }
namespace Rows
def none {H : Type} : Left H := { results := [], args := [] }

/- WHAT THE LISTED PACKAGE-LEVEL VARIABLES READ AS WHEN THE CALL BEGINS. Each datum BY PROGRAM (the guide's laid-datum.mjs) off the statement by which the dump's own 'gosem.cut.vars' lays the variable. In a bare row this is a premise. The card (YtpmhkpmkmbkjbaaGreatDoorCards.lean) ties it to the program's text. -/
def laid_loop_example_g01538_impl_slotSizes {H : Type} : DataW H := .agg [.lit (.int .i64 8), .lit (.int .i64 16), .lit (.int .i64 40)]

/-- 'laws.FnExactStoreIn': WHATEVER THE INPUT: true; the input reads as it did. -/
def fnExactStoreInSpec : ChangeSpec := { name := "fnExactStoreIn", vars := ["loop.example/g01538/impl.slotSizes"], fn := fun _ => fun
  | [d1, d2, d3, d4, d5, g1] => { results := [.lit (.bool true)], args := [d1, d2, d3, d4, d5], vars := [g1] }
  | _ => none }
def fnExactStoreInRow : OpenClaim := { program := "ytpmhkpmkmbkjbaagreatdoor", sum := "7590ae7c8c3498ede24bf9b7c8900aa9ac1324209a87d406d65ac565a47a5aeb", func := "loop.example/g01538/laws.FnExactStoreIn", spec := "fnExactStoreIn", named := ["loop.example/g01538/impl.slotSizes"], apart := false, laid := [("loop.example/g01538/impl.slotSizes", laid_loop_example_g01538_impl_slotSizes)] }
def FnExactStoreInSaid : Prop := fnExactStoreInRow.holds Tryz.pinned (OpenSpec.ofChange fnExactStoreInSpec)

/-- ITS FALSE NEIGHBOUR: 'it returns false'. Refute it at one input. -/
def fnExactStoreInWrong : ChangeSpec := { name := "fnExactStoreIn", vars := ["loop.example/g01538/impl.slotSizes"], fn := fun _ => fun
  | [d1, d2, d3, d4, d5, g1] => { results := [.lit (.bool false)], args := [d1, d2, d3, d4, d5], vars := [g1] }
  | _ => none }
def FnExactStoreInWrongFalsely : Prop := fnExactStoreInRow.holds Tryz.pinned (OpenSpec.ofChange fnExactStoreInWrong)

/-- 'laws.FnExactNodePut': WHATEVER THE INPUT: true; the input reads as it did. -/
def fnExactNodePutSpec : ChangeSpec := { name := "fnExactNodePut", vars := ["loop.example/g01538/impl.slotSizes"], fn := fun _ => fun
  | [d1, d2, d3, g1] => { results := [.lit (.bool true)], args := [d1, d2, d3], vars := [g1] }
  | _ => none }
def fnExactNodePutRow : OpenClaim := { program := "ytpmhkpmkmbkjbaagreatdoor", sum := "7590ae7c8c3498ede24bf9b7c8900aa9ac1324209a87d406d65ac565a47a5aeb", func := "loop.example/g01538/laws.FnExactNodePut", spec := "fnExactNodePut", named := ["loop.example/g01538/impl.slotSizes"], apart := false, laid := [("loop.example/g01538/impl.slotSizes", laid_loop_example_g01538_impl_slotSizes)] }
def FnExactNodePutSaid : Prop := fnExactNodePutRow.holds Tryz.pinned (OpenSpec.ofChange fnExactNodePutSpec)

/-- ITS FALSE NEIGHBOUR: 'it returns false'. Refute it at one input. -/
def fnExactNodePutWrong : ChangeSpec := { name := "fnExactNodePut", vars := ["loop.example/g01538/impl.slotSizes"], fn := fun _ => fun
  | [d1, d2, d3, g1] => { results := [.lit (.bool false)], args := [d1, d2, d3], vars := [g1] }
  | _ => none }
def FnExactNodePutWrongFalsely : Prop := fnExactNodePutRow.holds Tryz.pinned (OpenSpec.ofChange fnExactNodePutWrong)

/-- 'laws.FnExactNextTo': WHATEVER THE INPUT: true; the input reads as it did. -/
def fnExactNextToSpec : ChangeSpec := { name := "fnExactNextTo", vars := ["loop.example/g01538/impl.slotSizes"], fn := fun _ => fun
  | [d1, d2, d3, g1] => { results := [.lit (.bool true)], args := [d1, d2, d3], vars := [g1] }
  | _ => none }
def fnExactNextToRow : OpenClaim := { program := "ytpmhkpmkmbkjbaagreatdoor", sum := "7590ae7c8c3498ede24bf9b7c8900aa9ac1324209a87d406d65ac565a47a5aeb", func := "loop.example/g01538/laws.FnExactNextTo", spec := "fnExactNextTo", named := ["loop.example/g01538/impl.slotSizes"], apart := false, laid := [("loop.example/g01538/impl.slotSizes", laid_loop_example_g01538_impl_slotSizes)] }
def FnExactNextToSaid : Prop := fnExactNextToRow.holds Tryz.pinned (OpenSpec.ofChange fnExactNextToSpec)

/-- ITS FALSE NEIGHBOUR: 'it returns false'. Refute it at one input. -/
def fnExactNextToWrong : ChangeSpec := { name := "fnExactNextTo", vars := ["loop.example/g01538/impl.slotSizes"], fn := fun _ => fun
  | [d1, d2, d3, g1] => { results := [.lit (.bool false)], args := [d1, d2, d3], vars := [g1] }
  | _ => none }
def FnExactNextToWrongFalsely : Prop := fnExactNextToRow.holds Tryz.pinned (OpenSpec.ofChange fnExactNextToWrong)

/-- 'laws.FnExactBaseOk': WHATEVER THE INPUT: true; the input reads as it did. -/
def fnExactBaseOkSpec : ChangeSpec := { name := "fnExactBaseOk", vars := ["loop.example/g01538/impl.slotSizes"], fn := fun _ => fun
  | [d, g1] => { results := [.lit (.bool true)], args := [d], vars := [g1] }
  | _ => none }
def fnExactBaseOkRow : OpenClaim := { program := "ytpmhkpmkmbkjbaagreatdoor", sum := "7590ae7c8c3498ede24bf9b7c8900aa9ac1324209a87d406d65ac565a47a5aeb", func := "loop.example/g01538/laws.FnExactBaseOk", spec := "fnExactBaseOk", named := ["loop.example/g01538/impl.slotSizes"], apart := false, laid := [("loop.example/g01538/impl.slotSizes", laid_loop_example_g01538_impl_slotSizes)] }
def FnExactBaseOkSaid : Prop := fnExactBaseOkRow.holds Tryz.pinned (OpenSpec.ofChange fnExactBaseOkSpec)

/-- ITS FALSE NEIGHBOUR: 'it returns false'. Refute it at one input. -/
def fnExactBaseOkWrong : ChangeSpec := { name := "fnExactBaseOk", vars := ["loop.example/g01538/impl.slotSizes"], fn := fun _ => fun
  | [d, g1] => { results := [.lit (.bool false)], args := [d], vars := [g1] }
  | _ => none }
def FnExactBaseOkWrongFalsely : Prop := fnExactBaseOkRow.holds Tryz.pinned (OpenSpec.ofChange fnExactBaseOkWrong)

/-- 'laws.FnExactWhere': WHATEVER THE INPUT: true; the input reads as it did. -/
def fnExactWhereSpec : ChangeSpec := { name := "fnExactWhere", vars := ["loop.example/g01538/impl.slotSizes"], fn := fun _ => fun
  | [d1, d2, g1] => { results := [.lit (.bool true)], args := [d1, d2], vars := [g1] }
  | _ => none }
def fnExactWhereRow : OpenClaim := { program := "ytpmhkpmkmbkjbaagreatdoor", sum := "7590ae7c8c3498ede24bf9b7c8900aa9ac1324209a87d406d65ac565a47a5aeb", func := "loop.example/g01538/laws.FnExactWhere", spec := "fnExactWhere", unfollowed := true, recurses := true, named := ["loop.example/g01538/impl.slotSizes"], apart := false, laid := [("loop.example/g01538/impl.slotSizes", laid_loop_example_g01538_impl_slotSizes)] }
def FnExactWhereSaid : Prop := fnExactWhereRow.holds Tryz.pinned (OpenSpec.ofChange fnExactWhereSpec)

/-- ITS FALSE NEIGHBOUR: 'it returns false'. Refute it at one input. -/
def fnExactWhereWrong : ChangeSpec := { name := "fnExactWhere", vars := ["loop.example/g01538/impl.slotSizes"], fn := fun _ => fun
  | [d1, d2, g1] => { results := [.lit (.bool false)], args := [d1, d2], vars := [g1] }
  | _ => none }
def FnExactWhereWrongFalsely : Prop := fnExactWhereRow.holds Tryz.pinned (OpenSpec.ofChange fnExactWhereWrong)

/-- 'laws.FnExactTally': WHATEVER THE INPUT: true; the input reads as it did. -/
def fnExactTallySpec : ChangeSpec := { name := "fnExactTally", vars := ["loop.example/g01538/impl.slotSizes"], fn := fun _ => fun
  | [d, g1] => { results := [.lit (.bool true)], args := [d], vars := [g1] }
  | _ => none }
def fnExactTallyRow : OpenClaim := { program := "ytpmhkpmkmbkjbaagreatdoor", sum := "7590ae7c8c3498ede24bf9b7c8900aa9ac1324209a87d406d65ac565a47a5aeb", func := "loop.example/g01538/laws.FnExactTally", spec := "fnExactTally", unfollowed := true, recurses := true, named := ["loop.example/g01538/impl.slotSizes"], apart := false, laid := [("loop.example/g01538/impl.slotSizes", laid_loop_example_g01538_impl_slotSizes)] }
def FnExactTallySaid : Prop := fnExactTallyRow.holds Tryz.pinned (OpenSpec.ofChange fnExactTallySpec)

/-- ITS FALSE NEIGHBOUR: 'it returns false'. Refute it at one input. -/
def fnExactTallyWrong : ChangeSpec := { name := "fnExactTally", vars := ["loop.example/g01538/impl.slotSizes"], fn := fun _ => fun
  | [d, g1] => { results := [.lit (.bool false)], args := [d], vars := [g1] }
  | _ => none }
def FnExactTallyWrongFalsely : Prop := fnExactTallyRow.holds Tryz.pinned (OpenSpec.ofChange fnExactTallyWrong)

/-- 'laws.FnExactFreeNow': WHATEVER THE INPUT: true; the input reads as it did. -/
def fnExactFreeNowSpec : ChangeSpec := { name := "fnExactFreeNow", vars := ["loop.example/g01538/impl.slotSizes"], fn := fun _ => fun
  | [d1, d2, d3, g1] => { results := [.lit (.bool true)], args := [d1, d2, d3], vars := [g1] }
  | _ => none }
def fnExactFreeNowRow : OpenClaim := { program := "ytpmhkpmkmbkjbaagreatdoor", sum := "7590ae7c8c3498ede24bf9b7c8900aa9ac1324209a87d406d65ac565a47a5aeb", func := "loop.example/g01538/laws.FnExactFreeNow", spec := "fnExactFreeNow", named := ["loop.example/g01538/impl.slotSizes"], apart := false, laid := [("loop.example/g01538/impl.slotSizes", laid_loop_example_g01538_impl_slotSizes)] }
def FnExactFreeNowSaid : Prop := fnExactFreeNowRow.holds Tryz.pinned (OpenSpec.ofChange fnExactFreeNowSpec)

/-- ITS FALSE NEIGHBOUR: 'it returns false'. Refute it at one input. -/
def fnExactFreeNowWrong : ChangeSpec := { name := "fnExactFreeNow", vars := ["loop.example/g01538/impl.slotSizes"], fn := fun _ => fun
  | [d1, d2, d3, g1] => { results := [.lit (.bool false)], args := [d1, d2, d3], vars := [g1] }
  | _ => none }
def FnExactFreeNowWrongFalsely : Prop := fnExactFreeNowRow.holds Tryz.pinned (OpenSpec.ofChange fnExactFreeNowWrong)

/-- 'laws.FnExactAllocNow': WHATEVER THE INPUT: true; the input reads as it did. -/
def fnExactAllocNowSpec : ChangeSpec := { name := "fnExactAllocNow", vars := ["loop.example/g01538/impl.slotSizes"], fn := fun _ => fun
  | [d1, d2, d3, g1] => { results := [.lit (.bool true)], args := [d1, d2, d3], vars := [g1] }
  | _ => none }
def fnExactAllocNowRow : OpenClaim := { program := "ytpmhkpmkmbkjbaagreatdoor", sum := "7590ae7c8c3498ede24bf9b7c8900aa9ac1324209a87d406d65ac565a47a5aeb", func := "loop.example/g01538/laws.FnExactAllocNow", spec := "fnExactAllocNow", named := ["loop.example/g01538/impl.slotSizes"], apart := false, laid := [("loop.example/g01538/impl.slotSizes", laid_loop_example_g01538_impl_slotSizes)] }
def FnExactAllocNowSaid : Prop := fnExactAllocNowRow.holds Tryz.pinned (OpenSpec.ofChange fnExactAllocNowSpec)

/-- ITS FALSE NEIGHBOUR: 'it returns false'. Refute it at one input. -/
def fnExactAllocNowWrong : ChangeSpec := { name := "fnExactAllocNow", vars := ["loop.example/g01538/impl.slotSizes"], fn := fun _ => fun
  | [d1, d2, d3, g1] => { results := [.lit (.bool false)], args := [d1, d2, d3], vars := [g1] }
  | _ => none }
def FnExactAllocNowWrongFalsely : Prop := fnExactAllocNowRow.holds Tryz.pinned (OpenSpec.ofChange fnExactAllocNowWrong)

/- THE SECOND FORM. 'bulk': how many values and letters a reading holds, each counted each time it is reached (what is shared counts as often as it is met; a slice's spare places count too). A statement '..UptoSaid' is the law's where the arguments, and the package variables that the reading takes, are together of bulk at most 1048576: NARROWER than '..Said'. Prove '..Said' where nothing that the law and all that it calls make is longer than what came in: it says more and counts as full. Else prove '..UptoSaid'. A law counts once. -/
mutual
def uptoBulk {H : Type} : DataW H → Nat
  | .lit (.string bytes) => bytes.length + 1
  | .lit _ => 1
  | .nil => 1
  | .ptr d => uptoBulk d + 1
  | .slice elems spare => uptoBulkAll elems + uptoBulkAll spare + 1
  | .agg parts => uptoBulkAll parts + 1
  | .iface _ d => uptoBulk d + 1
  | .map entries => uptoBulkEntries entries + 1
  | .held _ => 1
def uptoBulkAll {H : Type} : List (DataW H) → Nat
  | [] => 0
  | d :: r => uptoBulk d + uptoBulkAll r
def uptoBulkEntries {H : Type} : List (Lit × DataW H) → Nat
  | [] => 0
  | x :: r => uptoBulkEntry x + uptoBulkEntries r
def uptoBulkEntry {H : Type} : Lit × DataW H → Nat
  | (.string bytes, d) => bytes.length + uptoBulk d + 1
  | (_, d) => uptoBulk d + 1
 end
def uptoSmall : (H : Type) → List (DataW H) → Bool := fun _ ds => decide (uptoBulkAll ds ≤ 1048576)
def OpenSpec.upto (s : _root_.Go.ChangeSpec) : _root_.Go.OpenSpec := { _root_.Go.OpenSpec.ofChange s with cond := some uptoSmall }

/-- 'laws.FnExactStoreIn', WHERE WHAT IT READS IS OF BULK AT MOST 1048576: true; the input reads as it did. -/
def fnExactStoreInUptoRow : OpenClaim := { program := "ytpmhkpmkmbkjbaagreatdoor", sum := "7590ae7c8c3498ede24bf9b7c8900aa9ac1324209a87d406d65ac565a47a5aeb", func := "loop.example/g01538/laws.FnExactStoreIn", spec := "fnExactStoreIn", named := ["loop.example/g01538/impl.slotSizes"], apart := false, laid := [("loop.example/g01538/impl.slotSizes", laid_loop_example_g01538_impl_slotSizes)], narrowed := true }
def FnExactStoreInUptoSaid : Prop := fnExactStoreInUptoRow.holds Tryz.pinned (OpenSpec.upto fnExactStoreInSpec)

/-- 'laws.FnExactNodePut', WHERE WHAT IT READS IS OF BULK AT MOST 1048576: true; the input reads as it did. -/
def fnExactNodePutUptoRow : OpenClaim := { program := "ytpmhkpmkmbkjbaagreatdoor", sum := "7590ae7c8c3498ede24bf9b7c8900aa9ac1324209a87d406d65ac565a47a5aeb", func := "loop.example/g01538/laws.FnExactNodePut", spec := "fnExactNodePut", named := ["loop.example/g01538/impl.slotSizes"], apart := false, laid := [("loop.example/g01538/impl.slotSizes", laid_loop_example_g01538_impl_slotSizes)], narrowed := true }
def FnExactNodePutUptoSaid : Prop := fnExactNodePutUptoRow.holds Tryz.pinned (OpenSpec.upto fnExactNodePutSpec)

/-- 'laws.FnExactNextTo', WHERE WHAT IT READS IS OF BULK AT MOST 1048576: true; the input reads as it did. -/
def fnExactNextToUptoRow : OpenClaim := { program := "ytpmhkpmkmbkjbaagreatdoor", sum := "7590ae7c8c3498ede24bf9b7c8900aa9ac1324209a87d406d65ac565a47a5aeb", func := "loop.example/g01538/laws.FnExactNextTo", spec := "fnExactNextTo", named := ["loop.example/g01538/impl.slotSizes"], apart := false, laid := [("loop.example/g01538/impl.slotSizes", laid_loop_example_g01538_impl_slotSizes)], narrowed := true }
def FnExactNextToUptoSaid : Prop := fnExactNextToUptoRow.holds Tryz.pinned (OpenSpec.upto fnExactNextToSpec)

/-- 'laws.FnExactBaseOk', WHERE WHAT IT READS IS OF BULK AT MOST 1048576: true; the input reads as it did. -/
def fnExactBaseOkUptoRow : OpenClaim := { program := "ytpmhkpmkmbkjbaagreatdoor", sum := "7590ae7c8c3498ede24bf9b7c8900aa9ac1324209a87d406d65ac565a47a5aeb", func := "loop.example/g01538/laws.FnExactBaseOk", spec := "fnExactBaseOk", named := ["loop.example/g01538/impl.slotSizes"], apart := false, laid := [("loop.example/g01538/impl.slotSizes", laid_loop_example_g01538_impl_slotSizes)], narrowed := true }
def FnExactBaseOkUptoSaid : Prop := fnExactBaseOkUptoRow.holds Tryz.pinned (OpenSpec.upto fnExactBaseOkSpec)

/-- 'laws.FnExactWhere', WHERE WHAT IT READS IS OF BULK AT MOST 1048576: true; the input reads as it did. -/
def fnExactWhereUptoRow : OpenClaim := { program := "ytpmhkpmkmbkjbaagreatdoor", sum := "7590ae7c8c3498ede24bf9b7c8900aa9ac1324209a87d406d65ac565a47a5aeb", func := "loop.example/g01538/laws.FnExactWhere", spec := "fnExactWhere", unfollowed := true, recurses := true, named := ["loop.example/g01538/impl.slotSizes"], apart := false, laid := [("loop.example/g01538/impl.slotSizes", laid_loop_example_g01538_impl_slotSizes)], narrowed := true }
def FnExactWhereUptoSaid : Prop := fnExactWhereUptoRow.holds Tryz.pinned (OpenSpec.upto fnExactWhereSpec)

/-- 'laws.FnExactTally', WHERE WHAT IT READS IS OF BULK AT MOST 1048576: true; the input reads as it did. -/
def fnExactTallyUptoRow : OpenClaim := { program := "ytpmhkpmkmbkjbaagreatdoor", sum := "7590ae7c8c3498ede24bf9b7c8900aa9ac1324209a87d406d65ac565a47a5aeb", func := "loop.example/g01538/laws.FnExactTally", spec := "fnExactTally", unfollowed := true, recurses := true, named := ["loop.example/g01538/impl.slotSizes"], apart := false, laid := [("loop.example/g01538/impl.slotSizes", laid_loop_example_g01538_impl_slotSizes)], narrowed := true }
def FnExactTallyUptoSaid : Prop := fnExactTallyUptoRow.holds Tryz.pinned (OpenSpec.upto fnExactTallySpec)

/-- 'laws.FnExactFreeNow', WHERE WHAT IT READS IS OF BULK AT MOST 1048576: true; the input reads as it did. -/
def fnExactFreeNowUptoRow : OpenClaim := { program := "ytpmhkpmkmbkjbaagreatdoor", sum := "7590ae7c8c3498ede24bf9b7c8900aa9ac1324209a87d406d65ac565a47a5aeb", func := "loop.example/g01538/laws.FnExactFreeNow", spec := "fnExactFreeNow", named := ["loop.example/g01538/impl.slotSizes"], apart := false, laid := [("loop.example/g01538/impl.slotSizes", laid_loop_example_g01538_impl_slotSizes)], narrowed := true }
def FnExactFreeNowUptoSaid : Prop := fnExactFreeNowUptoRow.holds Tryz.pinned (OpenSpec.upto fnExactFreeNowSpec)

/-- 'laws.FnExactAllocNow', WHERE WHAT IT READS IS OF BULK AT MOST 1048576: true; the input reads as it did. -/
def fnExactAllocNowUptoRow : OpenClaim := { program := "ytpmhkpmkmbkjbaagreatdoor", sum := "7590ae7c8c3498ede24bf9b7c8900aa9ac1324209a87d406d65ac565a47a5aeb", func := "loop.example/g01538/laws.FnExactAllocNow", spec := "fnExactAllocNow", named := ["loop.example/g01538/impl.slotSizes"], apart := false, laid := [("loop.example/g01538/impl.slotSizes", laid_loop_example_g01538_impl_slotSizes)], narrowed := true }
def FnExactAllocNowUptoSaid : Prop := fnExactAllocNowUptoRow.holds Tryz.pinned (OpenSpec.upto fnExactAllocNowSpec)

end Rows
end Go.Proofs.YtpmhkpmkmbkjbaaGreatDoor
