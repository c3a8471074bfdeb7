/-
  NARROWER THAN 'FOR EVERY INPUT', by the rows' own cells (each row's printed sentence says how): FnExactChainOf: laid · FnExactSeek: laid · FnExactPairsOf: laid · FnExactLinkIn: laid · FnExactUnlink: laid · FnExactAllocNow: laid · FnExactRanges: laid.
  DERIVED. THE GIVEN ROWS OF THIS SEAT. 7 by the template 'for every input the law returns true; each argument reads behind the call as it read before'; 0 by the template 'total and deterministic' (their statements: YtfdbjiaghbeedaaGreatDoorTotals.lean).
  GIVEN WITH THE SEED: the statements are not yours to turn. If you find one false, say at which input.
  Laid BY PROGRAM, IN A SANDBOX (cutbox-rows.mjs): the forced cells as the released guide's own fill.sh prints them over the translation 8424b2d4bb1ff530… (all of the seat's roots in one cut). By AI agents, Wed Nov 11 2026. No macro, syntax, notation, axiom, sorry.
-/
import Derived.Test.YtfdbjiaghbeedaaGreatDoorChecked
import GoSem.Claim
import GoSem.ClaimJoined
import GoSem.ClaimMapViews
import Derived.JoinedTies
import Derived.KernelRfl
namespace Go.Proofs.YtfdbjiaghbeedaaGreatDoor
/- THE CELL 'sum', in the pinned program and in every row, IS THE sha256 OF THE DUMP (.gsa) THAT YtfdbjiaghbeedaaGreatDoorProg.lean LOADS. Nothing in Lean hashes anything: it is a label: what it is worth is what the hold of that sum in a sandbox is worth. -/
noncomputable def Tryz.pinned : Pinned := { name := "ytfdbjiaghbeedaagreatdoor", sum := "8424b2d4bb1ff5301e93f06b1bbca2bdae419e07bcb34029b24f6221a72a1f53", checked := Tryz.checked }
namespace Rows
def none {H : Type} : Left H := { results := [], args := [] }

/- WHAT THE LISTED PACKAGE-LEVEL VARIABLES READ AS WHEN THE CALL BEGINS. Each datum BY PROGRAM (the guide's laid-datum.mjs) off the statement by which the dump's own 'gosem.cut.vars' lays the variable. In a bare row this is a premise. The card (YtfdbjiaghbeedaaGreatDoorCards.lean) ties it to the program's text. -/
def laid_loop_example_g01538_impl_slotSizes {H : Type} : DataW H := .agg [.lit (.int .i64 8), .lit (.int .i64 16), .lit (.int .i64 40)]

/-- 'laws.FnExactChainOf': WHATEVER THE INPUT: true; the input reads as it did. -/
def fnExactChainOfSpec : ChangeSpec := { name := "fnExactChainOf", vars := ["loop.example/g01538/impl.slotSizes"], fn := fun _ => fun
  | [d1, d2, g1] => { results := [.lit (.bool true)], args := [d1, d2], vars := [g1] }
  | _ => none }
def fnExactChainOfRow : OpenClaim := { program := "ytfdbjiaghbeedaagreatdoor", sum := "8424b2d4bb1ff5301e93f06b1bbca2bdae419e07bcb34029b24f6221a72a1f53", func := "loop.example/g01538/laws.FnExactChainOf", spec := "fnExactChainOf", named := ["loop.example/g01538/impl.slotSizes"], apart := false, laid := [("loop.example/g01538/impl.slotSizes", laid_loop_example_g01538_impl_slotSizes)] }
def FnExactChainOfSaid : Prop := fnExactChainOfRow.holds Tryz.pinned (OpenSpec.ofChange fnExactChainOfSpec)

/-- ITS FALSE NEIGHBOUR: 'it returns false'. Refute it at one input. -/
def fnExactChainOfWrong : ChangeSpec := { name := "fnExactChainOf", vars := ["loop.example/g01538/impl.slotSizes"], fn := fun _ => fun
  | [d1, d2, g1] => { results := [.lit (.bool false)], args := [d1, d2], vars := [g1] }
  | _ => none }
def FnExactChainOfWrongFalsely : Prop := fnExactChainOfRow.holds Tryz.pinned (OpenSpec.ofChange fnExactChainOfWrong)

/-- 'laws.FnExactSeek': WHATEVER THE INPUT: true; the input reads as it did. -/
def fnExactSeekSpec : ChangeSpec := { name := "fnExactSeek", vars := ["loop.example/g01538/impl.slotSizes"], fn := fun _ => fun
  | [d1, d2, d3, g1] => { results := [.lit (.bool true)], args := [d1, d2, d3], vars := [g1] }
  | _ => none }
def fnExactSeekRow : OpenClaim := { program := "ytfdbjiaghbeedaagreatdoor", sum := "8424b2d4bb1ff5301e93f06b1bbca2bdae419e07bcb34029b24f6221a72a1f53", func := "loop.example/g01538/laws.FnExactSeek", spec := "fnExactSeek", named := ["loop.example/g01538/impl.slotSizes"], apart := false, laid := [("loop.example/g01538/impl.slotSizes", laid_loop_example_g01538_impl_slotSizes)] }
def FnExactSeekSaid : Prop := fnExactSeekRow.holds Tryz.pinned (OpenSpec.ofChange fnExactSeekSpec)

/-- ITS FALSE NEIGHBOUR: 'it returns false'. Refute it at one input. -/
def fnExactSeekWrong : ChangeSpec := { name := "fnExactSeek", vars := ["loop.example/g01538/impl.slotSizes"], fn := fun _ => fun
  | [d1, d2, d3, g1] => { results := [.lit (.bool false)], args := [d1, d2, d3], vars := [g1] }
  | _ => none }
def FnExactSeekWrongFalsely : Prop := fnExactSeekRow.holds Tryz.pinned (OpenSpec.ofChange fnExactSeekWrong)

/-- 'laws.FnExactPairsOf': WHATEVER THE INPUT: true; the input reads as it did. -/
def fnExactPairsOfSpec : ChangeSpec := { name := "fnExactPairsOf", vars := ["loop.example/g01538/impl.slotSizes"], fn := fun _ => fun
  | [d1, d2, g1] => { results := [.lit (.bool true)], args := [d1, d2], vars := [g1] }
  | _ => none }
def fnExactPairsOfRow : OpenClaim := { program := "ytfdbjiaghbeedaagreatdoor", sum := "8424b2d4bb1ff5301e93f06b1bbca2bdae419e07bcb34029b24f6221a72a1f53", func := "loop.example/g01538/laws.FnExactPairsOf", spec := "fnExactPairsOf", named := ["loop.example/g01538/impl.slotSizes"], apart := false, laid := [("loop.example/g01538/impl.slotSizes", laid_loop_example_g01538_impl_slotSizes)] }
def FnExactPairsOfSaid : Prop := fnExactPairsOfRow.holds Tryz.pinned (OpenSpec.ofChange fnExactPairsOfSpec)

/-- ITS FALSE NEIGHBOUR: 'it returns false'. Refute it at one input. -/
def fnExactPairsOfWrong : ChangeSpec := { name := "fnExactPairsOf", vars := ["loop.example/g01538/impl.slotSizes"], fn := fun _ => fun
  | [d1, d2, g1] => { results := [.lit (.bool false)], args := [d1, d2], vars := [g1] }
  | _ => none }
def FnExactPairsOfWrongFalsely : Prop := fnExactPairsOfRow.holds Tryz.pinned (OpenSpec.ofChange fnExactPairsOfWrong)

/-- 'laws.FnExactLinkIn': WHATEVER THE INPUT: true; the input reads as it did. -/
def fnExactLinkInSpec : ChangeSpec := { name := "fnExactLinkIn", vars := ["loop.example/g01538/impl.slotSizes"], fn := fun _ => fun
  | [d1, d2, d3, g1] => { results := [.lit (.bool true)], args := [d1, d2, d3], vars := [g1] }
  | _ => none }
def fnExactLinkInRow : OpenClaim := { program := "ytfdbjiaghbeedaagreatdoor", sum := "8424b2d4bb1ff5301e93f06b1bbca2bdae419e07bcb34029b24f6221a72a1f53", func := "loop.example/g01538/laws.FnExactLinkIn", spec := "fnExactLinkIn", named := ["loop.example/g01538/impl.slotSizes"], apart := false, laid := [("loop.example/g01538/impl.slotSizes", laid_loop_example_g01538_impl_slotSizes)] }
def FnExactLinkInSaid : Prop := fnExactLinkInRow.holds Tryz.pinned (OpenSpec.ofChange fnExactLinkInSpec)

/-- ITS FALSE NEIGHBOUR: 'it returns false'. Refute it at one input. -/
def fnExactLinkInWrong : ChangeSpec := { name := "fnExactLinkIn", vars := ["loop.example/g01538/impl.slotSizes"], fn := fun _ => fun
  | [d1, d2, d3, g1] => { results := [.lit (.bool false)], args := [d1, d2, d3], vars := [g1] }
  | _ => none }
def FnExactLinkInWrongFalsely : Prop := fnExactLinkInRow.holds Tryz.pinned (OpenSpec.ofChange fnExactLinkInWrong)

/-- 'laws.FnExactUnlink': WHATEVER THE INPUT: true; the input reads as it did. -/
def fnExactUnlinkSpec : ChangeSpec := { name := "fnExactUnlink", vars := ["loop.example/g01538/impl.slotSizes"], fn := fun _ => fun
  | [d1, d2, d3, g1] => { results := [.lit (.bool true)], args := [d1, d2, d3], vars := [g1] }
  | _ => none }
def fnExactUnlinkRow : OpenClaim := { program := "ytfdbjiaghbeedaagreatdoor", sum := "8424b2d4bb1ff5301e93f06b1bbca2bdae419e07bcb34029b24f6221a72a1f53", func := "loop.example/g01538/laws.FnExactUnlink", spec := "fnExactUnlink", named := ["loop.example/g01538/impl.slotSizes"], apart := false, laid := [("loop.example/g01538/impl.slotSizes", laid_loop_example_g01538_impl_slotSizes)] }
def FnExactUnlinkSaid : Prop := fnExactUnlinkRow.holds Tryz.pinned (OpenSpec.ofChange fnExactUnlinkSpec)

/-- ITS FALSE NEIGHBOUR: 'it returns false'. Refute it at one input. -/
def fnExactUnlinkWrong : ChangeSpec := { name := "fnExactUnlink", vars := ["loop.example/g01538/impl.slotSizes"], fn := fun _ => fun
  | [d1, d2, d3, g1] => { results := [.lit (.bool false)], args := [d1, d2, d3], vars := [g1] }
  | _ => none }
def FnExactUnlinkWrongFalsely : Prop := fnExactUnlinkRow.holds Tryz.pinned (OpenSpec.ofChange fnExactUnlinkWrong)

/-- 'laws.FnExactAllocNow': WHATEVER THE INPUT: true; the input reads as it did. -/
def fnExactAllocNowSpec : ChangeSpec := { name := "fnExactAllocNow", vars := ["loop.example/g01538/impl.slotSizes"], fn := fun _ => fun
  | [d1, d2, d3, g1] => { results := [.lit (.bool true)], args := [d1, d2, d3], vars := [g1] }
  | _ => none }
def fnExactAllocNowRow : OpenClaim := { program := "ytfdbjiaghbeedaagreatdoor", sum := "8424b2d4bb1ff5301e93f06b1bbca2bdae419e07bcb34029b24f6221a72a1f53", func := "loop.example/g01538/laws.FnExactAllocNow", spec := "fnExactAllocNow", named := ["loop.example/g01538/impl.slotSizes"], apart := false, laid := [("loop.example/g01538/impl.slotSizes", laid_loop_example_g01538_impl_slotSizes)] }
def FnExactAllocNowSaid : Prop := fnExactAllocNowRow.holds Tryz.pinned (OpenSpec.ofChange fnExactAllocNowSpec)

/-- ITS FALSE NEIGHBOUR: 'it returns false'. Refute it at one input. -/
def fnExactAllocNowWrong : ChangeSpec := { name := "fnExactAllocNow", vars := ["loop.example/g01538/impl.slotSizes"], fn := fun _ => fun
  | [d1, d2, d3, g1] => { results := [.lit (.bool false)], args := [d1, d2, d3], vars := [g1] }
  | _ => none }
def FnExactAllocNowWrongFalsely : Prop := fnExactAllocNowRow.holds Tryz.pinned (OpenSpec.ofChange fnExactAllocNowWrong)

/-- 'laws.FnExactRanges': WHATEVER THE INPUT: true; the input reads as it did. -/
def fnExactRangesSpec : ChangeSpec := { name := "fnExactRanges", vars := ["loop.example/g01538/impl.slotSizes"], fn := fun _ => fun
  | [d, g1] => { results := [.lit (.bool true)], args := [d], vars := [g1] }
  | _ => none }
def fnExactRangesRow : OpenClaim := { program := "ytfdbjiaghbeedaagreatdoor", sum := "8424b2d4bb1ff5301e93f06b1bbca2bdae419e07bcb34029b24f6221a72a1f53", func := "loop.example/g01538/laws.FnExactRanges", spec := "fnExactRanges", unfollowed := true, recurses := true, named := ["loop.example/g01538/impl.slotSizes"], apart := false, laid := [("loop.example/g01538/impl.slotSizes", laid_loop_example_g01538_impl_slotSizes)] }
def FnExactRangesSaid : Prop := fnExactRangesRow.holds Tryz.pinned (OpenSpec.ofChange fnExactRangesSpec)

/-- ITS FALSE NEIGHBOUR: 'it returns false'. Refute it at one input. -/
def fnExactRangesWrong : ChangeSpec := { name := "fnExactRanges", vars := ["loop.example/g01538/impl.slotSizes"], fn := fun _ => fun
  | [d, g1] => { results := [.lit (.bool false)], args := [d], vars := [g1] }
  | _ => none }
def FnExactRangesWrongFalsely : Prop := fnExactRangesRow.holds Tryz.pinned (OpenSpec.ofChange fnExactRangesWrong)

/- THE SECOND FORM. 'bulk': how many values and letters a reading holds, each counted each time it is reached (what is shared counts as often as it is met; a slice's spare places count too). A statement '..UptoSaid' is the law's where the arguments, and the package variables that the reading takes, are together of bulk at most 1048576: NARROWER than '..Said'. Prove '..Said' where nothing that the law and all that it calls make is longer than what came in: it says more and counts as full. Else prove '..UptoSaid'. A law counts once. -/
mutual
def uptoBulk {H : Type} : DataW H → Nat
  | .lit (.string bytes) => bytes.length + 1
  | .lit _ => 1
  | .nil => 1
  | .ptr d => uptoBulk d + 1
  | .slice elems spare => uptoBulkAll elems + uptoBulkAll spare + 1
  | .agg parts => uptoBulkAll parts + 1
  | .iface _ d => uptoBulk d + 1
  | .map entries => uptoBulkEntries entries + 1
  | .held _ => 1
def uptoBulkAll {H : Type} : List (DataW H) → Nat
  | [] => 0
  | d :: r => uptoBulk d + uptoBulkAll r
def uptoBulkEntries {H : Type} : List (Lit × DataW H) → Nat
  | [] => 0
  | x :: r => uptoBulkEntry x + uptoBulkEntries r
def uptoBulkEntry {H : Type} : Lit × DataW H → Nat
  | (.string bytes, d) => bytes.length + uptoBulk d + 1
  | (_, d) => uptoBulk d + 1
 end
def uptoSmall : (H : Type) → List (DataW H) → Bool := fun _ ds => decide (uptoBulkAll ds ≤ 1048576)
def OpenSpec.upto (s : _root_.Go.ChangeSpec) : _root_.Go.OpenSpec := { _root_.Go.OpenSpec.ofChange s with cond := some uptoSmall }

/-- 'laws.FnExactChainOf', WHERE WHAT IT READS IS OF BULK AT MOST 1048576: true; the input reads as it did. -/
def fnExactChainOfUptoRow : OpenClaim := { program := "ytfdbjiaghbeedaagreatdoor", sum := "8424b2d4bb1ff5301e93f06b1bbca2bdae419e07bcb34029b24f6221a72a1f53", func := "loop.example/g01538/laws.FnExactChainOf", spec := "fnExactChainOf", named := ["loop.example/g01538/impl.slotSizes"], apart := false, laid := [("loop.example/g01538/impl.slotSizes", laid_loop_example_g01538_impl_slotSizes)], narrowed := true }
def FnExactChainOfUptoSaid : Prop := fnExactChainOfUptoRow.holds Tryz.pinned (OpenSpec.upto fnExactChainOfSpec)

/-- 'laws.FnExactSeek', WHERE WHAT IT READS IS OF BULK AT MOST 1048576: true; the input reads as it did. -/
def fnExactSeekUptoRow : OpenClaim := { program := "ytfdbjiaghbeedaagreatdoor", sum := "8424b2d4bb1ff5301e93f06b1bbca2bdae419e07bcb34029b24f6221a72a1f53", func := "loop.example/g01538/laws.FnExactSeek", spec := "fnExactSeek", named := ["loop.example/g01538/impl.slotSizes"], apart := false, laid := [("loop.example/g01538/impl.slotSizes", laid_loop_example_g01538_impl_slotSizes)], narrowed := true }
def FnExactSeekUptoSaid : Prop := fnExactSeekUptoRow.holds Tryz.pinned (OpenSpec.upto fnExactSeekSpec)

/-- 'laws.FnExactPairsOf', WHERE WHAT IT READS IS OF BULK AT MOST 1048576: true; the input reads as it did. -/
def fnExactPairsOfUptoRow : OpenClaim := { program := "ytfdbjiaghbeedaagreatdoor", sum := "8424b2d4bb1ff5301e93f06b1bbca2bdae419e07bcb34029b24f6221a72a1f53", func := "loop.example/g01538/laws.FnExactPairsOf", spec := "fnExactPairsOf", named := ["loop.example/g01538/impl.slotSizes"], apart := false, laid := [("loop.example/g01538/impl.slotSizes", laid_loop_example_g01538_impl_slotSizes)], narrowed := true }
def FnExactPairsOfUptoSaid : Prop := fnExactPairsOfUptoRow.holds Tryz.pinned (OpenSpec.upto fnExactPairsOfSpec)

/-- 'laws.FnExactLinkIn', WHERE WHAT IT READS IS OF BULK AT MOST 1048576: true; the input reads as it did. -/
def fnExactLinkInUptoRow : OpenClaim := { program := "ytfdbjiaghbeedaagreatdoor", sum := "8424b2d4bb1ff5301e93f06b1bbca2bdae419e07bcb34029b24f6221a72a1f53", func := "loop.example/g01538/laws.FnExactLinkIn", spec := "fnExactLinkIn", named := ["loop.example/g01538/impl.slotSizes"], apart := false, laid := [("loop.example/g01538/impl.slotSizes", laid_loop_example_g01538_impl_slotSizes)], narrowed := true }
def FnExactLinkInUptoSaid : Prop := fnExactLinkInUptoRow.holds Tryz.pinned (OpenSpec.upto fnExactLinkInSpec)

/-- 'laws.FnExactUnlink', WHERE WHAT IT READS IS OF BULK AT MOST 1048576: true; the input reads as it did. -/
def fnExactUnlinkUptoRow : OpenClaim := { program := "ytfdbjiaghbeedaagreatdoor", sum := "8424b2d4bb1ff5301e93f06b1bbca2bdae419e07bcb34029b24f6221a72a1f53", func := "loop.example/g01538/laws.FnExactUnlink", spec := "fnExactUnlink", named := ["loop.example/g01538/impl.slotSizes"], apart := false, laid := [("loop.example/g01538/impl.slotSizes", laid_loop_example_g01538_impl_slotSizes)], narrowed := true }
def FnExactUnlinkUptoSaid : Prop := fnExactUnlinkUptoRow.holds Tryz.pinned (OpenSpec.upto fnExactUnlinkSpec)

/-- 'laws.FnExactAllocNow', WHERE WHAT IT READS IS OF BULK AT MOST 1048576: true; the input reads as it did. -/
def fnExactAllocNowUptoRow : OpenClaim := { program := "ytfdbjiaghbeedaagreatdoor", sum := "8424b2d4bb1ff5301e93f06b1bbca2bdae419e07bcb34029b24f6221a72a1f53", func := "loop.example/g01538/laws.FnExactAllocNow", spec := "fnExactAllocNow", named := ["loop.example/g01538/impl.slotSizes"], apart := false, laid := [("loop.example/g01538/impl.slotSizes", laid_loop_example_g01538_impl_slotSizes)], narrowed := true }
def FnExactAllocNowUptoSaid : Prop := fnExactAllocNowUptoRow.holds Tryz.pinned (OpenSpec.upto fnExactAllocNowSpec)

/-- 'laws.FnExactRanges', WHERE WHAT IT READS IS OF BULK AT MOST 1048576: true; the input reads as it did. -/
def fnExactRangesUptoRow : OpenClaim := { program := "ytfdbjiaghbeedaagreatdoor", sum := "8424b2d4bb1ff5301e93f06b1bbca2bdae419e07bcb34029b24f6221a72a1f53", func := "loop.example/g01538/laws.FnExactRanges", spec := "fnExactRanges", unfollowed := true, recurses := true, named := ["loop.example/g01538/impl.slotSizes"], apart := false, laid := [("loop.example/g01538/impl.slotSizes", laid_loop_example_g01538_impl_slotSizes)], narrowed := true }
def FnExactRangesUptoSaid : Prop := fnExactRangesUptoRow.holds Tryz.pinned (OpenSpec.upto fnExactRangesSpec)

end Rows
end Go.Proofs.YtfdbjiaghbeedaaGreatDoor
