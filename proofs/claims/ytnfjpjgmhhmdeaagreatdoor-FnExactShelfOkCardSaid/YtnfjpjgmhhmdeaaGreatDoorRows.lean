/-
  NARROWER THAN 'FOR EVERY INPUT', by the rows' own cells (each row's printed sentence says how): FnExactShelfOk: laid · FnExactGuarded: laid · FnExactSafeNow: laid · FnExactNamed: laid · FnExactAccounted: laid · FnExactCollectors: laid · FnExactStuck: laid.
  DERIVED. THE GIVEN ROWS OF THIS SEAT. 7 by the template 'for every input the law returns true; each argument reads behind the call as it read before'; 0 by the template 'total and deterministic' (their statements: YtnfjpjgmhhmdeaaGreatDoorTotals.lean).
  GIVEN WITH THE SEED: the statements are not yours to turn. If you find one false, say at which input.
  Laid BY PROGRAM, IN A SANDBOX (cutbox-rows.mjs): the forced cells as the released guide's own fill.sh prints them over the translation d85cdb22fb9e261b… (all of the seat's roots in one cut). By AI agents, Wed Nov 11 2026. No macro, syntax, notation, axiom, sorry.
-/
import Derived.Test.YtnfjpjgmhhmdeaaGreatDoorChecked
import GoSem.Claim
import GoSem.ClaimJoined
import GoSem.ClaimMapViews
import Derived.JoinedTies
import Derived.KernelRfl
namespace Go.Proofs.YtnfjpjgmhhmdeaaGreatDoor
/- THE CELL 'sum', in the pinned program and in every row, IS THE sha256 OF THE DUMP (.gsa) THAT YtnfjpjgmhhmdeaaGreatDoorProg.lean LOADS. Nothing in Lean hashes anything: it is a label: what it is worth is what the hold of that sum in a sandbox is worth. -/
noncomputable def Tryz.pinned : Pinned := { name := "ytnfjpjgmhhmdeaagreatdoor", sum := "d85cdb22fb9e261b3328b051b35353a792c6198aff943ddb00d82edd0cc54c56", checked := Tryz.checked }
namespace Rows
def none {H : Type} : Left H := { results := [], args := [] }

/- WHAT THE LISTED PACKAGE-LEVEL VARIABLES READ AS WHEN THE CALL BEGINS. Each datum BY PROGRAM (the guide's laid-datum.mjs) off the statement by which the dump's own 'gosem.cut.vars' lays the variable. In a bare row this is a premise. The card (YtnfjpjgmhhmdeaaGreatDoorCards.lean) ties it to the program's text. -/
def laid_loop_example_g01538_impl_slotSizes {H : Type} : DataW H := .agg [.lit (.int .i64 8), .lit (.int .i64 16), .lit (.int .i64 40)]

/-- 'laws.FnExactShelfOk': WHATEVER THE INPUT: true; the input reads as it did. -/
def fnExactShelfOkSpec : ChangeSpec := { name := "fnExactShelfOk", vars := ["loop.example/g01538/impl.slotSizes"], fn := fun _ => fun
  | [d, g1] => { results := [.lit (.bool true)], args := [d], vars := [g1] }
  | _ => none }
def fnExactShelfOkRow : OpenClaim := { program := "ytnfjpjgmhhmdeaagreatdoor", sum := "d85cdb22fb9e261b3328b051b35353a792c6198aff943ddb00d82edd0cc54c56", func := "loop.example/g01538/laws.FnExactShelfOk", spec := "fnExactShelfOk", named := ["loop.example/g01538/impl.slotSizes"], apart := false, laid := [("loop.example/g01538/impl.slotSizes", laid_loop_example_g01538_impl_slotSizes)] }
def FnExactShelfOkSaid : Prop := fnExactShelfOkRow.holds Tryz.pinned (OpenSpec.ofChange fnExactShelfOkSpec)

/-- ITS FALSE NEIGHBOUR: 'it returns false'. Refute it at one input. -/
def fnExactShelfOkWrong : ChangeSpec := { name := "fnExactShelfOk", vars := ["loop.example/g01538/impl.slotSizes"], fn := fun _ => fun
  | [d, g1] => { results := [.lit (.bool false)], args := [d], vars := [g1] }
  | _ => none }
def FnExactShelfOkWrongFalsely : Prop := fnExactShelfOkRow.holds Tryz.pinned (OpenSpec.ofChange fnExactShelfOkWrong)

/-- 'laws.FnExactGuarded': WHATEVER THE INPUT: true; the input reads as it did. -/
def fnExactGuardedSpec : ChangeSpec := { name := "fnExactGuarded", vars := ["loop.example/g01538/impl.slotSizes"], fn := fun _ => fun
  | [d, g1] => { results := [.lit (.bool true)], args := [d], vars := [g1] }
  | _ => none }
def fnExactGuardedRow : OpenClaim := { program := "ytnfjpjgmhhmdeaagreatdoor", sum := "d85cdb22fb9e261b3328b051b35353a792c6198aff943ddb00d82edd0cc54c56", func := "loop.example/g01538/laws.FnExactGuarded", spec := "fnExactGuarded", unfollowed := true, recurses := true, named := ["loop.example/g01538/impl.slotSizes"], apart := false, laid := [("loop.example/g01538/impl.slotSizes", laid_loop_example_g01538_impl_slotSizes)] }
def FnExactGuardedSaid : Prop := fnExactGuardedRow.holds Tryz.pinned (OpenSpec.ofChange fnExactGuardedSpec)

/-- ITS FALSE NEIGHBOUR: 'it returns false'. Refute it at one input. -/
def fnExactGuardedWrong : ChangeSpec := { name := "fnExactGuarded", vars := ["loop.example/g01538/impl.slotSizes"], fn := fun _ => fun
  | [d, g1] => { results := [.lit (.bool false)], args := [d], vars := [g1] }
  | _ => none }
def FnExactGuardedWrongFalsely : Prop := fnExactGuardedRow.holds Tryz.pinned (OpenSpec.ofChange fnExactGuardedWrong)

/-- 'laws.FnExactSafeNow': WHATEVER THE INPUT: true; the input reads as it did. -/
def fnExactSafeNowSpec : ChangeSpec := { name := "fnExactSafeNow", vars := ["loop.example/g01538/impl.slotSizes"], fn := fun _ => fun
  | [d, g1] => { results := [.lit (.bool true)], args := [d], vars := [g1] }
  | _ => none }
def fnExactSafeNowRow : OpenClaim := { program := "ytnfjpjgmhhmdeaagreatdoor", sum := "d85cdb22fb9e261b3328b051b35353a792c6198aff943ddb00d82edd0cc54c56", func := "loop.example/g01538/laws.FnExactSafeNow", spec := "fnExactSafeNow", unfollowed := true, recurses := true, named := ["loop.example/g01538/impl.slotSizes"], apart := false, laid := [("loop.example/g01538/impl.slotSizes", laid_loop_example_g01538_impl_slotSizes)] }
def FnExactSafeNowSaid : Prop := fnExactSafeNowRow.holds Tryz.pinned (OpenSpec.ofChange fnExactSafeNowSpec)

/-- ITS FALSE NEIGHBOUR: 'it returns false'. Refute it at one input. -/
def fnExactSafeNowWrong : ChangeSpec := { name := "fnExactSafeNow", vars := ["loop.example/g01538/impl.slotSizes"], fn := fun _ => fun
  | [d, g1] => { results := [.lit (.bool false)], args := [d], vars := [g1] }
  | _ => none }
def FnExactSafeNowWrongFalsely : Prop := fnExactSafeNowRow.holds Tryz.pinned (OpenSpec.ofChange fnExactSafeNowWrong)

/-- 'laws.FnExactNamed': WHATEVER THE INPUT: true; the input reads as it did. -/
def fnExactNamedSpec : ChangeSpec := { name := "fnExactNamed", vars := ["loop.example/g01538/impl.slotSizes"], fn := fun _ => fun
  | [d, g1] => { results := [.lit (.bool true)], args := [d], vars := [g1] }
  | _ => none }
def fnExactNamedRow : OpenClaim := { program := "ytnfjpjgmhhmdeaagreatdoor", sum := "d85cdb22fb9e261b3328b051b35353a792c6198aff943ddb00d82edd0cc54c56", func := "loop.example/g01538/laws.FnExactNamed", spec := "fnExactNamed", unfollowed := true, recurses := true, named := ["loop.example/g01538/impl.slotSizes"], apart := false, laid := [("loop.example/g01538/impl.slotSizes", laid_loop_example_g01538_impl_slotSizes)] }
def FnExactNamedSaid : Prop := fnExactNamedRow.holds Tryz.pinned (OpenSpec.ofChange fnExactNamedSpec)

/-- ITS FALSE NEIGHBOUR: 'it returns false'. Refute it at one input. -/
def fnExactNamedWrong : ChangeSpec := { name := "fnExactNamed", vars := ["loop.example/g01538/impl.slotSizes"], fn := fun _ => fun
  | [d, g1] => { results := [.lit (.bool false)], args := [d], vars := [g1] }
  | _ => none }
def FnExactNamedWrongFalsely : Prop := fnExactNamedRow.holds Tryz.pinned (OpenSpec.ofChange fnExactNamedWrong)

/-- 'laws.FnExactAccounted': WHATEVER THE INPUT: true; the input reads as it did. -/
def fnExactAccountedSpec : ChangeSpec := { name := "fnExactAccounted", vars := ["loop.example/g01538/impl.slotSizes"], fn := fun _ => fun
  | [d, g1] => { results := [.lit (.bool true)], args := [d], vars := [g1] }
  | _ => none }
def fnExactAccountedRow : OpenClaim := { program := "ytnfjpjgmhhmdeaagreatdoor", sum := "d85cdb22fb9e261b3328b051b35353a792c6198aff943ddb00d82edd0cc54c56", func := "loop.example/g01538/laws.FnExactAccounted", spec := "fnExactAccounted", unfollowed := true, recurses := true, named := ["loop.example/g01538/impl.slotSizes"], apart := false, laid := [("loop.example/g01538/impl.slotSizes", laid_loop_example_g01538_impl_slotSizes)] }
def FnExactAccountedSaid : Prop := fnExactAccountedRow.holds Tryz.pinned (OpenSpec.ofChange fnExactAccountedSpec)

/-- ITS FALSE NEIGHBOUR: 'it returns false'. Refute it at one input. -/
def fnExactAccountedWrong : ChangeSpec := { name := "fnExactAccounted", vars := ["loop.example/g01538/impl.slotSizes"], fn := fun _ => fun
  | [d, g1] => { results := [.lit (.bool false)], args := [d], vars := [g1] }
  | _ => none }
def FnExactAccountedWrongFalsely : Prop := fnExactAccountedRow.holds Tryz.pinned (OpenSpec.ofChange fnExactAccountedWrong)

/-- 'laws.FnExactCollectors': WHATEVER THE INPUT: true; the input reads as it did. -/
def fnExactCollectorsSpec : ChangeSpec := { name := "fnExactCollectors", vars := ["loop.example/g01538/impl.slotSizes"], fn := fun _ => fun
  | [d1, d2, g1] => { results := [.lit (.bool true)], args := [d1, d2], vars := [g1] }
  | _ => none }
def fnExactCollectorsRow : OpenClaim := { program := "ytnfjpjgmhhmdeaagreatdoor", sum := "d85cdb22fb9e261b3328b051b35353a792c6198aff943ddb00d82edd0cc54c56", func := "loop.example/g01538/laws.FnExactCollectors", spec := "fnExactCollectors", named := ["loop.example/g01538/impl.slotSizes"], apart := false, laid := [("loop.example/g01538/impl.slotSizes", laid_loop_example_g01538_impl_slotSizes)] }
def FnExactCollectorsSaid : Prop := fnExactCollectorsRow.holds Tryz.pinned (OpenSpec.ofChange fnExactCollectorsSpec)

/-- ITS FALSE NEIGHBOUR: 'it returns false'. Refute it at one input. -/
def fnExactCollectorsWrong : ChangeSpec := { name := "fnExactCollectors", vars := ["loop.example/g01538/impl.slotSizes"], fn := fun _ => fun
  | [d1, d2, g1] => { results := [.lit (.bool false)], args := [d1, d2], vars := [g1] }
  | _ => none }
def FnExactCollectorsWrongFalsely : Prop := fnExactCollectorsRow.holds Tryz.pinned (OpenSpec.ofChange fnExactCollectorsWrong)

/-- 'laws.FnExactStuck': WHATEVER THE INPUT: true; the input reads as it did. -/
def fnExactStuckSpec : ChangeSpec := { name := "fnExactStuck", vars := ["loop.example/g01538/impl.slotSizes"], fn := fun _ => fun
  | [d, g1] => { results := [.lit (.bool true)], args := [d], vars := [g1] }
  | _ => none }
def fnExactStuckRow : OpenClaim := { program := "ytnfjpjgmhhmdeaagreatdoor", sum := "d85cdb22fb9e261b3328b051b35353a792c6198aff943ddb00d82edd0cc54c56", func := "loop.example/g01538/laws.FnExactStuck", spec := "fnExactStuck", named := ["loop.example/g01538/impl.slotSizes"], apart := false, laid := [("loop.example/g01538/impl.slotSizes", laid_loop_example_g01538_impl_slotSizes)] }
def FnExactStuckSaid : Prop := fnExactStuckRow.holds Tryz.pinned (OpenSpec.ofChange fnExactStuckSpec)

/-- ITS FALSE NEIGHBOUR: 'it returns false'. Refute it at one input. -/
def fnExactStuckWrong : ChangeSpec := { name := "fnExactStuck", vars := ["loop.example/g01538/impl.slotSizes"], fn := fun _ => fun
  | [d, g1] => { results := [.lit (.bool false)], args := [d], vars := [g1] }
  | _ => none }
def FnExactStuckWrongFalsely : Prop := fnExactStuckRow.holds Tryz.pinned (OpenSpec.ofChange fnExactStuckWrong)

/- THE SECOND FORM. 'bulk': how many values and letters a reading holds, each counted each time it is reached (what is shared counts as often as it is met; a slice's spare places count too). A statement '..UptoSaid' is the law's where the arguments, and the package variables that the reading takes, are together of bulk at most 1048576: NARROWER than '..Said'. Prove '..Said' where nothing that the law and all that it calls make is longer than what came in: it says more and counts as full. Else prove '..UptoSaid'. A law counts once. -/
mutual
def uptoBulk {H : Type} : DataW H → Nat
  | .lit (.string bytes) => bytes.length + 1
  | .lit _ => 1
  | .nil => 1
  | .ptr d => uptoBulk d + 1
  | .slice elems spare => uptoBulkAll elems + uptoBulkAll spare + 1
  | .agg parts => uptoBulkAll parts + 1
  | .iface _ d => uptoBulk d + 1
  | .map entries => uptoBulkEntries entries + 1
  | .held _ => 1
def uptoBulkAll {H : Type} : List (DataW H) → Nat
  | [] => 0
  | d :: r => uptoBulk d + uptoBulkAll r
def uptoBulkEntries {H : Type} : List (Lit × DataW H) → Nat
  | [] => 0
  | x :: r => uptoBulkEntry x + uptoBulkEntries r
def uptoBulkEntry {H : Type} : Lit × DataW H → Nat
  | (.string bytes, d) => bytes.length + uptoBulk d + 1
  | (_, d) => uptoBulk d + 1
 end
def uptoSmall : (H : Type) → List (DataW H) → Bool := fun _ ds => decide (uptoBulkAll ds ≤ 1048576)
def OpenSpec.upto (s : _root_.Go.ChangeSpec) : _root_.Go.OpenSpec := { _root_.Go.OpenSpec.ofChange s with cond := some uptoSmall }

/-- 'laws.FnExactShelfOk', WHERE WHAT IT READS IS OF BULK AT MOST 1048576: true; the input reads as it did. -/
def fnExactShelfOkUptoRow : OpenClaim := { program := "ytnfjpjgmhhmdeaagreatdoor", sum := "d85cdb22fb9e261b3328b051b35353a792c6198aff943ddb00d82edd0cc54c56", func := "loop.example/g01538/laws.FnExactShelfOk", spec := "fnExactShelfOk", named := ["loop.example/g01538/impl.slotSizes"], apart := false, laid := [("loop.example/g01538/impl.slotSizes", laid_loop_example_g01538_impl_slotSizes)], narrowed := true }
def FnExactShelfOkUptoSaid : Prop := fnExactShelfOkUptoRow.holds Tryz.pinned (OpenSpec.upto fnExactShelfOkSpec)

/-- 'laws.FnExactGuarded', WHERE WHAT IT READS IS OF BULK AT MOST 1048576: true; the input reads as it did. -/
def fnExactGuardedUptoRow : OpenClaim := { program := "ytnfjpjgmhhmdeaagreatdoor", sum := "d85cdb22fb9e261b3328b051b35353a792c6198aff943ddb00d82edd0cc54c56", func := "loop.example/g01538/laws.FnExactGuarded", spec := "fnExactGuarded", unfollowed := true, recurses := true, named := ["loop.example/g01538/impl.slotSizes"], apart := false, laid := [("loop.example/g01538/impl.slotSizes", laid_loop_example_g01538_impl_slotSizes)], narrowed := true }
def FnExactGuardedUptoSaid : Prop := fnExactGuardedUptoRow.holds Tryz.pinned (OpenSpec.upto fnExactGuardedSpec)

/-- 'laws.FnExactSafeNow', WHERE WHAT IT READS IS OF BULK AT MOST 1048576: true; the input reads as it did. -/
def fnExactSafeNowUptoRow : OpenClaim := { program := "ytnfjpjgmhhmdeaagreatdoor", sum := "d85cdb22fb9e261b3328b051b35353a792c6198aff943ddb00d82edd0cc54c56", func := "loop.example/g01538/laws.FnExactSafeNow", spec := "fnExactSafeNow", unfollowed := true, recurses := true, named := ["loop.example/g01538/impl.slotSizes"], apart := false, laid := [("loop.example/g01538/impl.slotSizes", laid_loop_example_g01538_impl_slotSizes)], narrowed := true }
def FnExactSafeNowUptoSaid : Prop := fnExactSafeNowUptoRow.holds Tryz.pinned (OpenSpec.upto fnExactSafeNowSpec)

/-- 'laws.FnExactNamed', WHERE WHAT IT READS IS OF BULK AT MOST 1048576: true; the input reads as it did. -/
def fnExactNamedUptoRow : OpenClaim := { program := "ytnfjpjgmhhmdeaagreatdoor", sum := "d85cdb22fb9e261b3328b051b35353a792c6198aff943ddb00d82edd0cc54c56", func := "loop.example/g01538/laws.FnExactNamed", spec := "fnExactNamed", unfollowed := true, recurses := true, named := ["loop.example/g01538/impl.slotSizes"], apart := false, laid := [("loop.example/g01538/impl.slotSizes", laid_loop_example_g01538_impl_slotSizes)], narrowed := true }
def FnExactNamedUptoSaid : Prop := fnExactNamedUptoRow.holds Tryz.pinned (OpenSpec.upto fnExactNamedSpec)

/-- 'laws.FnExactAccounted', WHERE WHAT IT READS IS OF BULK AT MOST 1048576: true; the input reads as it did. -/
def fnExactAccountedUptoRow : OpenClaim := { program := "ytnfjpjgmhhmdeaagreatdoor", sum := "d85cdb22fb9e261b3328b051b35353a792c6198aff943ddb00d82edd0cc54c56", func := "loop.example/g01538/laws.FnExactAccounted", spec := "fnExactAccounted", unfollowed := true, recurses := true, named := ["loop.example/g01538/impl.slotSizes"], apart := false, laid := [("loop.example/g01538/impl.slotSizes", laid_loop_example_g01538_impl_slotSizes)], narrowed := true }
def FnExactAccountedUptoSaid : Prop := fnExactAccountedUptoRow.holds Tryz.pinned (OpenSpec.upto fnExactAccountedSpec)

/-- 'laws.FnExactCollectors', WHERE WHAT IT READS IS OF BULK AT MOST 1048576: true; the input reads as it did. -/
def fnExactCollectorsUptoRow : OpenClaim := { program := "ytnfjpjgmhhmdeaagreatdoor", sum := "d85cdb22fb9e261b3328b051b35353a792c6198aff943ddb00d82edd0cc54c56", func := "loop.example/g01538/laws.FnExactCollectors", spec := "fnExactCollectors", named := ["loop.example/g01538/impl.slotSizes"], apart := false, laid := [("loop.example/g01538/impl.slotSizes", laid_loop_example_g01538_impl_slotSizes)], narrowed := true }
def FnExactCollectorsUptoSaid : Prop := fnExactCollectorsUptoRow.holds Tryz.pinned (OpenSpec.upto fnExactCollectorsSpec)

/-- 'laws.FnExactStuck', WHERE WHAT IT READS IS OF BULK AT MOST 1048576: true; the input reads as it did. -/
def fnExactStuckUptoRow : OpenClaim := { program := "ytnfjpjgmhhmdeaagreatdoor", sum := "d85cdb22fb9e261b3328b051b35353a792c6198aff943ddb00d82edd0cc54c56", func := "loop.example/g01538/laws.FnExactStuck", spec := "fnExactStuck", named := ["loop.example/g01538/impl.slotSizes"], apart := false, laid := [("loop.example/g01538/impl.slotSizes", laid_loop_example_g01538_impl_slotSizes)], narrowed := true }
def FnExactStuckUptoSaid : Prop := fnExactStuckUptoRow.holds Tryz.pinned (OpenSpec.upto fnExactStuckSpec)

end Rows
end Go.Proofs.YtnfjpjgmhhmdeaaGreatDoor
