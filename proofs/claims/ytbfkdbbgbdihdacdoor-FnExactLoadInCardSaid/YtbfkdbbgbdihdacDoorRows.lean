/-
  NARROWER THAN 'FOR EVERY INPUT', by the rows' own cells (each row's printed sentence says how): FnExactSetGen: laid · FnExactGrant: laid · FnExactMemOk: laid · FnExactStateOf: laid · FnExactValid: laid · FnExactCounts: laid · FnExactLoadIn: laid.
  DERIVED. THE GIVEN ROWS OF THIS SEAT. 7 by the template 'for every input the law returns true; each argument reads behind the call as it read before'; 0 by the template 'total and deterministic' (their statements: YtbfkdbbgbdihdacDoorTotals.lean).
  GIVEN WITH THE SEED: the statements are not yours to turn. If you find one false, say at which input.
  Laid BY PROGRAM, IN A SANDBOX (cutbox-rows.mjs): the forced cells as the released guide's own fill.sh prints them over the translation ef9b4ab2795cb866… (all of the seat's roots in one cut). By AI agents, Wed Nov 11 2026. No macro, syntax, notation, axiom, sorry.
-/
import Derived.Test.YtbfkdbbgbdihdacDoorChecked
import GoSem.Claim
import GoSem.ClaimJoined
import GoSem.ClaimMapViews
import Derived.JoinedTies
import Derived.KernelRfl
namespace Go.Proofs.YtbfkdbbgbdihdacDoor
/- THE CELL 'sum', in the pinned program and in every row, IS THE sha256 OF THE DUMP (.gsa) THAT YtbfkdbbgbdihdacDoorProg.lean LOADS. Nothing in Lean hashes anything: it is a label: what it is worth is what the hold of that sum in a sandbox is worth. -/
noncomputable def Tryd.pinned : Pinned := { name := "ytbfkdbbgbdihdacdoor", sum := "ef9b4ab2795cb86635dbe96bcb1a3942ea71e5de777bece9bd2bf4f51bd78737", checked := Tryd.checked }
namespace Rows
def none {H : Type} : Left H := { results := [], args := [] }

/- WHAT THE LISTED PACKAGE-LEVEL VARIABLES READ AS WHEN THE CALL BEGINS. Each datum BY PROGRAM (the guide's laid-datum.mjs) off the statement by which the dump's own 'gosem.cut.vars' lays the variable. In a bare row this is a premise. The card (YtbfkdbbgbdihdacDoorCards.lean) ties it to the program's text. -/
def laid_loop_example_g01538_impl_slotSizes {H : Type} : DataW H := .agg [.lit (.int .i64 8), .lit (.int .i64 16), .lit (.int .i64 40)]

/-- 'laws.FnExactSetGen': WHATEVER THE INPUT: true; the input reads as it did. -/
def fnExactSetGenSpec : ChangeSpec := { name := "fnExactSetGen", vars := ["loop.example/g01538/impl.slotSizes"], fn := fun _ => fun
  | [d1, d2, d3, g1] => { results := [.lit (.bool true)], args := [d1, d2, d3], vars := [g1] }
  | _ => none }
def fnExactSetGenRow : OpenClaim := { program := "ytbfkdbbgbdihdacdoor", sum := "ef9b4ab2795cb86635dbe96bcb1a3942ea71e5de777bece9bd2bf4f51bd78737", func := "loop.example/g01538/laws.FnExactSetGen", spec := "fnExactSetGen", named := ["loop.example/g01538/impl.slotSizes"], apart := false, laid := [("loop.example/g01538/impl.slotSizes", laid_loop_example_g01538_impl_slotSizes)] }
def FnExactSetGenSaid : Prop := fnExactSetGenRow.holds Tryd.pinned (OpenSpec.ofChange fnExactSetGenSpec)

/-- ITS FALSE NEIGHBOUR: 'it returns false'. Refute it at one input. -/
def fnExactSetGenWrong : ChangeSpec := { name := "fnExactSetGen", vars := ["loop.example/g01538/impl.slotSizes"], fn := fun _ => fun
  | [d1, d2, d3, g1] => { results := [.lit (.bool false)], args := [d1, d2, d3], vars := [g1] }
  | _ => none }
def FnExactSetGenWrongFalsely : Prop := fnExactSetGenRow.holds Tryd.pinned (OpenSpec.ofChange fnExactSetGenWrong)

/-- 'laws.FnExactGrant': WHATEVER THE INPUT: true; the input reads as it did. -/
def fnExactGrantSpec : ChangeSpec := { name := "fnExactGrant", vars := ["loop.example/g01538/impl.slotSizes"], fn := fun _ => fun
  | [d1, d2, g1] => { results := [.lit (.bool true)], args := [d1, d2], vars := [g1] }
  | _ => none }
def fnExactGrantRow : OpenClaim := { program := "ytbfkdbbgbdihdacdoor", sum := "ef9b4ab2795cb86635dbe96bcb1a3942ea71e5de777bece9bd2bf4f51bd78737", func := "loop.example/g01538/laws.FnExactGrant", spec := "fnExactGrant", named := ["loop.example/g01538/impl.slotSizes"], apart := false, laid := [("loop.example/g01538/impl.slotSizes", laid_loop_example_g01538_impl_slotSizes)] }
def FnExactGrantSaid : Prop := fnExactGrantRow.holds Tryd.pinned (OpenSpec.ofChange fnExactGrantSpec)

/-- ITS FALSE NEIGHBOUR: 'it returns false'. Refute it at one input. -/
def fnExactGrantWrong : ChangeSpec := { name := "fnExactGrant", vars := ["loop.example/g01538/impl.slotSizes"], fn := fun _ => fun
  | [d1, d2, g1] => { results := [.lit (.bool false)], args := [d1, d2], vars := [g1] }
  | _ => none }
def FnExactGrantWrongFalsely : Prop := fnExactGrantRow.holds Tryd.pinned (OpenSpec.ofChange fnExactGrantWrong)

/-- 'laws.FnExactMemOk': WHATEVER THE INPUT: true; the input reads as it did. -/
def fnExactMemOkSpec : ChangeSpec := { name := "fnExactMemOk", vars := ["loop.example/g01538/impl.slotSizes"], fn := fun _ => fun
  | [d, g1] => { results := [.lit (.bool true)], args := [d], vars := [g1] }
  | _ => none }
def fnExactMemOkRow : OpenClaim := { program := "ytbfkdbbgbdihdacdoor", sum := "ef9b4ab2795cb86635dbe96bcb1a3942ea71e5de777bece9bd2bf4f51bd78737", func := "loop.example/g01538/laws.FnExactMemOk", spec := "fnExactMemOk", named := ["loop.example/g01538/impl.slotSizes"], apart := false, laid := [("loop.example/g01538/impl.slotSizes", laid_loop_example_g01538_impl_slotSizes)] }
def FnExactMemOkSaid : Prop := fnExactMemOkRow.holds Tryd.pinned (OpenSpec.ofChange fnExactMemOkSpec)

/-- ITS FALSE NEIGHBOUR: 'it returns false'. Refute it at one input. -/
def fnExactMemOkWrong : ChangeSpec := { name := "fnExactMemOk", vars := ["loop.example/g01538/impl.slotSizes"], fn := fun _ => fun
  | [d, g1] => { results := [.lit (.bool false)], args := [d], vars := [g1] }
  | _ => none }
def FnExactMemOkWrongFalsely : Prop := fnExactMemOkRow.holds Tryd.pinned (OpenSpec.ofChange fnExactMemOkWrong)

/-- 'laws.FnExactStateOf': WHATEVER THE INPUT: true; the input reads as it did. -/
def fnExactStateOfSpec : ChangeSpec := { name := "fnExactStateOf", vars := ["loop.example/g01538/impl.slotSizes"], fn := fun _ => fun
  | [d1, d2, g1] => { results := [.lit (.bool true)], args := [d1, d2], vars := [g1] }
  | _ => none }
def fnExactStateOfRow : OpenClaim := { program := "ytbfkdbbgbdihdacdoor", sum := "ef9b4ab2795cb86635dbe96bcb1a3942ea71e5de777bece9bd2bf4f51bd78737", func := "loop.example/g01538/laws.FnExactStateOf", spec := "fnExactStateOf", named := ["loop.example/g01538/impl.slotSizes"], apart := false, laid := [("loop.example/g01538/impl.slotSizes", laid_loop_example_g01538_impl_slotSizes)] }
def FnExactStateOfSaid : Prop := fnExactStateOfRow.holds Tryd.pinned (OpenSpec.ofChange fnExactStateOfSpec)

/-- ITS FALSE NEIGHBOUR: 'it returns false'. Refute it at one input. -/
def fnExactStateOfWrong : ChangeSpec := { name := "fnExactStateOf", vars := ["loop.example/g01538/impl.slotSizes"], fn := fun _ => fun
  | [d1, d2, g1] => { results := [.lit (.bool false)], args := [d1, d2], vars := [g1] }
  | _ => none }
def FnExactStateOfWrongFalsely : Prop := fnExactStateOfRow.holds Tryd.pinned (OpenSpec.ofChange fnExactStateOfWrong)

/-- 'laws.FnExactValid': WHATEVER THE INPUT: true; the input reads as it did. -/
def fnExactValidSpec : ChangeSpec := { name := "fnExactValid", vars := ["loop.example/g01538/impl.slotSizes"], fn := fun _ => fun
  | [d1, d2, g1] => { results := [.lit (.bool true)], args := [d1, d2], vars := [g1] }
  | _ => none }
def fnExactValidRow : OpenClaim := { program := "ytbfkdbbgbdihdacdoor", sum := "ef9b4ab2795cb86635dbe96bcb1a3942ea71e5de777bece9bd2bf4f51bd78737", func := "loop.example/g01538/laws.FnExactValid", spec := "fnExactValid", named := ["loop.example/g01538/impl.slotSizes"], apart := false, laid := [("loop.example/g01538/impl.slotSizes", laid_loop_example_g01538_impl_slotSizes)] }
def FnExactValidSaid : Prop := fnExactValidRow.holds Tryd.pinned (OpenSpec.ofChange fnExactValidSpec)

/-- ITS FALSE NEIGHBOUR: 'it returns false'. Refute it at one input. -/
def fnExactValidWrong : ChangeSpec := { name := "fnExactValid", vars := ["loop.example/g01538/impl.slotSizes"], fn := fun _ => fun
  | [d1, d2, g1] => { results := [.lit (.bool false)], args := [d1, d2], vars := [g1] }
  | _ => none }
def FnExactValidWrongFalsely : Prop := fnExactValidRow.holds Tryd.pinned (OpenSpec.ofChange fnExactValidWrong)

/-- 'laws.FnExactCounts': WHATEVER THE INPUT: true; the input reads as it did. -/
def fnExactCountsSpec : ChangeSpec := { name := "fnExactCounts", vars := ["loop.example/g01538/impl.slotSizes"], fn := fun _ => fun
  | [d, g1] => { results := [.lit (.bool true)], args := [d], vars := [g1] }
  | _ => none }
def fnExactCountsRow : OpenClaim := { program := "ytbfkdbbgbdihdacdoor", sum := "ef9b4ab2795cb86635dbe96bcb1a3942ea71e5de777bece9bd2bf4f51bd78737", func := "loop.example/g01538/laws.FnExactCounts", spec := "fnExactCounts", named := ["loop.example/g01538/impl.slotSizes"], apart := false, laid := [("loop.example/g01538/impl.slotSizes", laid_loop_example_g01538_impl_slotSizes)] }
def FnExactCountsSaid : Prop := fnExactCountsRow.holds Tryd.pinned (OpenSpec.ofChange fnExactCountsSpec)

/-- ITS FALSE NEIGHBOUR: 'it returns false'. Refute it at one input. -/
def fnExactCountsWrong : ChangeSpec := { name := "fnExactCounts", vars := ["loop.example/g01538/impl.slotSizes"], fn := fun _ => fun
  | [d, g1] => { results := [.lit (.bool false)], args := [d], vars := [g1] }
  | _ => none }
def FnExactCountsWrongFalsely : Prop := fnExactCountsRow.holds Tryd.pinned (OpenSpec.ofChange fnExactCountsWrong)

/-- 'laws.FnExactLoadIn': WHATEVER THE INPUT: true; the input reads as it did. -/
def fnExactLoadInSpec : ChangeSpec := { name := "fnExactLoadIn", vars := ["loop.example/g01538/impl.slotSizes"], fn := fun _ => fun
  | [d1, d2, d3, d4, g1] => { results := [.lit (.bool true)], args := [d1, d2, d3, d4], vars := [g1] }
  | _ => none }
def fnExactLoadInRow : OpenClaim := { program := "ytbfkdbbgbdihdacdoor", sum := "ef9b4ab2795cb86635dbe96bcb1a3942ea71e5de777bece9bd2bf4f51bd78737", func := "loop.example/g01538/laws.FnExactLoadIn", spec := "fnExactLoadIn", named := ["loop.example/g01538/impl.slotSizes"], apart := false, laid := [("loop.example/g01538/impl.slotSizes", laid_loop_example_g01538_impl_slotSizes)] }
def FnExactLoadInSaid : Prop := fnExactLoadInRow.holds Tryd.pinned (OpenSpec.ofChange fnExactLoadInSpec)

/-- ITS FALSE NEIGHBOUR: 'it returns false'. Refute it at one input. -/
def fnExactLoadInWrong : ChangeSpec := { name := "fnExactLoadIn", vars := ["loop.example/g01538/impl.slotSizes"], fn := fun _ => fun
  | [d1, d2, d3, d4, g1] => { results := [.lit (.bool false)], args := [d1, d2, d3, d4], vars := [g1] }
  | _ => none }
def FnExactLoadInWrongFalsely : Prop := fnExactLoadInRow.holds Tryd.pinned (OpenSpec.ofChange fnExactLoadInWrong)

/- THE SECOND FORM. 'bulk': how many values and letters a reading holds, each counted each time it is reached (what is shared counts as often as it is met; a slice's spare places count too). A statement '..UptoSaid' is the law's where the arguments, and the package variables that the reading takes, are together of bulk at most 1048576: NARROWER than '..Said'. Prove '..Said' where nothing that the law and all that it calls make is longer than what came in: it says more and counts as full. Else prove '..UptoSaid'. A law counts once. -/
mutual
def uptoBulk {H : Type} : DataW H → Nat
  | .lit (.string bytes) => bytes.length + 1
  | .lit _ => 1
  | .nil => 1
  | .ptr d => uptoBulk d + 1
  | .slice elems spare => uptoBulkAll elems + uptoBulkAll spare + 1
  | .agg parts => uptoBulkAll parts + 1
  | .iface _ d => uptoBulk d + 1
  | .map entries => uptoBulkEntries entries + 1
  | .held _ => 1
def uptoBulkAll {H : Type} : List (DataW H) → Nat
  | [] => 0
  | d :: r => uptoBulk d + uptoBulkAll r
def uptoBulkEntries {H : Type} : List (Lit × DataW H) → Nat
  | [] => 0
  | x :: r => uptoBulkEntry x + uptoBulkEntries r
def uptoBulkEntry {H : Type} : Lit × DataW H → Nat
  | (.string bytes, d) => bytes.length + uptoBulk d + 1
  | (_, d) => uptoBulk d + 1
 end
def uptoSmall : (H : Type) → List (DataW H) → Bool := fun _ ds => decide (uptoBulkAll ds ≤ 1048576)
def OpenSpec.upto (s : _root_.Go.ChangeSpec) : _root_.Go.OpenSpec := { _root_.Go.OpenSpec.ofChange s with cond := some uptoSmall }

/-- 'laws.FnExactSetGen', WHERE WHAT IT READS IS OF BULK AT MOST 1048576: true; the input reads as it did. -/
def fnExactSetGenUptoRow : OpenClaim := { program := "ytbfkdbbgbdihdacdoor", sum := "ef9b4ab2795cb86635dbe96bcb1a3942ea71e5de777bece9bd2bf4f51bd78737", func := "loop.example/g01538/laws.FnExactSetGen", spec := "fnExactSetGen", named := ["loop.example/g01538/impl.slotSizes"], apart := false, laid := [("loop.example/g01538/impl.slotSizes", laid_loop_example_g01538_impl_slotSizes)], narrowed := true }
def FnExactSetGenUptoSaid : Prop := fnExactSetGenUptoRow.holds Tryd.pinned (OpenSpec.upto fnExactSetGenSpec)

/-- 'laws.FnExactGrant', WHERE WHAT IT READS IS OF BULK AT MOST 1048576: true; the input reads as it did. -/
def fnExactGrantUptoRow : OpenClaim := { program := "ytbfkdbbgbdihdacdoor", sum := "ef9b4ab2795cb86635dbe96bcb1a3942ea71e5de777bece9bd2bf4f51bd78737", func := "loop.example/g01538/laws.FnExactGrant", spec := "fnExactGrant", named := ["loop.example/g01538/impl.slotSizes"], apart := false, laid := [("loop.example/g01538/impl.slotSizes", laid_loop_example_g01538_impl_slotSizes)], narrowed := true }
def FnExactGrantUptoSaid : Prop := fnExactGrantUptoRow.holds Tryd.pinned (OpenSpec.upto fnExactGrantSpec)

/-- 'laws.FnExactMemOk', WHERE WHAT IT READS IS OF BULK AT MOST 1048576: true; the input reads as it did. -/
def fnExactMemOkUptoRow : OpenClaim := { program := "ytbfkdbbgbdihdacdoor", sum := "ef9b4ab2795cb86635dbe96bcb1a3942ea71e5de777bece9bd2bf4f51bd78737", func := "loop.example/g01538/laws.FnExactMemOk", spec := "fnExactMemOk", named := ["loop.example/g01538/impl.slotSizes"], apart := false, laid := [("loop.example/g01538/impl.slotSizes", laid_loop_example_g01538_impl_slotSizes)], narrowed := true }
def FnExactMemOkUptoSaid : Prop := fnExactMemOkUptoRow.holds Tryd.pinned (OpenSpec.upto fnExactMemOkSpec)

/-- 'laws.FnExactStateOf', WHERE WHAT IT READS IS OF BULK AT MOST 1048576: true; the input reads as it did. -/
def fnExactStateOfUptoRow : OpenClaim := { program := "ytbfkdbbgbdihdacdoor", sum := "ef9b4ab2795cb86635dbe96bcb1a3942ea71e5de777bece9bd2bf4f51bd78737", func := "loop.example/g01538/laws.FnExactStateOf", spec := "fnExactStateOf", named := ["loop.example/g01538/impl.slotSizes"], apart := false, laid := [("loop.example/g01538/impl.slotSizes", laid_loop_example_g01538_impl_slotSizes)], narrowed := true }
def FnExactStateOfUptoSaid : Prop := fnExactStateOfUptoRow.holds Tryd.pinned (OpenSpec.upto fnExactStateOfSpec)

/-- 'laws.FnExactValid', WHERE WHAT IT READS IS OF BULK AT MOST 1048576: true; the input reads as it did. -/
def fnExactValidUptoRow : OpenClaim := { program := "ytbfkdbbgbdihdacdoor", sum := "ef9b4ab2795cb86635dbe96bcb1a3942ea71e5de777bece9bd2bf4f51bd78737", func := "loop.example/g01538/laws.FnExactValid", spec := "fnExactValid", named := ["loop.example/g01538/impl.slotSizes"], apart := false, laid := [("loop.example/g01538/impl.slotSizes", laid_loop_example_g01538_impl_slotSizes)], narrowed := true }
def FnExactValidUptoSaid : Prop := fnExactValidUptoRow.holds Tryd.pinned (OpenSpec.upto fnExactValidSpec)

/-- 'laws.FnExactCounts', WHERE WHAT IT READS IS OF BULK AT MOST 1048576: true; the input reads as it did. -/
def fnExactCountsUptoRow : OpenClaim := { program := "ytbfkdbbgbdihdacdoor", sum := "ef9b4ab2795cb86635dbe96bcb1a3942ea71e5de777bece9bd2bf4f51bd78737", func := "loop.example/g01538/laws.FnExactCounts", spec := "fnExactCounts", named := ["loop.example/g01538/impl.slotSizes"], apart := false, laid := [("loop.example/g01538/impl.slotSizes", laid_loop_example_g01538_impl_slotSizes)], narrowed := true }
def FnExactCountsUptoSaid : Prop := fnExactCountsUptoRow.holds Tryd.pinned (OpenSpec.upto fnExactCountsSpec)

/-- 'laws.FnExactLoadIn', WHERE WHAT IT READS IS OF BULK AT MOST 1048576: true; the input reads as it did. -/
def fnExactLoadInUptoRow : OpenClaim := { program := "ytbfkdbbgbdihdacdoor", sum := "ef9b4ab2795cb86635dbe96bcb1a3942ea71e5de777bece9bd2bf4f51bd78737", func := "loop.example/g01538/laws.FnExactLoadIn", spec := "fnExactLoadIn", named := ["loop.example/g01538/impl.slotSizes"], apart := false, laid := [("loop.example/g01538/impl.slotSizes", laid_loop_example_g01538_impl_slotSizes)], narrowed := true }
def FnExactLoadInUptoSaid : Prop := fnExactLoadInUptoRow.holds Tryd.pinned (OpenSpec.upto fnExactLoadInSpec)

end Rows
end Go.Proofs.YtbfkdbbgbdihdacDoor
