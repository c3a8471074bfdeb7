/-
  NARROWER THAN 'FOR EVERY INPUT', by the rows' own cells (each row's printed sentence says how): FnExactSetGen: laid · FnExactGrant: laid · FnExactNodeAt: laid · FnExactRawLoad: laid.
  DERIVED. THE GIVEN ROWS OF THIS SEAT. 4 by the template 'for every input the law returns true; each argument reads behind the call as it read before'; 0 by the template 'total and deterministic' (their statements: YtpmhkpmkmbkjbaaDoorTotals.lean).
  GIVEN WITH THE SEED: the statements are not yours to turn. If you find one false, say at which input.
  Laid BY PROGRAM, IN A SANDBOX (cutbox-rows.mjs): the forced cells as the released guide's own fill.sh prints them over the translation 0cea15f7958dba71… (all of the seat's roots in one cut). By AI agents, Wed Nov 11 2026. No macro, syntax, notation, axiom, sorry.
-/
import Derived.Test.YtpmhkpmkmbkjbaaDoorChecked
import GoSem.Claim
import GoSem.ClaimJoined
import GoSem.ClaimMapViews
import Derived.JoinedTies
import Derived.KernelRfl
namespace Go.Proofs.YtpmhkpmkmbkjbaaDoor
/- THE CELL 'sum', in the pinned program and in every row, IS THE sha256 OF THE DUMP (.gsa) THAT YtpmhkpmkmbkjbaaDoorProg.lean LOADS. Nothing in Lean hashes anything: it is a label: what it is worth is what the hold of that sum in a sandbox is worth. -/
noncomputable def Tryd.pinned : Pinned := { name := "ytpmhkpmkmbkjbaadoor", sum := "0cea15f7958dba71aa08d8fd29ea4fc6bd72d09ab1ce5401aa528aced2b244cb", checked := Tryd.checked }
namespace Rows
def none {H : Type} : Left H := { results := [], args := [] }

/- WHAT THE LISTED PACKAGE-LEVEL VARIABLES READ AS WHEN THE CALL BEGINS. Each datum BY PROGRAM (the guide's laid-datum.mjs) off the statement by which the dump's own 'gosem.cut.vars' lays the variable. In a bare row this is a premise. The card (YtpmhkpmkmbkjbaaDoorCards.lean) ties it to the program's text. -/
def laid_loop_example_g01538_impl_slotSizes {H : Type} : DataW H := .agg [.lit (.int .i64 8), .lit (.int .i64 16), .lit (.int .i64 40)]

/-- 'laws.FnExactSetGen': WHATEVER THE INPUT: true; the input reads as it did. -/
def fnExactSetGenSpec : ChangeSpec := { name := "fnExactSetGen", vars := ["loop.example/g01538/impl.slotSizes"], fn := fun _ => fun
  | [d1, d2, d3, g1] => { results := [.lit (.bool true)], args := [d1, d2, d3], vars := [g1] }
  | _ => none }
def fnExactSetGenRow : OpenClaim := { program := "ytpmhkpmkmbkjbaadoor", sum := "0cea15f7958dba71aa08d8fd29ea4fc6bd72d09ab1ce5401aa528aced2b244cb", func := "loop.example/g01538/laws.FnExactSetGen", spec := "fnExactSetGen", named := ["loop.example/g01538/impl.slotSizes"], apart := false, laid := [("loop.example/g01538/impl.slotSizes", laid_loop_example_g01538_impl_slotSizes)] }
def FnExactSetGenSaid : Prop := fnExactSetGenRow.holds Tryd.pinned (OpenSpec.ofChange fnExactSetGenSpec)

/-- ITS FALSE NEIGHBOUR: 'it returns false'. Refute it at one input. -/
def fnExactSetGenWrong : ChangeSpec := { name := "fnExactSetGen", vars := ["loop.example/g01538/impl.slotSizes"], fn := fun _ => fun
  | [d1, d2, d3, g1] => { results := [.lit (.bool false)], args := [d1, d2, d3], vars := [g1] }
  | _ => none }
def FnExactSetGenWrongFalsely : Prop := fnExactSetGenRow.holds Tryd.pinned (OpenSpec.ofChange fnExactSetGenWrong)

/-- 'laws.FnExactGrant': WHATEVER THE INPUT: true; the input reads as it did. -/
def fnExactGrantSpec : ChangeSpec := { name := "fnExactGrant", vars := ["loop.example/g01538/impl.slotSizes"], fn := fun _ => fun
  | [d1, d2, g1] => { results := [.lit (.bool true)], args := [d1, d2], vars := [g1] }
  | _ => none }
def fnExactGrantRow : OpenClaim := { program := "ytpmhkpmkmbkjbaadoor", sum := "0cea15f7958dba71aa08d8fd29ea4fc6bd72d09ab1ce5401aa528aced2b244cb", func := "loop.example/g01538/laws.FnExactGrant", spec := "fnExactGrant", named := ["loop.example/g01538/impl.slotSizes"], apart := false, laid := [("loop.example/g01538/impl.slotSizes", laid_loop_example_g01538_impl_slotSizes)] }
def FnExactGrantSaid : Prop := fnExactGrantRow.holds Tryd.pinned (OpenSpec.ofChange fnExactGrantSpec)

/-- ITS FALSE NEIGHBOUR: 'it returns false'. Refute it at one input. -/
def fnExactGrantWrong : ChangeSpec := { name := "fnExactGrant", vars := ["loop.example/g01538/impl.slotSizes"], fn := fun _ => fun
  | [d1, d2, g1] => { results := [.lit (.bool false)], args := [d1, d2], vars := [g1] }
  | _ => none }
def FnExactGrantWrongFalsely : Prop := fnExactGrantRow.holds Tryd.pinned (OpenSpec.ofChange fnExactGrantWrong)

/-- 'laws.FnExactNodeAt': WHATEVER THE INPUT: true; the input reads as it did. -/
def fnExactNodeAtSpec : ChangeSpec := { name := "fnExactNodeAt", vars := ["loop.example/g01538/impl.slotSizes"], fn := fun _ => fun
  | [d1, d2, g1] => { results := [.lit (.bool true)], args := [d1, d2], vars := [g1] }
  | _ => none }
def fnExactNodeAtRow : OpenClaim := { program := "ytpmhkpmkmbkjbaadoor", sum := "0cea15f7958dba71aa08d8fd29ea4fc6bd72d09ab1ce5401aa528aced2b244cb", func := "loop.example/g01538/laws.FnExactNodeAt", spec := "fnExactNodeAt", named := ["loop.example/g01538/impl.slotSizes"], apart := false, laid := [("loop.example/g01538/impl.slotSizes", laid_loop_example_g01538_impl_slotSizes)] }
def FnExactNodeAtSaid : Prop := fnExactNodeAtRow.holds Tryd.pinned (OpenSpec.ofChange fnExactNodeAtSpec)

/-- ITS FALSE NEIGHBOUR: 'it returns false'. Refute it at one input. -/
def fnExactNodeAtWrong : ChangeSpec := { name := "fnExactNodeAt", vars := ["loop.example/g01538/impl.slotSizes"], fn := fun _ => fun
  | [d1, d2, g1] => { results := [.lit (.bool false)], args := [d1, d2], vars := [g1] }
  | _ => none }
def FnExactNodeAtWrongFalsely : Prop := fnExactNodeAtRow.holds Tryd.pinned (OpenSpec.ofChange fnExactNodeAtWrong)

/-- 'laws.FnExactRawLoad': WHATEVER THE INPUT: true; the input reads as it did. -/
def fnExactRawLoadSpec : ChangeSpec := { name := "fnExactRawLoad", vars := ["loop.example/g01538/impl.slotSizes"], fn := fun _ => fun
  | [d1, d2, d3, d4, g1] => { results := [.lit (.bool true)], args := [d1, d2, d3, d4], vars := [g1] }
  | _ => none }
def fnExactRawLoadRow : OpenClaim := { program := "ytpmhkpmkmbkjbaadoor", sum := "0cea15f7958dba71aa08d8fd29ea4fc6bd72d09ab1ce5401aa528aced2b244cb", func := "loop.example/g01538/laws.FnExactRawLoad", spec := "fnExactRawLoad", named := ["loop.example/g01538/impl.slotSizes"], apart := false, laid := [("loop.example/g01538/impl.slotSizes", laid_loop_example_g01538_impl_slotSizes)] }
def FnExactRawLoadSaid : Prop := fnExactRawLoadRow.holds Tryd.pinned (OpenSpec.ofChange fnExactRawLoadSpec)

/-- ITS FALSE NEIGHBOUR: 'it returns false'. Refute it at one input. -/
def fnExactRawLoadWrong : ChangeSpec := { name := "fnExactRawLoad", vars := ["loop.example/g01538/impl.slotSizes"], fn := fun _ => fun
  | [d1, d2, d3, d4, g1] => { results := [.lit (.bool false)], args := [d1, d2, d3, d4], vars := [g1] }
  | _ => none }
def FnExactRawLoadWrongFalsely : Prop := fnExactRawLoadRow.holds Tryd.pinned (OpenSpec.ofChange fnExactRawLoadWrong)

/- THE SECOND FORM. 'bulk': how many values and letters a reading holds, each counted each time it is reached (what is shared counts as often as it is met; a slice's spare places count too). A statement '..UptoSaid' is the law's where the arguments, and the package variables that the reading takes, are together of bulk at most 1048576: NARROWER than '..Said'. Prove '..Said' where nothing that the law and all that it calls make is longer than what came in: it says more and counts as full. Else prove '..UptoSaid'. A law counts once. -/
mutual
def uptoBulk {H : Type} : DataW H → Nat
  | .lit (.string bytes) => bytes.length + 1
  | .lit _ => 1
  | .nil => 1
  | .ptr d => uptoBulk d + 1
  | .slice elems spare => uptoBulkAll elems + uptoBulkAll spare + 1
  | .agg parts => uptoBulkAll parts + 1
  | .iface _ d => uptoBulk d + 1
  | .map entries => uptoBulkEntries entries + 1
  | .held _ => 1
def uptoBulkAll {H : Type} : List (DataW H) → Nat
  | [] => 0
  | d :: r => uptoBulk d + uptoBulkAll r
def uptoBulkEntries {H : Type} : List (Lit × DataW H) → Nat
  | [] => 0
  | x :: r => uptoBulkEntry x + uptoBulkEntries r
def uptoBulkEntry {H : Type} : Lit × DataW H → Nat
  | (.string bytes, d) => bytes.length + uptoBulk d + 1
  | (_, d) => uptoBulk d + 1
 end
def uptoSmall : (H : Type) → List (DataW H) → Bool := fun _ ds => decide (uptoBulkAll ds ≤ 1048576)
def OpenSpec.upto (s : _root_.Go.ChangeSpec) : _root_.Go.OpenSpec := { _root_.Go.OpenSpec.ofChange s with cond := some uptoSmall }

/-- 'laws.FnExactSetGen', WHERE WHAT IT READS IS OF BULK AT MOST 1048576: true; the input reads as it did. -/
def fnExactSetGenUptoRow : OpenClaim := { program := "ytpmhkpmkmbkjbaadoor", sum := "0cea15f7958dba71aa08d8fd29ea4fc6bd72d09ab1ce5401aa528aced2b244cb", func := "loop.example/g01538/laws.FnExactSetGen", spec := "fnExactSetGen", named := ["loop.example/g01538/impl.slotSizes"], apart := false, laid := [("loop.example/g01538/impl.slotSizes", laid_loop_example_g01538_impl_slotSizes)], narrowed := true }
def FnExactSetGenUptoSaid : Prop := fnExactSetGenUptoRow.holds Tryd.pinned (OpenSpec.upto fnExactSetGenSpec)

/-- 'laws.FnExactGrant', WHERE WHAT IT READS IS OF BULK AT MOST 1048576: true; the input reads as it did. -/
def fnExactGrantUptoRow : OpenClaim := { program := "ytpmhkpmkmbkjbaadoor", sum := "0cea15f7958dba71aa08d8fd29ea4fc6bd72d09ab1ce5401aa528aced2b244cb", func := "loop.example/g01538/laws.FnExactGrant", spec := "fnExactGrant", named := ["loop.example/g01538/impl.slotSizes"], apart := false, laid := [("loop.example/g01538/impl.slotSizes", laid_loop_example_g01538_impl_slotSizes)], narrowed := true }
def FnExactGrantUptoSaid : Prop := fnExactGrantUptoRow.holds Tryd.pinned (OpenSpec.upto fnExactGrantSpec)

/-- 'laws.FnExactNodeAt', WHERE WHAT IT READS IS OF BULK AT MOST 1048576: true; the input reads as it did. -/
def fnExactNodeAtUptoRow : OpenClaim := { program := "ytpmhkpmkmbkjbaadoor", sum := "0cea15f7958dba71aa08d8fd29ea4fc6bd72d09ab1ce5401aa528aced2b244cb", func := "loop.example/g01538/laws.FnExactNodeAt", spec := "fnExactNodeAt", named := ["loop.example/g01538/impl.slotSizes"], apart := false, laid := [("loop.example/g01538/impl.slotSizes", laid_loop_example_g01538_impl_slotSizes)], narrowed := true }
def FnExactNodeAtUptoSaid : Prop := fnExactNodeAtUptoRow.holds Tryd.pinned (OpenSpec.upto fnExactNodeAtSpec)

/-- 'laws.FnExactRawLoad', WHERE WHAT IT READS IS OF BULK AT MOST 1048576: true; the input reads as it did. -/
def fnExactRawLoadUptoRow : OpenClaim := { program := "ytpmhkpmkmbkjbaadoor", sum := "0cea15f7958dba71aa08d8fd29ea4fc6bd72d09ab1ce5401aa528aced2b244cb", func := "loop.example/g01538/laws.FnExactRawLoad", spec := "fnExactRawLoad", named := ["loop.example/g01538/impl.slotSizes"], apart := false, laid := [("loop.example/g01538/impl.slotSizes", laid_loop_example_g01538_impl_slotSizes)], narrowed := true }
def FnExactRawLoadUptoSaid : Prop := fnExactRawLoadUptoRow.holds Tryd.pinned (OpenSpec.upto fnExactRawLoadSpec)

end Rows
end Go.Proofs.YtpmhkpmkmbkjbaaDoor
