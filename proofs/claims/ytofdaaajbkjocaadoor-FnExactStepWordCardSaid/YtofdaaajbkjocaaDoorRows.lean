/-
  NARROWER THAN 'FOR EVERY INPUT', by the rows' own cells (each row's printed sentence says how): FnExactStepWord: laid.
  DERIVED. THE GIVEN ROWS OF THIS SEAT. 1 by the template 'for every input the law returns true; each argument reads behind the call as it read before'; 0 by the template 'total and deterministic' (their statements: YtofdaaajbkjocaaDoorTotals.lean).
  GIVEN WITH THE SEED: the statements are not yours to turn. If you find one false, say at which input.
  Laid BY PROGRAM, IN A SANDBOX (cutbox-rows.mjs): the forced cells as the released guide's own fill.sh prints them over the translation 0851c966c19279f0… (all of the seat's roots in one cut). By AI agents, Wed Nov 11 2026. No macro, syntax, notation, axiom, sorry.
-/
import Derived.Test.YtofdaaajbkjocaaDoorChecked
import GoSem.Claim
import GoSem.ClaimJoined
import GoSem.ClaimMapViews
import Derived.JoinedTies
import Derived.KernelRfl
namespace Go.Proofs.YtofdaaajbkjocaaDoor
/- THE CELL 'sum', in the pinned program and in every row, IS THE sha256 OF THE DUMP (.gsa) THAT YtofdaaajbkjocaaDoorProg.lean LOADS. Nothing in Lean hashes anything: it is a label: what it is worth is what the hold of that sum in a sandbox is worth. -/
noncomputable def Tryd.pinned : Pinned := { name := "ytofdaaajbkjocaadoor", sum := "0851c966c19279f0210eda468632c274e98691d7c41a2444acd7b37cfe6cf677", checked := Tryd.checked }
namespace Rows
def none {H : Type} : Left H := { results := [], args := [] }

/- WHAT THE LISTED PACKAGE-LEVEL VARIABLES READ AS WHEN THE CALL BEGINS. Each datum BY PROGRAM (the guide's laid-datum.mjs) off the statement by which the dump's own 'gosem.cut.vars' lays the variable. In a bare row this is a premise. The card (YtofdaaajbkjocaaDoorCards.lean) ties it to the program's text. -/
def laid_loop_example_g01538_impl_stepWords {H : Type} : DataW H := .agg [.lit (.string [112, 105, 110]), .lit (.string [110, 101, 120, 116]), .lit (.string [104, 101, 97, 100]), .lit (.string [119, 97, 108, 107]), .lit (.string [109, 97, 114, 107]), .lit (.string [99, 104, 101, 99, 107]), .lit (.string [97, 108, 108, 111, 99]), .lit (.string [108, 111, 99, 107]), .lit (.string [118, 97, 108, 105, 100]), .lit (.string [102, 105, 110, 100]), .lit (.string [115, 116, 101, 112]), .lit (.string [99, 117, 116]), .lit (.string [102, 105, 108, 108]), .lit (.string [108, 105, 110, 107]), .lit (.string [117, 110, 108, 111, 99, 107]), .lit (.string [114, 101, 116, 105, 114, 101]), .lit (.string [117, 110, 100, 111]), .lit (.string [100, 114, 111, 112]), .lit (.string [117, 110, 112, 105, 110]), .lit (.string [116, 101, 108, 108]), .lit (.string [97, 100, 118, 97, 110, 99, 101]), .lit (.string [99, 111, 108, 108, 101, 99, 116])]

/-- 'laws.FnExactStepWord': WHATEVER THE INPUT: true; the input reads as it did. -/
def fnExactStepWordSpec : ChangeSpec := { name := "fnExactStepWord", vars := ["loop.example/g01538/impl.stepWords"], fn := fun _ => fun
  | [d, g1] => { results := [.lit (.bool true)], args := [d], vars := [g1] }
  | _ => none }
def fnExactStepWordRow : OpenClaim := { program := "ytofdaaajbkjocaadoor", sum := "0851c966c19279f0210eda468632c274e98691d7c41a2444acd7b37cfe6cf677", func := "loop.example/g01538/laws.FnExactStepWord", spec := "fnExactStepWord", named := ["loop.example/g01538/impl.stepWords"], apart := false, laid := [("loop.example/g01538/impl.stepWords", laid_loop_example_g01538_impl_stepWords)] }
def FnExactStepWordSaid : Prop := fnExactStepWordRow.holds Tryd.pinned (OpenSpec.ofChange fnExactStepWordSpec)

/-- ITS FALSE NEIGHBOUR: 'it returns false'. Refute it at one input. -/
def fnExactStepWordWrong : ChangeSpec := { name := "fnExactStepWord", vars := ["loop.example/g01538/impl.stepWords"], fn := fun _ => fun
  | [d, g1] => { results := [.lit (.bool false)], args := [d], vars := [g1] }
  | _ => none }
def FnExactStepWordWrongFalsely : Prop := fnExactStepWordRow.holds Tryd.pinned (OpenSpec.ofChange fnExactStepWordWrong)

/- THE SECOND FORM. 'bulk': how many values and letters a reading holds, each counted each time it is reached (what is shared counts as often as it is met; a slice's spare places count too). A statement '..UptoSaid' is the law's where the arguments, and the package variables that the reading takes, are together of bulk at most 1048576: NARROWER than '..Said'. Prove '..Said' where nothing that the law and all that it calls make is longer than what came in: it says more and counts as full. Else prove '..UptoSaid'. A law counts once. -/
mutual
def uptoBulk {H : Type} : DataW H → Nat
  | .lit (.string bytes) => bytes.length + 1
  | .lit _ => 1
  | .nil => 1
  | .ptr d => uptoBulk d + 1
  | .slice elems spare => uptoBulkAll elems + uptoBulkAll spare + 1
  | .agg parts => uptoBulkAll parts + 1
  | .iface _ d => uptoBulk d + 1
  | .map entries => uptoBulkEntries entries + 1
  | .held _ => 1
def uptoBulkAll {H : Type} : List (DataW H) → Nat
  | [] => 0
  | d :: r => uptoBulk d + uptoBulkAll r
def uptoBulkEntries {H : Type} : List (Lit × DataW H) → Nat
  | [] => 0
  | x :: r => uptoBulkEntry x + uptoBulkEntries r
def uptoBulkEntry {H : Type} : Lit × DataW H → Nat
  | (.string bytes, d) => bytes.length + uptoBulk d + 1
  | (_, d) => uptoBulk d + 1
 end
def uptoSmall : (H : Type) → List (DataW H) → Bool := fun _ ds => decide (uptoBulkAll ds ≤ 1048576)
def OpenSpec.upto (s : _root_.Go.ChangeSpec) : _root_.Go.OpenSpec := { _root_.Go.OpenSpec.ofChange s with cond := some uptoSmall }

/-- 'laws.FnExactStepWord', WHERE WHAT IT READS IS OF BULK AT MOST 1048576: true; the input reads as it did. -/
def fnExactStepWordUptoRow : OpenClaim := { program := "ytofdaaajbkjocaadoor", sum := "0851c966c19279f0210eda468632c274e98691d7c41a2444acd7b37cfe6cf677", func := "loop.example/g01538/laws.FnExactStepWord", spec := "fnExactStepWord", named := ["loop.example/g01538/impl.stepWords"], apart := false, laid := [("loop.example/g01538/impl.stepWords", laid_loop_example_g01538_impl_stepWords)], narrowed := true }
def FnExactStepWordUptoSaid : Prop := fnExactStepWordUptoRow.holds Tryd.pinned (OpenSpec.upto fnExactStepWordSpec)

end Rows
end Go.Proofs.YtofdaaajbkjocaaDoor
