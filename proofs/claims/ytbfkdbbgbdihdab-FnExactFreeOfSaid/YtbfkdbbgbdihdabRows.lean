/-
  No cell of these rows narrows 'for every input' (looked for: loops, veiled, ifaces, maps, wideKeys, modest, calm, conditions, laid).
  DERIVED. THE GIVEN ROWS OF THIS SEAT. 7 by the template 'for every input the law returns true; each argument reads behind the call as it read before'; 0 by the template 'total and deterministic' (their statements: YtbfkdbbgbdihdabTotals.lean).
  GIVEN WITH THE SEED: the statements are not yours to turn. If you find one false, say at which input.
  Laid BY PROGRAM, IN A SANDBOX (cutbox-rows.mjs): the forced cells as the released guide's own fill.sh prints them over the translation 5b046d31007c5a3c… (all of the seat's roots in one cut). By AI agents, Wed Nov 11 2026. No macro, syntax, notation, axiom, sorry.
-/
import Derived.Test.YtbfkdbbgbdihdabChecked
import GoSem.Claim
import GoSem.ClaimJoined
import GoSem.ClaimMapViews
import Derived.JoinedTies
import Derived.KernelRfl
namespace Go.Proofs.Ytbfkdbbgbdihdab
/- THE CELL 'sum', in the pinned program and in every row, IS THE sha256 OF THE DUMP (.gsa) THAT YtbfkdbbgbdihdabProg.lean LOADS. Nothing in Lean hashes anything: it is a label: what it is worth is what the hold of that sum in a sandbox is worth. -/
noncomputable def Try.pinned : Pinned := { name := "ytbfkdbbgbdihdab", sum := "5b046d31007c5a3c335056a112477921ba255ebac53ac716a5efaf0399a0943c", checked := Try.checked }
namespace Rows
def none {H : Type} : Left H := { results := [], args := [] }

/-- 'laws.FnExactListsOk': WHATEVER THE INPUT: true; the input reads as it did. -/
def fnExactListsOkSpec : ChangeSpec := { name := "fnExactListsOk", fn := fun _ => fun
  | [d] => { results := [.lit (.bool true)], args := [d] }
  | _ => none }
def fnExactListsOkRow : OpenClaim := { program := "ytbfkdbbgbdihdab", sum := "5b046d31007c5a3c335056a112477921ba255ebac53ac716a5efaf0399a0943c", func := "loop.example/g01538/laws.FnExactListsOk", spec := "fnExactListsOk", apart := false }
def FnExactListsOkSaid : Prop := fnExactListsOkRow.holds Try.pinned (OpenSpec.ofChange fnExactListsOkSpec)

/-- ITS FALSE NEIGHBOUR: 'it returns false'. Refute it at one input. -/
def fnExactListsOkWrong : ChangeSpec := { name := "fnExactListsOk", fn := fun _ => fun
  | [d] => { results := [.lit (.bool false)], args := [d] }
  | _ => none }
def FnExactListsOkWrongFalsely : Prop := fnExactListsOkRow.holds Try.pinned (OpenSpec.ofChange fnExactListsOkWrong)

/-- 'laws.FnExactOnList': WHATEVER THE INPUT: true; the input reads as it did. -/
def fnExactOnListSpec : ChangeSpec := { name := "fnExactOnList", fn := fun _ => fun
  | [d1, d2] => { results := [.lit (.bool true)], args := [d1, d2] }
  | _ => none }
def fnExactOnListRow : OpenClaim := { program := "ytbfkdbbgbdihdab", sum := "5b046d31007c5a3c335056a112477921ba255ebac53ac716a5efaf0399a0943c", func := "loop.example/g01538/laws.FnExactOnList", spec := "fnExactOnList", apart := false }
def FnExactOnListSaid : Prop := fnExactOnListRow.holds Try.pinned (OpenSpec.ofChange fnExactOnListSpec)

/-- ITS FALSE NEIGHBOUR: 'it returns false'. Refute it at one input. -/
def fnExactOnListWrong : ChangeSpec := { name := "fnExactOnList", fn := fun _ => fun
  | [d1, d2] => { results := [.lit (.bool false)], args := [d1, d2] }
  | _ => none }
def FnExactOnListWrongFalsely : Prop := fnExactOnListRow.holds Try.pinned (OpenSpec.ofChange fnExactOnListWrong)

/-- 'laws.FnExactFreeOf': WHATEVER THE INPUT: true; the input reads as it did. -/
def fnExactFreeOfSpec : ChangeSpec := { name := "fnExactFreeOf", fn := fun _ => fun
  | [d1, d2] => { results := [.lit (.bool true)], args := [d1, d2] }
  | _ => none }
def fnExactFreeOfRow : OpenClaim := { program := "ytbfkdbbgbdihdab", sum := "5b046d31007c5a3c335056a112477921ba255ebac53ac716a5efaf0399a0943c", func := "loop.example/g01538/laws.FnExactFreeOf", spec := "fnExactFreeOf", apart := false }
def FnExactFreeOfSaid : Prop := fnExactFreeOfRow.holds Try.pinned (OpenSpec.ofChange fnExactFreeOfSpec)

/-- ITS FALSE NEIGHBOUR: 'it returns false'. Refute it at one input. -/
def fnExactFreeOfWrong : ChangeSpec := { name := "fnExactFreeOf", fn := fun _ => fun
  | [d1, d2] => { results := [.lit (.bool false)], args := [d1, d2] }
  | _ => none }
def FnExactFreeOfWrongFalsely : Prop := fnExactFreeOfRow.holds Try.pinned (OpenSpec.ofChange fnExactFreeOfWrong)

/-- 'laws.FnExactTakeOwn': WHATEVER THE INPUT: true; the input reads as it did. -/
def fnExactTakeOwnSpec : ChangeSpec := { name := "fnExactTakeOwn", fn := fun _ => fun
  | [d1, d2, d3] => { results := [.lit (.bool true)], args := [d1, d2, d3] }
  | _ => none }
def fnExactTakeOwnRow : OpenClaim := { program := "ytbfkdbbgbdihdab", sum := "5b046d31007c5a3c335056a112477921ba255ebac53ac716a5efaf0399a0943c", func := "loop.example/g01538/laws.FnExactTakeOwn", spec := "fnExactTakeOwn", apart := false }
def FnExactTakeOwnSaid : Prop := fnExactTakeOwnRow.holds Try.pinned (OpenSpec.ofChange fnExactTakeOwnSpec)

/-- ITS FALSE NEIGHBOUR: 'it returns false'. Refute it at one input. -/
def fnExactTakeOwnWrong : ChangeSpec := { name := "fnExactTakeOwn", fn := fun _ => fun
  | [d1, d2, d3] => { results := [.lit (.bool false)], args := [d1, d2, d3] }
  | _ => none }
def FnExactTakeOwnWrongFalsely : Prop := fnExactTakeOwnRow.holds Try.pinned (OpenSpec.ofChange fnExactTakeOwnWrong)

/-- 'laws.FnExactTakeGlobal': WHATEVER THE INPUT: true; the input reads as it did. -/
def fnExactTakeGlobalSpec : ChangeSpec := { name := "fnExactTakeGlobal", fn := fun _ => fun
  | [d1, d2] => { results := [.lit (.bool true)], args := [d1, d2] }
  | _ => none }
def fnExactTakeGlobalRow : OpenClaim := { program := "ytbfkdbbgbdihdab", sum := "5b046d31007c5a3c335056a112477921ba255ebac53ac716a5efaf0399a0943c", func := "loop.example/g01538/laws.FnExactTakeGlobal", spec := "fnExactTakeGlobal", apart := false }
def FnExactTakeGlobalSaid : Prop := fnExactTakeGlobalRow.holds Try.pinned (OpenSpec.ofChange fnExactTakeGlobalSpec)

/-- ITS FALSE NEIGHBOUR: 'it returns false'. Refute it at one input. -/
def fnExactTakeGlobalWrong : ChangeSpec := { name := "fnExactTakeGlobal", fn := fun _ => fun
  | [d1, d2] => { results := [.lit (.bool false)], args := [d1, d2] }
  | _ => none }
def FnExactTakeGlobalWrongFalsely : Prop := fnExactTakeGlobalRow.holds Try.pinned (OpenSpec.ofChange fnExactTakeGlobalWrong)

/-- 'laws.FnExactGive': WHATEVER THE INPUT: true; the input reads as it did. -/
def fnExactGiveSpec : ChangeSpec := { name := "fnExactGive", fn := fun _ => fun
  | [d1, d2, d3, d4] => { results := [.lit (.bool true)], args := [d1, d2, d3, d4] }
  | _ => none }
def fnExactGiveRow : OpenClaim := { program := "ytbfkdbbgbdihdab", sum := "5b046d31007c5a3c335056a112477921ba255ebac53ac716a5efaf0399a0943c", func := "loop.example/g01538/laws.FnExactGive", spec := "fnExactGive", apart := false }
def FnExactGiveSaid : Prop := fnExactGiveRow.holds Try.pinned (OpenSpec.ofChange fnExactGiveSpec)

/-- ITS FALSE NEIGHBOUR: 'it returns false'. Refute it at one input. -/
def fnExactGiveWrong : ChangeSpec := { name := "fnExactGive", fn := fun _ => fun
  | [d1, d2, d3, d4] => { results := [.lit (.bool false)], args := [d1, d2, d3, d4] }
  | _ => none }
def FnExactGiveWrongFalsely : Prop := fnExactGiveRow.holds Try.pinned (OpenSpec.ofChange fnExactGiveWrong)

/-- 'laws.FnExactHeapNew': WHATEVER THE INPUT: true; the input reads as it did. -/
def fnExactHeapNewSpec : ChangeSpec := { name := "fnExactHeapNew", fn := fun _ => fun
  | [] => { results := [.lit (.bool true)], args := [] }
  | _ => none }
def fnExactHeapNewRow : OpenClaim := { program := "ytbfkdbbgbdihdab", sum := "5b046d31007c5a3c335056a112477921ba255ebac53ac716a5efaf0399a0943c", func := "loop.example/g01538/laws.FnExactHeapNew", spec := "fnExactHeapNew", apart := false }
def FnExactHeapNewSaid : Prop := fnExactHeapNewRow.holds Try.pinned (OpenSpec.ofChange fnExactHeapNewSpec)

/-- ITS FALSE NEIGHBOUR: 'it returns false'. Refute it at one input. -/
def fnExactHeapNewWrong : ChangeSpec := { name := "fnExactHeapNew", fn := fun _ => fun
  | [] => { results := [.lit (.bool false)], args := [] }
  | _ => none }
def FnExactHeapNewWrongFalsely : Prop := fnExactHeapNewRow.holds Try.pinned (OpenSpec.ofChange fnExactHeapNewWrong)

/- THE SECOND FORM. 'bulk': how many values and letters a reading holds, each counted each time it is reached (what is shared counts as often as it is met; a slice's spare places count too). A statement '..UptoSaid' is the law's where the arguments, and the package variables that the reading takes, are together of bulk at most 1048576: NARROWER than '..Said'. Prove '..Said' where nothing that the law and all that it calls make is longer than what came in: it says more and counts as full. Else prove '..UptoSaid'. A law counts once. -/
mutual
def uptoBulk {H : Type} : DataW H → Nat
  | .lit (.string bytes) => bytes.length + 1
  | .lit _ => 1
  | .nil => 1
  | .ptr d => uptoBulk d + 1
  | .slice elems spare => uptoBulkAll elems + uptoBulkAll spare + 1
  | .agg parts => uptoBulkAll parts + 1
  | .iface _ d => uptoBulk d + 1
  | .map entries => uptoBulkEntries entries + 1
  | .held _ => 1
def uptoBulkAll {H : Type} : List (DataW H) → Nat
  | [] => 0
  | d :: r => uptoBulk d + uptoBulkAll r
def uptoBulkEntries {H : Type} : List (Lit × DataW H) → Nat
  | [] => 0
  | x :: r => uptoBulkEntry x + uptoBulkEntries r
def uptoBulkEntry {H : Type} : Lit × DataW H → Nat
  | (.string bytes, d) => bytes.length + uptoBulk d + 1
  | (_, d) => uptoBulk d + 1
 end
def uptoSmall : (H : Type) → List (DataW H) → Bool := fun _ ds => decide (uptoBulkAll ds ≤ 1048576)
def OpenSpec.upto (s : _root_.Go.ChangeSpec) : _root_.Go.OpenSpec := { _root_.Go.OpenSpec.ofChange s with cond := some uptoSmall }

/-- 'laws.FnExactListsOk', WHERE WHAT IT READS IS OF BULK AT MOST 1048576: true; the input reads as it did. -/
def fnExactListsOkUptoRow : OpenClaim := { program := "ytbfkdbbgbdihdab", sum := "5b046d31007c5a3c335056a112477921ba255ebac53ac716a5efaf0399a0943c", func := "loop.example/g01538/laws.FnExactListsOk", spec := "fnExactListsOk", apart := false, narrowed := true }
def FnExactListsOkUptoSaid : Prop := fnExactListsOkUptoRow.holds Try.pinned (OpenSpec.upto fnExactListsOkSpec)

/-- 'laws.FnExactOnList', WHERE WHAT IT READS IS OF BULK AT MOST 1048576: true; the input reads as it did. -/
def fnExactOnListUptoRow : OpenClaim := { program := "ytbfkdbbgbdihdab", sum := "5b046d31007c5a3c335056a112477921ba255ebac53ac716a5efaf0399a0943c", func := "loop.example/g01538/laws.FnExactOnList", spec := "fnExactOnList", apart := false, narrowed := true }
def FnExactOnListUptoSaid : Prop := fnExactOnListUptoRow.holds Try.pinned (OpenSpec.upto fnExactOnListSpec)

/-- 'laws.FnExactFreeOf', WHERE WHAT IT READS IS OF BULK AT MOST 1048576: true; the input reads as it did. -/
def fnExactFreeOfUptoRow : OpenClaim := { program := "ytbfkdbbgbdihdab", sum := "5b046d31007c5a3c335056a112477921ba255ebac53ac716a5efaf0399a0943c", func := "loop.example/g01538/laws.FnExactFreeOf", spec := "fnExactFreeOf", apart := false, narrowed := true }
def FnExactFreeOfUptoSaid : Prop := fnExactFreeOfUptoRow.holds Try.pinned (OpenSpec.upto fnExactFreeOfSpec)

/-- 'laws.FnExactTakeOwn', WHERE WHAT IT READS IS OF BULK AT MOST 1048576: true; the input reads as it did. -/
def fnExactTakeOwnUptoRow : OpenClaim := { program := "ytbfkdbbgbdihdab", sum := "5b046d31007c5a3c335056a112477921ba255ebac53ac716a5efaf0399a0943c", func := "loop.example/g01538/laws.FnExactTakeOwn", spec := "fnExactTakeOwn", apart := false, narrowed := true }
def FnExactTakeOwnUptoSaid : Prop := fnExactTakeOwnUptoRow.holds Try.pinned (OpenSpec.upto fnExactTakeOwnSpec)

/-- 'laws.FnExactTakeGlobal', WHERE WHAT IT READS IS OF BULK AT MOST 1048576: true; the input reads as it did. -/
def fnExactTakeGlobalUptoRow : OpenClaim := { program := "ytbfkdbbgbdihdab", sum := "5b046d31007c5a3c335056a112477921ba255ebac53ac716a5efaf0399a0943c", func := "loop.example/g01538/laws.FnExactTakeGlobal", spec := "fnExactTakeGlobal", apart := false, narrowed := true }
def FnExactTakeGlobalUptoSaid : Prop := fnExactTakeGlobalUptoRow.holds Try.pinned (OpenSpec.upto fnExactTakeGlobalSpec)

/-- 'laws.FnExactGive', WHERE WHAT IT READS IS OF BULK AT MOST 1048576: true; the input reads as it did. -/
def fnExactGiveUptoRow : OpenClaim := { program := "ytbfkdbbgbdihdab", sum := "5b046d31007c5a3c335056a112477921ba255ebac53ac716a5efaf0399a0943c", func := "loop.example/g01538/laws.FnExactGive", spec := "fnExactGive", apart := false, narrowed := true }
def FnExactGiveUptoSaid : Prop := fnExactGiveUptoRow.holds Try.pinned (OpenSpec.upto fnExactGiveSpec)

/-- 'laws.FnExactHeapNew', WHERE WHAT IT READS IS OF BULK AT MOST 1048576: true; the input reads as it did. -/
def fnExactHeapNewUptoRow : OpenClaim := { program := "ytbfkdbbgbdihdab", sum := "5b046d31007c5a3c335056a112477921ba255ebac53ac716a5efaf0399a0943c", func := "loop.example/g01538/laws.FnExactHeapNew", spec := "fnExactHeapNew", apart := false, narrowed := true }
def FnExactHeapNewUptoSaid : Prop := fnExactHeapNewUptoRow.holds Try.pinned (OpenSpec.upto fnExactHeapNewSpec)

end Rows
end Go.Proofs.Ytbfkdbbgbdihdab
