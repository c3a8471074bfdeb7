/-
  No cell of these rows narrows 'for every input' (looked for: loops, veiled, ifaces, maps, wideKeys, modest, calm, conditions, laid).
  DERIVED. THE GIVEN ROWS OF THIS SEAT. 8 by the template 'for every input the law returns true; each argument reads behind the call as it read before'; 0 by the template 'total and deterministic' (their statements: YthnihgnboelipacTotals.lean).
  GIVEN WITH THE SEED: the statements are not yours to turn. If you find one false, say at which input.
  Laid BY PROGRAM, IN A SANDBOX (cutbox-rows.mjs): the forced cells as the released guide's own fill.sh prints them over the translation 14dacf4bee697859… (all of the seat's roots in one cut). By AI agents, Wed Nov 11 2026. No macro, syntax, notation, axiom, sorry.
-/
import Derived.Test.YthnihgnboelipacChecked
import GoSem.Claim
import GoSem.ClaimJoined
import GoSem.ClaimMapViews
import Derived.JoinedTies
import Derived.KernelRfl
namespace Go.Proofs.Ythnihgnboelipac
/- THE CELL 'sum', in the pinned program and in every row, IS THE sha256 OF THE DUMP (.gsa) THAT YthnihgnboelipacProg.lean LOADS. Nothing in Lean hashes anything: it is a label: what it is worth is what the hold of that sum in a sandbox is worth. -/
noncomputable def Try.pinned : Pinned := { name := "ythnihgnboelipac", sum := "14dacf4bee697859126a3c8ea49ea9c8d05b291a8296dc0e1f3fd812f5991413", checked := Try.checked }
namespace Rows
def none {H : Type} : Left H := { results := [], args := [] }

/-- 'laws.FnHandles': WHATEVER THE INPUT: true; the input reads as it did. -/
def fnHandlesSpec : ChangeSpec := { name := "fnHandles", fn := fun _ => fun
  | [d] => { results := [.lit (.bool true)], args := [d] }
  | _ => none }
def fnHandlesRow : OpenClaim := { program := "ythnihgnboelipac", sum := "14dacf4bee697859126a3c8ea49ea9c8d05b291a8296dc0e1f3fd812f5991413", func := "loop.example/g01538/laws.FnHandles", spec := "fnHandles", apart := false }
def FnHandlesSaid : Prop := fnHandlesRow.holds Try.pinned (OpenSpec.ofChange fnHandlesSpec)

/-- ITS FALSE NEIGHBOUR: 'it returns false'. Refute it at one input. -/
def fnHandlesWrong : ChangeSpec := { name := "fnHandles", fn := fun _ => fun
  | [d] => { results := [.lit (.bool false)], args := [d] }
  | _ => none }
def FnHandlesWrongFalsely : Prop := fnHandlesRow.holds Try.pinned (OpenSpec.ofChange fnHandlesWrong)

/-- 'laws.FnExactHandleOf': WHATEVER THE INPUT: true; the input reads as it did. -/
def fnExactHandleOfSpec : ChangeSpec := { name := "fnExactHandleOf", fn := fun _ => fun
  | [d1, d2] => { results := [.lit (.bool true)], args := [d1, d2] }
  | _ => none }
def fnExactHandleOfRow : OpenClaim := { program := "ythnihgnboelipac", sum := "14dacf4bee697859126a3c8ea49ea9c8d05b291a8296dc0e1f3fd812f5991413", func := "loop.example/g01538/laws.FnExactHandleOf", spec := "fnExactHandleOf", apart := false }
def FnExactHandleOfSaid : Prop := fnExactHandleOfRow.holds Try.pinned (OpenSpec.ofChange fnExactHandleOfSpec)

/-- ITS FALSE NEIGHBOUR: 'it returns false'. Refute it at one input. -/
def fnExactHandleOfWrong : ChangeSpec := { name := "fnExactHandleOf", fn := fun _ => fun
  | [d1, d2] => { results := [.lit (.bool false)], args := [d1, d2] }
  | _ => none }
def FnExactHandleOfWrongFalsely : Prop := fnExactHandleOfRow.holds Try.pinned (OpenSpec.ofChange fnExactHandleOfWrong)

/-- 'laws.FnExactHandleSlot': WHATEVER THE INPUT: true; the input reads as it did. -/
def fnExactHandleSlotSpec : ChangeSpec := { name := "fnExactHandleSlot", fn := fun _ => fun
  | [d] => { results := [.lit (.bool true)], args := [d] }
  | _ => none }
def fnExactHandleSlotRow : OpenClaim := { program := "ythnihgnboelipac", sum := "14dacf4bee697859126a3c8ea49ea9c8d05b291a8296dc0e1f3fd812f5991413", func := "loop.example/g01538/laws.FnExactHandleSlot", spec := "fnExactHandleSlot", apart := false }
def FnExactHandleSlotSaid : Prop := fnExactHandleSlotRow.holds Try.pinned (OpenSpec.ofChange fnExactHandleSlotSpec)

/-- ITS FALSE NEIGHBOUR: 'it returns false'. Refute it at one input. -/
def fnExactHandleSlotWrong : ChangeSpec := { name := "fnExactHandleSlot", fn := fun _ => fun
  | [d] => { results := [.lit (.bool false)], args := [d] }
  | _ => none }
def FnExactHandleSlotWrongFalsely : Prop := fnExactHandleSlotRow.holds Try.pinned (OpenSpec.ofChange fnExactHandleSlotWrong)

/-- 'laws.FnExactHandleGen': WHATEVER THE INPUT: true; the input reads as it did. -/
def fnExactHandleGenSpec : ChangeSpec := { name := "fnExactHandleGen", fn := fun _ => fun
  | [d] => { results := [.lit (.bool true)], args := [d] }
  | _ => none }
def fnExactHandleGenRow : OpenClaim := { program := "ythnihgnboelipac", sum := "14dacf4bee697859126a3c8ea49ea9c8d05b291a8296dc0e1f3fd812f5991413", func := "loop.example/g01538/laws.FnExactHandleGen", spec := "fnExactHandleGen", apart := false }
def FnExactHandleGenSaid : Prop := fnExactHandleGenRow.holds Try.pinned (OpenSpec.ofChange fnExactHandleGenSpec)

/-- ITS FALSE NEIGHBOUR: 'it returns false'. Refute it at one input. -/
def fnExactHandleGenWrong : ChangeSpec := { name := "fnExactHandleGen", fn := fun _ => fun
  | [d] => { results := [.lit (.bool false)], args := [d] }
  | _ => none }
def FnExactHandleGenWrongFalsely : Prop := fnExactHandleGenRow.holds Try.pinned (OpenSpec.ofChange fnExactHandleGenWrong)

/-- 'laws.FnExactHandleOk': WHATEVER THE INPUT: true; the input reads as it did. -/
def fnExactHandleOkSpec : ChangeSpec := { name := "fnExactHandleOk", fn := fun _ => fun
  | [d] => { results := [.lit (.bool true)], args := [d] }
  | _ => none }
def fnExactHandleOkRow : OpenClaim := { program := "ythnihgnboelipac", sum := "14dacf4bee697859126a3c8ea49ea9c8d05b291a8296dc0e1f3fd812f5991413", func := "loop.example/g01538/laws.FnExactHandleOk", spec := "fnExactHandleOk", apart := false }
def FnExactHandleOkSaid : Prop := fnExactHandleOkRow.holds Try.pinned (OpenSpec.ofChange fnExactHandleOkSpec)

/-- ITS FALSE NEIGHBOUR: 'it returns false'. Refute it at one input. -/
def fnExactHandleOkWrong : ChangeSpec := { name := "fnExactHandleOk", fn := fun _ => fun
  | [d] => { results := [.lit (.bool false)], args := [d] }
  | _ => none }
def FnExactHandleOkWrongFalsely : Prop := fnExactHandleOkRow.holds Try.pinned (OpenSpec.ofChange fnExactHandleOkWrong)

/-- 'laws.FnExactLater': WHATEVER THE INPUT: true; the input reads as it did. -/
def fnExactLaterSpec : ChangeSpec := { name := "fnExactLater", fn := fun _ => fun
  | [d] => { results := [.lit (.bool true)], args := [d] }
  | _ => none }
def fnExactLaterRow : OpenClaim := { program := "ythnihgnboelipac", sum := "14dacf4bee697859126a3c8ea49ea9c8d05b291a8296dc0e1f3fd812f5991413", func := "loop.example/g01538/laws.FnExactLater", spec := "fnExactLater", apart := false }
def FnExactLaterSaid : Prop := fnExactLaterRow.holds Try.pinned (OpenSpec.ofChange fnExactLaterSpec)

/-- ITS FALSE NEIGHBOUR: 'it returns false'. Refute it at one input. -/
def fnExactLaterWrong : ChangeSpec := { name := "fnExactLater", fn := fun _ => fun
  | [d] => { results := [.lit (.bool false)], args := [d] }
  | _ => none }
def FnExactLaterWrongFalsely : Prop := fnExactLaterRow.holds Try.pinned (OpenSpec.ofChange fnExactLaterWrong)

/-- 'laws.FnExactHeapNew': WHATEVER THE INPUT: true; the input reads as it did. -/
def fnExactHeapNewSpec : ChangeSpec := { name := "fnExactHeapNew", fn := fun _ => fun
  | [] => { results := [.lit (.bool true)], args := [] }
  | _ => none }
def fnExactHeapNewRow : OpenClaim := { program := "ythnihgnboelipac", sum := "14dacf4bee697859126a3c8ea49ea9c8d05b291a8296dc0e1f3fd812f5991413", func := "loop.example/g01538/laws.FnExactHeapNew", spec := "fnExactHeapNew", apart := false }
def FnExactHeapNewSaid : Prop := fnExactHeapNewRow.holds Try.pinned (OpenSpec.ofChange fnExactHeapNewSpec)

/-- ITS FALSE NEIGHBOUR: 'it returns false'. Refute it at one input. -/
def fnExactHeapNewWrong : ChangeSpec := { name := "fnExactHeapNew", fn := fun _ => fun
  | [] => { results := [.lit (.bool false)], args := [] }
  | _ => none }
def FnExactHeapNewWrongFalsely : Prop := fnExactHeapNewRow.holds Try.pinned (OpenSpec.ofChange fnExactHeapNewWrong)

/-- 'laws.FnExactUngranted': WHATEVER THE INPUT: true; the input reads as it did. -/
def fnExactUngrantedSpec : ChangeSpec := { name := "fnExactUngranted", fn := fun _ => fun
  | [d] => { results := [.lit (.bool true)], args := [d] }
  | _ => none }
def fnExactUngrantedRow : OpenClaim := { program := "ythnihgnboelipac", sum := "14dacf4bee697859126a3c8ea49ea9c8d05b291a8296dc0e1f3fd812f5991413", func := "loop.example/g01538/laws.FnExactUngranted", spec := "fnExactUngranted", apart := false }
def FnExactUngrantedSaid : Prop := fnExactUngrantedRow.holds Try.pinned (OpenSpec.ofChange fnExactUngrantedSpec)

/-- ITS FALSE NEIGHBOUR: 'it returns false'. Refute it at one input. -/
def fnExactUngrantedWrong : ChangeSpec := { name := "fnExactUngranted", fn := fun _ => fun
  | [d] => { results := [.lit (.bool false)], args := [d] }
  | _ => none }
def FnExactUngrantedWrongFalsely : Prop := fnExactUngrantedRow.holds Try.pinned (OpenSpec.ofChange fnExactUngrantedWrong)

/- THE SECOND FORM. 'bulk': how many values and letters a reading holds, each counted each time it is reached (what is shared counts as often as it is met; a slice's spare places count too). A statement '..UptoSaid' is the law's where the arguments, and the package variables that the reading takes, are together of bulk at most 1048576: NARROWER than '..Said'. Prove '..Said' where nothing that the law and all that it calls make is longer than what came in: it says more and counts as full. Else prove '..UptoSaid'. A law counts once. -/
mutual
def uptoBulk {H : Type} : DataW H → Nat
  | .lit (.string bytes) => bytes.length + 1
  | .lit _ => 1
  | .nil => 1
  | .ptr d => uptoBulk d + 1
  | .slice elems spare => uptoBulkAll elems + uptoBulkAll spare + 1
  | .agg parts => uptoBulkAll parts + 1
  | .iface _ d => uptoBulk d + 1
  | .map entries => uptoBulkEntries entries + 1
  | .held _ => 1
def uptoBulkAll {H : Type} : List (DataW H) → Nat
  | [] => 0
  | d :: r => uptoBulk d + uptoBulkAll r
def uptoBulkEntries {H : Type} : List (Lit × DataW H) → Nat
  | [] => 0
  | x :: r => uptoBulkEntry x + uptoBulkEntries r
def uptoBulkEntry {H : Type} : Lit × DataW H → Nat
  | (.string bytes, d) => bytes.length + uptoBulk d + 1
  | (_, d) => uptoBulk d + 1
 end
def uptoSmall : (H : Type) → List (DataW H) → Bool := fun _ ds => decide (uptoBulkAll ds ≤ 1048576)
def OpenSpec.upto (s : _root_.Go.ChangeSpec) : _root_.Go.OpenSpec := { _root_.Go.OpenSpec.ofChange s with cond := some uptoSmall }

/-- 'laws.FnHandles', WHERE WHAT IT READS IS OF BULK AT MOST 1048576: true; the input reads as it did. -/
def fnHandlesUptoRow : OpenClaim := { program := "ythnihgnboelipac", sum := "14dacf4bee697859126a3c8ea49ea9c8d05b291a8296dc0e1f3fd812f5991413", func := "loop.example/g01538/laws.FnHandles", spec := "fnHandles", apart := false, narrowed := true }
def FnHandlesUptoSaid : Prop := fnHandlesUptoRow.holds Try.pinned (OpenSpec.upto fnHandlesSpec)

/-- 'laws.FnExactHandleOf', WHERE WHAT IT READS IS OF BULK AT MOST 1048576: true; the input reads as it did. -/
def fnExactHandleOfUptoRow : OpenClaim := { program := "ythnihgnboelipac", sum := "14dacf4bee697859126a3c8ea49ea9c8d05b291a8296dc0e1f3fd812f5991413", func := "loop.example/g01538/laws.FnExactHandleOf", spec := "fnExactHandleOf", apart := false, narrowed := true }
def FnExactHandleOfUptoSaid : Prop := fnExactHandleOfUptoRow.holds Try.pinned (OpenSpec.upto fnExactHandleOfSpec)

/-- 'laws.FnExactHandleSlot', WHERE WHAT IT READS IS OF BULK AT MOST 1048576: true; the input reads as it did. -/
def fnExactHandleSlotUptoRow : OpenClaim := { program := "ythnihgnboelipac", sum := "14dacf4bee697859126a3c8ea49ea9c8d05b291a8296dc0e1f3fd812f5991413", func := "loop.example/g01538/laws.FnExactHandleSlot", spec := "fnExactHandleSlot", apart := false, narrowed := true }
def FnExactHandleSlotUptoSaid : Prop := fnExactHandleSlotUptoRow.holds Try.pinned (OpenSpec.upto fnExactHandleSlotSpec)

/-- 'laws.FnExactHandleGen', WHERE WHAT IT READS IS OF BULK AT MOST 1048576: true; the input reads as it did. -/
def fnExactHandleGenUptoRow : OpenClaim := { program := "ythnihgnboelipac", sum := "14dacf4bee697859126a3c8ea49ea9c8d05b291a8296dc0e1f3fd812f5991413", func := "loop.example/g01538/laws.FnExactHandleGen", spec := "fnExactHandleGen", apart := false, narrowed := true }
def FnExactHandleGenUptoSaid : Prop := fnExactHandleGenUptoRow.holds Try.pinned (OpenSpec.upto fnExactHandleGenSpec)

/-- 'laws.FnExactHandleOk', WHERE WHAT IT READS IS OF BULK AT MOST 1048576: true; the input reads as it did. -/
def fnExactHandleOkUptoRow : OpenClaim := { program := "ythnihgnboelipac", sum := "14dacf4bee697859126a3c8ea49ea9c8d05b291a8296dc0e1f3fd812f5991413", func := "loop.example/g01538/laws.FnExactHandleOk", spec := "fnExactHandleOk", apart := false, narrowed := true }
def FnExactHandleOkUptoSaid : Prop := fnExactHandleOkUptoRow.holds Try.pinned (OpenSpec.upto fnExactHandleOkSpec)

/-- 'laws.FnExactLater', WHERE WHAT IT READS IS OF BULK AT MOST 1048576: true; the input reads as it did. -/
def fnExactLaterUptoRow : OpenClaim := { program := "ythnihgnboelipac", sum := "14dacf4bee697859126a3c8ea49ea9c8d05b291a8296dc0e1f3fd812f5991413", func := "loop.example/g01538/laws.FnExactLater", spec := "fnExactLater", apart := false, narrowed := true }
def FnExactLaterUptoSaid : Prop := fnExactLaterUptoRow.holds Try.pinned (OpenSpec.upto fnExactLaterSpec)

/-- 'laws.FnExactHeapNew', WHERE WHAT IT READS IS OF BULK AT MOST 1048576: true; the input reads as it did. -/
def fnExactHeapNewUptoRow : OpenClaim := { program := "ythnihgnboelipac", sum := "14dacf4bee697859126a3c8ea49ea9c8d05b291a8296dc0e1f3fd812f5991413", func := "loop.example/g01538/laws.FnExactHeapNew", spec := "fnExactHeapNew", apart := false, narrowed := true }
def FnExactHeapNewUptoSaid : Prop := fnExactHeapNewUptoRow.holds Try.pinned (OpenSpec.upto fnExactHeapNewSpec)

/-- 'laws.FnExactUngranted', WHERE WHAT IT READS IS OF BULK AT MOST 1048576: true; the input reads as it did. -/
def fnExactUngrantedUptoRow : OpenClaim := { program := "ythnihgnboelipac", sum := "14dacf4bee697859126a3c8ea49ea9c8d05b291a8296dc0e1f3fd812f5991413", func := "loop.example/g01538/laws.FnExactUngranted", spec := "fnExactUngranted", apart := false, narrowed := true }
def FnExactUngrantedUptoSaid : Prop := fnExactUngrantedUptoRow.holds Try.pinned (OpenSpec.upto fnExactUngrantedSpec)

end Rows
end Go.Proofs.Ythnihgnboelipac
