/-
  No cell of these rows narrows 'for every input' (looked for: loops, veiled, ifaces, maps, wideKeys, modest, calm, conditions, laid).
  DERIVED. THE GIVEN ROWS OF THIS SEAT. 10 by the template 'for every input the law returns true; each argument reads behind the call as it read before'; 0 by the template 'total and deterministic' (their statements: YtnclkdpocjhphaaTotals.lean).
  GIVEN WITH THE SEED: the statements are not yours to turn. If you find one false, say at which input.
  Laid BY PROGRAM, IN A SANDBOX (cutbox-rows.mjs): the forced cells as the released guide's own fill.sh prints them over the translation 3cab569da5b2f701… (all of the seat's roots in one cut). By AI agents, Wed Nov 11 2026. No macro, syntax, notation, axiom, sorry.
-/
import Derived.Test.YtnclkdpocjhphaaChecked
import GoSem.Claim
import GoSem.ClaimJoined
import GoSem.ClaimMapViews
import Derived.JoinedTies
import Derived.KernelRfl
namespace Go.Proofs.Ytnclkdpocjhphaa
/- THE CELL 'sum', in the pinned program and in every row, IS THE sha256 OF THE DUMP (.gsa) THAT YtnclkdpocjhphaaProg.lean LOADS. Nothing in Lean hashes anything: it is a label: what it is worth is what the hold of that sum in a sandbox is worth. -/
noncomputable def Try.pinned : Pinned := { name := "ytnclkdpocjhphaa", sum := "3cab569da5b2f70126e8d7debcdaf107bc308d7855e4b18b4a621ed916468568", checked := Try.checked }
namespace Rows
def none {H : Type} : Left H := { results := [], args := [] }

/-- 'laws.FnExactTakeOwn': WHATEVER THE INPUT: true; the input reads as it did. -/
def fnExactTakeOwnSpec : ChangeSpec := { name := "fnExactTakeOwn", fn := fun _ => fun
  | [d1, d2, d3] => { results := [.lit (.bool true)], args := [d1, d2, d3] }
  | _ => none }
def fnExactTakeOwnRow : OpenClaim := { program := "ytnclkdpocjhphaa", sum := "3cab569da5b2f70126e8d7debcdaf107bc308d7855e4b18b4a621ed916468568", func := "loop.example/g01538/laws.FnExactTakeOwn", spec := "fnExactTakeOwn", apart := false }
def FnExactTakeOwnSaid : Prop := fnExactTakeOwnRow.holds Try.pinned (OpenSpec.ofChange fnExactTakeOwnSpec)

/-- ITS FALSE NEIGHBOUR: 'it returns false'. Refute it at one input. -/
def fnExactTakeOwnWrong : ChangeSpec := { name := "fnExactTakeOwn", fn := fun _ => fun
  | [d1, d2, d3] => { results := [.lit (.bool false)], args := [d1, d2, d3] }
  | _ => none }
def FnExactTakeOwnWrongFalsely : Prop := fnExactTakeOwnRow.holds Try.pinned (OpenSpec.ofChange fnExactTakeOwnWrong)

/-- 'laws.FnExactTakeGlobal': WHATEVER THE INPUT: true; the input reads as it did. -/
def fnExactTakeGlobalSpec : ChangeSpec := { name := "fnExactTakeGlobal", fn := fun _ => fun
  | [d1, d2] => { results := [.lit (.bool true)], args := [d1, d2] }
  | _ => none }
def fnExactTakeGlobalRow : OpenClaim := { program := "ytnclkdpocjhphaa", sum := "3cab569da5b2f70126e8d7debcdaf107bc308d7855e4b18b4a621ed916468568", func := "loop.example/g01538/laws.FnExactTakeGlobal", spec := "fnExactTakeGlobal", apart := false }
def FnExactTakeGlobalSaid : Prop := fnExactTakeGlobalRow.holds Try.pinned (OpenSpec.ofChange fnExactTakeGlobalSpec)

/-- ITS FALSE NEIGHBOUR: 'it returns false'. Refute it at one input. -/
def fnExactTakeGlobalWrong : ChangeSpec := { name := "fnExactTakeGlobal", fn := fun _ => fun
  | [d1, d2] => { results := [.lit (.bool false)], args := [d1, d2] }
  | _ => none }
def FnExactTakeGlobalWrongFalsely : Prop := fnExactTakeGlobalRow.holds Try.pinned (OpenSpec.ofChange fnExactTakeGlobalWrong)

/-- 'laws.FnExactGive': WHATEVER THE INPUT: true; the input reads as it did. -/
def fnExactGiveSpec : ChangeSpec := { name := "fnExactGive", fn := fun _ => fun
  | [d1, d2, d3, d4] => { results := [.lit (.bool true)], args := [d1, d2, d3, d4] }
  | _ => none }
def fnExactGiveRow : OpenClaim := { program := "ytnclkdpocjhphaa", sum := "3cab569da5b2f70126e8d7debcdaf107bc308d7855e4b18b4a621ed916468568", func := "loop.example/g01538/laws.FnExactGive", spec := "fnExactGive", apart := false }
def FnExactGiveSaid : Prop := fnExactGiveRow.holds Try.pinned (OpenSpec.ofChange fnExactGiveSpec)

/-- ITS FALSE NEIGHBOUR: 'it returns false'. Refute it at one input. -/
def fnExactGiveWrong : ChangeSpec := { name := "fnExactGive", fn := fun _ => fun
  | [d1, d2, d3, d4] => { results := [.lit (.bool false)], args := [d1, d2, d3, d4] }
  | _ => none }
def FnExactGiveWrongFalsely : Prop := fnExactGiveRow.holds Try.pinned (OpenSpec.ofChange fnExactGiveWrong)

/-- 'laws.FnExactHeapNew': WHATEVER THE INPUT: true; the input reads as it did. -/
def fnExactHeapNewSpec : ChangeSpec := { name := "fnExactHeapNew", fn := fun _ => fun
  | [] => { results := [.lit (.bool true)], args := [] }
  | _ => none }
def fnExactHeapNewRow : OpenClaim := { program := "ytnclkdpocjhphaa", sum := "3cab569da5b2f70126e8d7debcdaf107bc308d7855e4b18b4a621ed916468568", func := "loop.example/g01538/laws.FnExactHeapNew", spec := "fnExactHeapNew", apart := false }
def FnExactHeapNewSaid : Prop := fnExactHeapNewRow.holds Try.pinned (OpenSpec.ofChange fnExactHeapNewSpec)

/-- ITS FALSE NEIGHBOUR: 'it returns false'. Refute it at one input. -/
def fnExactHeapNewWrong : ChangeSpec := { name := "fnExactHeapNew", fn := fun _ => fun
  | [] => { results := [.lit (.bool false)], args := [] }
  | _ => none }
def FnExactHeapNewWrongFalsely : Prop := fnExactHeapNewRow.holds Try.pinned (OpenSpec.ofChange fnExactHeapNewWrong)

/-- 'laws.FnExactMemNew': WHATEVER THE INPUT: true; the input reads as it did. -/
def fnExactMemNewSpec : ChangeSpec := { name := "fnExactMemNew", fn := fun _ => fun
  | [] => { results := [.lit (.bool true)], args := [] }
  | _ => none }
def fnExactMemNewRow : OpenClaim := { program := "ytnclkdpocjhphaa", sum := "3cab569da5b2f70126e8d7debcdaf107bc308d7855e4b18b4a621ed916468568", func := "loop.example/g01538/laws.FnExactMemNew", spec := "fnExactMemNew", apart := false }
def FnExactMemNewSaid : Prop := fnExactMemNewRow.holds Try.pinned (OpenSpec.ofChange fnExactMemNewSpec)

/-- ITS FALSE NEIGHBOUR: 'it returns false'. Refute it at one input. -/
def fnExactMemNewWrong : ChangeSpec := { name := "fnExactMemNew", fn := fun _ => fun
  | [] => { results := [.lit (.bool false)], args := [] }
  | _ => none }
def FnExactMemNewWrongFalsely : Prop := fnExactMemNewRow.holds Try.pinned (OpenSpec.ofChange fnExactMemNewWrong)

/-- 'laws.FnExactBaseNew': WHATEVER THE INPUT: true; the input reads as it did. -/
def fnExactBaseNewSpec : ChangeSpec := { name := "fnExactBaseNew", fn := fun _ => fun
  | [] => { results := [.lit (.bool true)], args := [] }
  | _ => none }
def fnExactBaseNewRow : OpenClaim := { program := "ytnclkdpocjhphaa", sum := "3cab569da5b2f70126e8d7debcdaf107bc308d7855e4b18b4a621ed916468568", func := "loop.example/g01538/laws.FnExactBaseNew", spec := "fnExactBaseNew", apart := false }
def FnExactBaseNewSaid : Prop := fnExactBaseNewRow.holds Try.pinned (OpenSpec.ofChange fnExactBaseNewSpec)

/-- ITS FALSE NEIGHBOUR: 'it returns false'. Refute it at one input. -/
def fnExactBaseNewWrong : ChangeSpec := { name := "fnExactBaseNew", fn := fun _ => fun
  | [] => { results := [.lit (.bool false)], args := [] }
  | _ => none }
def FnExactBaseNewWrongFalsely : Prop := fnExactBaseNewRow.holds Try.pinned (OpenSpec.ofChange fnExactBaseNewWrong)

/-- 'laws.FnExactIdle': WHATEVER THE INPUT: true; the input reads as it did. -/
def fnExactIdleSpec : ChangeSpec := { name := "fnExactIdle", fn := fun _ => fun
  | [d] => { results := [.lit (.bool true)], args := [d] }
  | _ => none }
def fnExactIdleRow : OpenClaim := { program := "ytnclkdpocjhphaa", sum := "3cab569da5b2f70126e8d7debcdaf107bc308d7855e4b18b4a621ed916468568", func := "loop.example/g01538/laws.FnExactIdle", spec := "fnExactIdle", apart := false }
def FnExactIdleSaid : Prop := fnExactIdleRow.holds Try.pinned (OpenSpec.ofChange fnExactIdleSpec)

/-- ITS FALSE NEIGHBOUR: 'it returns false'. Refute it at one input. -/
def fnExactIdleWrong : ChangeSpec := { name := "fnExactIdle", fn := fun _ => fun
  | [d] => { results := [.lit (.bool false)], args := [d] }
  | _ => none }
def FnExactIdleWrongFalsely : Prop := fnExactIdleRow.holds Try.pinned (OpenSpec.ofChange fnExactIdleWrong)

/-- 'laws.FnExactSameShelf': WHATEVER THE INPUT: true; the input reads as it did. -/
def fnExactSameShelfSpec : ChangeSpec := { name := "fnExactSameShelf", fn := fun _ => fun
  | [d1, d2] => { results := [.lit (.bool true)], args := [d1, d2] }
  | _ => none }
def fnExactSameShelfRow : OpenClaim := { program := "ytnclkdpocjhphaa", sum := "3cab569da5b2f70126e8d7debcdaf107bc308d7855e4b18b4a621ed916468568", func := "loop.example/g01538/laws.FnExactSameShelf", spec := "fnExactSameShelf", unfollowed := true, recurses := true, apart := false }
def FnExactSameShelfSaid : Prop := fnExactSameShelfRow.holds Try.pinned (OpenSpec.ofChange fnExactSameShelfSpec)

/-- ITS FALSE NEIGHBOUR: 'it returns false'. Refute it at one input. -/
def fnExactSameShelfWrong : ChangeSpec := { name := "fnExactSameShelf", fn := fun _ => fun
  | [d1, d2] => { results := [.lit (.bool false)], args := [d1, d2] }
  | _ => none }
def FnExactSameShelfWrongFalsely : Prop := fnExactSameShelfRow.holds Try.pinned (OpenSpec.ofChange fnExactSameShelfWrong)

/-- 'laws.FnExactTableIdle': WHATEVER THE INPUT: true; the input reads as it did. -/
def fnExactTableIdleSpec : ChangeSpec := { name := "fnExactTableIdle", fn := fun _ => fun
  | [d] => { results := [.lit (.bool true)], args := [d] }
  | _ => none }
def fnExactTableIdleRow : OpenClaim := { program := "ytnclkdpocjhphaa", sum := "3cab569da5b2f70126e8d7debcdaf107bc308d7855e4b18b4a621ed916468568", func := "loop.example/g01538/laws.FnExactTableIdle", spec := "fnExactTableIdle", apart := false }
def FnExactTableIdleSaid : Prop := fnExactTableIdleRow.holds Try.pinned (OpenSpec.ofChange fnExactTableIdleSpec)

/-- ITS FALSE NEIGHBOUR: 'it returns false'. Refute it at one input. -/
def fnExactTableIdleWrong : ChangeSpec := { name := "fnExactTableIdle", fn := fun _ => fun
  | [d] => { results := [.lit (.bool false)], args := [d] }
  | _ => none }
def FnExactTableIdleWrongFalsely : Prop := fnExactTableIdleRow.holds Try.pinned (OpenSpec.ofChange fnExactTableIdleWrong)

/-- 'laws.FnExactShelfNew': WHATEVER THE INPUT: true; the input reads as it did. -/
def fnExactShelfNewSpec : ChangeSpec := { name := "fnExactShelfNew", fn := fun _ => fun
  | [d] => { results := [.lit (.bool true)], args := [d] }
  | _ => none }
def fnExactShelfNewRow : OpenClaim := { program := "ytnclkdpocjhphaa", sum := "3cab569da5b2f70126e8d7debcdaf107bc308d7855e4b18b4a621ed916468568", func := "loop.example/g01538/laws.FnExactShelfNew", spec := "fnExactShelfNew", apart := false }
def FnExactShelfNewSaid : Prop := fnExactShelfNewRow.holds Try.pinned (OpenSpec.ofChange fnExactShelfNewSpec)

/-- ITS FALSE NEIGHBOUR: 'it returns false'. Refute it at one input. -/
def fnExactShelfNewWrong : ChangeSpec := { name := "fnExactShelfNew", fn := fun _ => fun
  | [d] => { results := [.lit (.bool false)], args := [d] }
  | _ => none }
def FnExactShelfNewWrongFalsely : Prop := fnExactShelfNewRow.holds Try.pinned (OpenSpec.ofChange fnExactShelfNewWrong)

/- THE SECOND FORM. 'bulk': how many values and letters a reading holds, each counted each time it is reached (what is shared counts as often as it is met; a slice's spare places count too). A statement '..UptoSaid' is the law's where the arguments, and the package variables that the reading takes, are together of bulk at most 1048576: NARROWER than '..Said'. Prove '..Said' where nothing that the law and all that it calls make is longer than what came in: it says more and counts as full. Else prove '..UptoSaid'. A law counts once. -/
mutual
def uptoBulk {H : Type} : DataW H → Nat
  | .lit (.string bytes) => bytes.length + 1
  | .lit _ => 1
  | .nil => 1
  | .ptr d => uptoBulk d + 1
  | .slice elems spare => uptoBulkAll elems + uptoBulkAll spare + 1
  | .agg parts => uptoBulkAll parts + 1
  | .iface _ d => uptoBulk d + 1
  | .map entries => uptoBulkEntries entries + 1
  | .held _ => 1
def uptoBulkAll {H : Type} : List (DataW H) → Nat
  | [] => 0
  | d :: r => uptoBulk d + uptoBulkAll r
def uptoBulkEntries {H : Type} : List (Lit × DataW H) → Nat
  | [] => 0
  | x :: r => uptoBulkEntry x + uptoBulkEntries r
def uptoBulkEntry {H : Type} : Lit × DataW H → Nat
  | (.string bytes, d) => bytes.length + uptoBulk d + 1
  | (_, d) => uptoBulk d + 1
 end
def uptoSmall : (H : Type) → List (DataW H) → Bool := fun _ ds => decide (uptoBulkAll ds ≤ 1048576)
def OpenSpec.upto (s : _root_.Go.ChangeSpec) : _root_.Go.OpenSpec := { _root_.Go.OpenSpec.ofChange s with cond := some uptoSmall }

/-- 'laws.FnExactTakeOwn', WHERE WHAT IT READS IS OF BULK AT MOST 1048576: true; the input reads as it did. -/
def fnExactTakeOwnUptoRow : OpenClaim := { program := "ytnclkdpocjhphaa", sum := "3cab569da5b2f70126e8d7debcdaf107bc308d7855e4b18b4a621ed916468568", func := "loop.example/g01538/laws.FnExactTakeOwn", spec := "fnExactTakeOwn", apart := false, narrowed := true }
def FnExactTakeOwnUptoSaid : Prop := fnExactTakeOwnUptoRow.holds Try.pinned (OpenSpec.upto fnExactTakeOwnSpec)

/-- 'laws.FnExactTakeGlobal', WHERE WHAT IT READS IS OF BULK AT MOST 1048576: true; the input reads as it did. -/
def fnExactTakeGlobalUptoRow : OpenClaim := { program := "ytnclkdpocjhphaa", sum := "3cab569da5b2f70126e8d7debcdaf107bc308d7855e4b18b4a621ed916468568", func := "loop.example/g01538/laws.FnExactTakeGlobal", spec := "fnExactTakeGlobal", apart := false, narrowed := true }
def FnExactTakeGlobalUptoSaid : Prop := fnExactTakeGlobalUptoRow.holds Try.pinned (OpenSpec.upto fnExactTakeGlobalSpec)

/-- 'laws.FnExactGive', WHERE WHAT IT READS IS OF BULK AT MOST 1048576: true; the input reads as it did. -/
def fnExactGiveUptoRow : OpenClaim := { program := "ytnclkdpocjhphaa", sum := "3cab569da5b2f70126e8d7debcdaf107bc308d7855e4b18b4a621ed916468568", func := "loop.example/g01538/laws.FnExactGive", spec := "fnExactGive", apart := false, narrowed := true }
def FnExactGiveUptoSaid : Prop := fnExactGiveUptoRow.holds Try.pinned (OpenSpec.upto fnExactGiveSpec)

/-- 'laws.FnExactHeapNew', WHERE WHAT IT READS IS OF BULK AT MOST 1048576: true; the input reads as it did. -/
def fnExactHeapNewUptoRow : OpenClaim := { program := "ytnclkdpocjhphaa", sum := "3cab569da5b2f70126e8d7debcdaf107bc308d7855e4b18b4a621ed916468568", func := "loop.example/g01538/laws.FnExactHeapNew", spec := "fnExactHeapNew", apart := false, narrowed := true }
def FnExactHeapNewUptoSaid : Prop := fnExactHeapNewUptoRow.holds Try.pinned (OpenSpec.upto fnExactHeapNewSpec)

/-- 'laws.FnExactMemNew', WHERE WHAT IT READS IS OF BULK AT MOST 1048576: true; the input reads as it did. -/
def fnExactMemNewUptoRow : OpenClaim := { program := "ytnclkdpocjhphaa", sum := "3cab569da5b2f70126e8d7debcdaf107bc308d7855e4b18b4a621ed916468568", func := "loop.example/g01538/laws.FnExactMemNew", spec := "fnExactMemNew", apart := false, narrowed := true }
def FnExactMemNewUptoSaid : Prop := fnExactMemNewUptoRow.holds Try.pinned (OpenSpec.upto fnExactMemNewSpec)

/-- 'laws.FnExactBaseNew', WHERE WHAT IT READS IS OF BULK AT MOST 1048576: true; the input reads as it did. -/
def fnExactBaseNewUptoRow : OpenClaim := { program := "ytnclkdpocjhphaa", sum := "3cab569da5b2f70126e8d7debcdaf107bc308d7855e4b18b4a621ed916468568", func := "loop.example/g01538/laws.FnExactBaseNew", spec := "fnExactBaseNew", apart := false, narrowed := true }
def FnExactBaseNewUptoSaid : Prop := fnExactBaseNewUptoRow.holds Try.pinned (OpenSpec.upto fnExactBaseNewSpec)

/-- 'laws.FnExactIdle', WHERE WHAT IT READS IS OF BULK AT MOST 1048576: true; the input reads as it did. -/
def fnExactIdleUptoRow : OpenClaim := { program := "ytnclkdpocjhphaa", sum := "3cab569da5b2f70126e8d7debcdaf107bc308d7855e4b18b4a621ed916468568", func := "loop.example/g01538/laws.FnExactIdle", spec := "fnExactIdle", apart := false, narrowed := true }
def FnExactIdleUptoSaid : Prop := fnExactIdleUptoRow.holds Try.pinned (OpenSpec.upto fnExactIdleSpec)

/-- 'laws.FnExactSameShelf', WHERE WHAT IT READS IS OF BULK AT MOST 1048576: true; the input reads as it did. -/
def fnExactSameShelfUptoRow : OpenClaim := { program := "ytnclkdpocjhphaa", sum := "3cab569da5b2f70126e8d7debcdaf107bc308d7855e4b18b4a621ed916468568", func := "loop.example/g01538/laws.FnExactSameShelf", spec := "fnExactSameShelf", unfollowed := true, recurses := true, apart := false, narrowed := true }
def FnExactSameShelfUptoSaid : Prop := fnExactSameShelfUptoRow.holds Try.pinned (OpenSpec.upto fnExactSameShelfSpec)

/-- 'laws.FnExactTableIdle', WHERE WHAT IT READS IS OF BULK AT MOST 1048576: true; the input reads as it did. -/
def fnExactTableIdleUptoRow : OpenClaim := { program := "ytnclkdpocjhphaa", sum := "3cab569da5b2f70126e8d7debcdaf107bc308d7855e4b18b4a621ed916468568", func := "loop.example/g01538/laws.FnExactTableIdle", spec := "fnExactTableIdle", apart := false, narrowed := true }
def FnExactTableIdleUptoSaid : Prop := fnExactTableIdleUptoRow.holds Try.pinned (OpenSpec.upto fnExactTableIdleSpec)

/-- 'laws.FnExactShelfNew', WHERE WHAT IT READS IS OF BULK AT MOST 1048576: true; the input reads as it did. -/
def fnExactShelfNewUptoRow : OpenClaim := { program := "ytnclkdpocjhphaa", sum := "3cab569da5b2f70126e8d7debcdaf107bc308d7855e4b18b4a621ed916468568", func := "loop.example/g01538/laws.FnExactShelfNew", spec := "fnExactShelfNew", apart := false, narrowed := true }
def FnExactShelfNewUptoSaid : Prop := fnExactShelfNewUptoRow.holds Try.pinned (OpenSpec.upto fnExactShelfNewSpec)

end Rows
end Go.Proofs.Ytnclkdpocjhphaa
