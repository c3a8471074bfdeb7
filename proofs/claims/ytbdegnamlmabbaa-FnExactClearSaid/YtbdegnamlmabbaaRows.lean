/-
  No cell of these rows narrows 'for every input' (looked for: loops, veiled, ifaces, maps, wideKeys, modest, calm, conditions, laid).
  DERIVED. THE GIVEN ROWS OF THIS SEAT. 8 by the template 'for every input the law returns true; each argument reads behind the call as it read before'; 0 by the template 'total and deterministic' (their statements: YtbdegnamlmabbaaTotals.lean).
  GIVEN WITH THE SEED: the statements are not yours to turn. If you find one false, say at which input.
  Laid BY PROGRAM, IN A SANDBOX (cutbox-rows.mjs): the forced cells as the released guide's own fill.sh prints them over the translation cecf8efd9f1b2ac7… (all of the seat's roots in one cut). By AI agents, Wed Nov 11 2026. No macro, syntax, notation, axiom, sorry.
-/
import Derived.Test.YtbdegnamlmabbaaChecked
import GoSem.Claim
import GoSem.ClaimJoined
import GoSem.ClaimMapViews
import Derived.JoinedTies
import Derived.KernelRfl
namespace Go.Proofs.Ytbdegnamlmabbaa
/- THE CELL 'sum', in the pinned program and in every row, IS THE sha256 OF THE DUMP (.gsa) THAT YtbdegnamlmabbaaProg.lean LOADS. Nothing in Lean hashes anything: it is a label: what it is worth is what the hold of that sum in a sandbox is worth. -/
noncomputable def Try.pinned : Pinned := { name := "ytbdegnamlmabbaa", sum := "cecf8efd9f1b2ac732fcaa6be7736220afd08bfd8f918dd6529c50f4691fd33f", checked := Try.checked }
namespace Rows
def none {H : Type} : Left H := { results := [], args := [] }

/-- 'laws.FnExactHazNew': WHATEVER THE INPUT: true; the input reads as it did. -/
def fnExactHazNewSpec : ChangeSpec := { name := "fnExactHazNew", fn := fun _ => fun
  | [] => { results := [.lit (.bool true)], args := [] }
  | _ => none }
def fnExactHazNewRow : OpenClaim := { program := "ytbdegnamlmabbaa", sum := "cecf8efd9f1b2ac732fcaa6be7736220afd08bfd8f918dd6529c50f4691fd33f", func := "loop.example/g01538/laws.FnExactHazNew", spec := "fnExactHazNew", apart := false }
def FnExactHazNewSaid : Prop := fnExactHazNewRow.holds Try.pinned (OpenSpec.ofChange fnExactHazNewSpec)

/-- ITS FALSE NEIGHBOUR: 'it returns false'. Refute it at one input. -/
def fnExactHazNewWrong : ChangeSpec := { name := "fnExactHazNew", fn := fun _ => fun
  | [] => { results := [.lit (.bool false)], args := [] }
  | _ => none }
def FnExactHazNewWrongFalsely : Prop := fnExactHazNewRow.holds Try.pinned (OpenSpec.ofChange fnExactHazNewWrong)

/-- 'laws.FnExactHazOk': WHATEVER THE INPUT: true; the input reads as it did. -/
def fnExactHazOkSpec : ChangeSpec := { name := "fnExactHazOk", fn := fun _ => fun
  | [d] => { results := [.lit (.bool true)], args := [d] }
  | _ => none }
def fnExactHazOkRow : OpenClaim := { program := "ytbdegnamlmabbaa", sum := "cecf8efd9f1b2ac732fcaa6be7736220afd08bfd8f918dd6529c50f4691fd33f", func := "loop.example/g01538/laws.FnExactHazOk", spec := "fnExactHazOk", apart := false }
def FnExactHazOkSaid : Prop := fnExactHazOkRow.holds Try.pinned (OpenSpec.ofChange fnExactHazOkSpec)

/-- ITS FALSE NEIGHBOUR: 'it returns false'. Refute it at one input. -/
def fnExactHazOkWrong : ChangeSpec := { name := "fnExactHazOk", fn := fun _ => fun
  | [d] => { results := [.lit (.bool false)], args := [d] }
  | _ => none }
def FnExactHazOkWrongFalsely : Prop := fnExactHazOkRow.holds Try.pinned (OpenSpec.ofChange fnExactHazOkWrong)

/-- 'laws.FnExactPublish': WHATEVER THE INPUT: true; the input reads as it did. -/
def fnExactPublishSpec : ChangeSpec := { name := "fnExactPublish", fn := fun _ => fun
  | [d1, d2, d3] => { results := [.lit (.bool true)], args := [d1, d2, d3] }
  | _ => none }
def fnExactPublishRow : OpenClaim := { program := "ytbdegnamlmabbaa", sum := "cecf8efd9f1b2ac732fcaa6be7736220afd08bfd8f918dd6529c50f4691fd33f", func := "loop.example/g01538/laws.FnExactPublish", spec := "fnExactPublish", apart := false }
def FnExactPublishSaid : Prop := fnExactPublishRow.holds Try.pinned (OpenSpec.ofChange fnExactPublishSpec)

/-- ITS FALSE NEIGHBOUR: 'it returns false'. Refute it at one input. -/
def fnExactPublishWrong : ChangeSpec := { name := "fnExactPublish", fn := fun _ => fun
  | [d1, d2, d3] => { results := [.lit (.bool false)], args := [d1, d2, d3] }
  | _ => none }
def FnExactPublishWrongFalsely : Prop := fnExactPublishRow.holds Try.pinned (OpenSpec.ofChange fnExactPublishWrong)

/-- 'laws.FnExactClear': WHATEVER THE INPUT: true; the input reads as it did. -/
def fnExactClearSpec : ChangeSpec := { name := "fnExactClear", fn := fun _ => fun
  | [d1, d2] => { results := [.lit (.bool true)], args := [d1, d2] }
  | _ => none }
def fnExactClearRow : OpenClaim := { program := "ytbdegnamlmabbaa", sum := "cecf8efd9f1b2ac732fcaa6be7736220afd08bfd8f918dd6529c50f4691fd33f", func := "loop.example/g01538/laws.FnExactClear", spec := "fnExactClear", apart := false }
def FnExactClearSaid : Prop := fnExactClearRow.holds Try.pinned (OpenSpec.ofChange fnExactClearSpec)

/-- ITS FALSE NEIGHBOUR: 'it returns false'. Refute it at one input. -/
def fnExactClearWrong : ChangeSpec := { name := "fnExactClear", fn := fun _ => fun
  | [d1, d2] => { results := [.lit (.bool false)], args := [d1, d2] }
  | _ => none }
def FnExactClearWrongFalsely : Prop := fnExactClearRow.holds Try.pinned (OpenSpec.ofChange fnExactClearWrong)

/-- 'laws.FnExactHeldBy': WHATEVER THE INPUT: true; the input reads as it did. -/
def fnExactHeldBySpec : ChangeSpec := { name := "fnExactHeldBy", fn := fun _ => fun
  | [d1, d2] => { results := [.lit (.bool true)], args := [d1, d2] }
  | _ => none }
def fnExactHeldByRow : OpenClaim := { program := "ytbdegnamlmabbaa", sum := "cecf8efd9f1b2ac732fcaa6be7736220afd08bfd8f918dd6529c50f4691fd33f", func := "loop.example/g01538/laws.FnExactHeldBy", spec := "fnExactHeldBy", apart := false }
def FnExactHeldBySaid : Prop := fnExactHeldByRow.holds Try.pinned (OpenSpec.ofChange fnExactHeldBySpec)

/-- ITS FALSE NEIGHBOUR: 'it returns false'. Refute it at one input. -/
def fnExactHeldByWrong : ChangeSpec := { name := "fnExactHeldBy", fn := fun _ => fun
  | [d1, d2] => { results := [.lit (.bool false)], args := [d1, d2] }
  | _ => none }
def FnExactHeldByWrongFalsely : Prop := fnExactHeldByRow.holds Try.pinned (OpenSpec.ofChange fnExactHeldByWrong)

/-- 'laws.FnExactHazAt': WHATEVER THE INPUT: true; the input reads as it did. -/
def fnExactHazAtSpec : ChangeSpec := { name := "fnExactHazAt", fn := fun _ => fun
  | [d1, d2] => { results := [.lit (.bool true)], args := [d1, d2] }
  | _ => none }
def fnExactHazAtRow : OpenClaim := { program := "ytbdegnamlmabbaa", sum := "cecf8efd9f1b2ac732fcaa6be7736220afd08bfd8f918dd6529c50f4691fd33f", func := "loop.example/g01538/laws.FnExactHazAt", spec := "fnExactHazAt", apart := false }
def FnExactHazAtSaid : Prop := fnExactHazAtRow.holds Try.pinned (OpenSpec.ofChange fnExactHazAtSpec)

/-- ITS FALSE NEIGHBOUR: 'it returns false'. Refute it at one input. -/
def fnExactHazAtWrong : ChangeSpec := { name := "fnExactHazAt", fn := fun _ => fun
  | [d1, d2] => { results := [.lit (.bool false)], args := [d1, d2] }
  | _ => none }
def FnExactHazAtWrongFalsely : Prop := fnExactHazAtRow.holds Try.pinned (OpenSpec.ofChange fnExactHazAtWrong)

/-- 'laws.FnSums': WHATEVER THE INPUT: true; the input reads as it did. -/
def fnSumsSpec : ChangeSpec := { name := "fnSums", fn := fun _ => fun
  | [d] => { results := [.lit (.bool true)], args := [d] }
  | _ => none }
def fnSumsRow : OpenClaim := { program := "ytbdegnamlmabbaa", sum := "cecf8efd9f1b2ac732fcaa6be7736220afd08bfd8f918dd6529c50f4691fd33f", func := "loop.example/g01538/laws.FnSums", spec := "fnSums", apart := false }
def FnSumsSaid : Prop := fnSumsRow.holds Try.pinned (OpenSpec.ofChange fnSumsSpec)

/-- ITS FALSE NEIGHBOUR: 'it returns false'. Refute it at one input. -/
def fnSumsWrong : ChangeSpec := { name := "fnSums", fn := fun _ => fun
  | [d] => { results := [.lit (.bool false)], args := [d] }
  | _ => none }
def FnSumsWrongFalsely : Prop := fnSumsRow.holds Try.pinned (OpenSpec.ofChange fnSumsWrong)

/-- 'laws.FnExactHeapNew': WHATEVER THE INPUT: true; the input reads as it did. -/
def fnExactHeapNewSpec : ChangeSpec := { name := "fnExactHeapNew", fn := fun _ => fun
  | [] => { results := [.lit (.bool true)], args := [] }
  | _ => none }
def fnExactHeapNewRow : OpenClaim := { program := "ytbdegnamlmabbaa", sum := "cecf8efd9f1b2ac732fcaa6be7736220afd08bfd8f918dd6529c50f4691fd33f", func := "loop.example/g01538/laws.FnExactHeapNew", spec := "fnExactHeapNew", apart := false }
def FnExactHeapNewSaid : Prop := fnExactHeapNewRow.holds Try.pinned (OpenSpec.ofChange fnExactHeapNewSpec)

/-- ITS FALSE NEIGHBOUR: 'it returns false'. Refute it at one input. -/
def fnExactHeapNewWrong : ChangeSpec := { name := "fnExactHeapNew", fn := fun _ => fun
  | [] => { results := [.lit (.bool false)], args := [] }
  | _ => none }
def FnExactHeapNewWrongFalsely : Prop := fnExactHeapNewRow.holds Try.pinned (OpenSpec.ofChange fnExactHeapNewWrong)

/- THE SECOND FORM. 'bulk': how many values and letters a reading holds, each counted each time it is reached (what is shared counts as often as it is met; a slice's spare places count too). A statement '..UptoSaid' is the law's where the arguments, and the package variables that the reading takes, are together of bulk at most 1048576: NARROWER than '..Said'. Prove '..Said' where nothing that the law and all that it calls make is longer than what came in: it says more and counts as full. Else prove '..UptoSaid'. A law counts once. -/
mutual
def uptoBulk {H : Type} : DataW H → Nat
  | .lit (.string bytes) => bytes.length + 1
  | .lit _ => 1
  | .nil => 1
  | .ptr d => uptoBulk d + 1
  | .slice elems spare => uptoBulkAll elems + uptoBulkAll spare + 1
  | .agg parts => uptoBulkAll parts + 1
  | .iface _ d => uptoBulk d + 1
  | .map entries => uptoBulkEntries entries + 1
  | .held _ => 1
def uptoBulkAll {H : Type} : List (DataW H) → Nat
  | [] => 0
  | d :: r => uptoBulk d + uptoBulkAll r
def uptoBulkEntries {H : Type} : List (Lit × DataW H) → Nat
  | [] => 0
  | x :: r => uptoBulkEntry x + uptoBulkEntries r
def uptoBulkEntry {H : Type} : Lit × DataW H → Nat
  | (.string bytes, d) => bytes.length + uptoBulk d + 1
  | (_, d) => uptoBulk d + 1
 end
def uptoSmall : (H : Type) → List (DataW H) → Bool := fun _ ds => decide (uptoBulkAll ds ≤ 1048576)
def OpenSpec.upto (s : _root_.Go.ChangeSpec) : _root_.Go.OpenSpec := { _root_.Go.OpenSpec.ofChange s with cond := some uptoSmall }

/-- 'laws.FnExactHazNew', WHERE WHAT IT READS IS OF BULK AT MOST 1048576: true; the input reads as it did. -/
def fnExactHazNewUptoRow : OpenClaim := { program := "ytbdegnamlmabbaa", sum := "cecf8efd9f1b2ac732fcaa6be7736220afd08bfd8f918dd6529c50f4691fd33f", func := "loop.example/g01538/laws.FnExactHazNew", spec := "fnExactHazNew", apart := false, narrowed := true }
def FnExactHazNewUptoSaid : Prop := fnExactHazNewUptoRow.holds Try.pinned (OpenSpec.upto fnExactHazNewSpec)

/-- 'laws.FnExactHazOk', WHERE WHAT IT READS IS OF BULK AT MOST 1048576: true; the input reads as it did. -/
def fnExactHazOkUptoRow : OpenClaim := { program := "ytbdegnamlmabbaa", sum := "cecf8efd9f1b2ac732fcaa6be7736220afd08bfd8f918dd6529c50f4691fd33f", func := "loop.example/g01538/laws.FnExactHazOk", spec := "fnExactHazOk", apart := false, narrowed := true }
def FnExactHazOkUptoSaid : Prop := fnExactHazOkUptoRow.holds Try.pinned (OpenSpec.upto fnExactHazOkSpec)

/-- 'laws.FnExactPublish', WHERE WHAT IT READS IS OF BULK AT MOST 1048576: true; the input reads as it did. -/
def fnExactPublishUptoRow : OpenClaim := { program := "ytbdegnamlmabbaa", sum := "cecf8efd9f1b2ac732fcaa6be7736220afd08bfd8f918dd6529c50f4691fd33f", func := "loop.example/g01538/laws.FnExactPublish", spec := "fnExactPublish", apart := false, narrowed := true }
def FnExactPublishUptoSaid : Prop := fnExactPublishUptoRow.holds Try.pinned (OpenSpec.upto fnExactPublishSpec)

/-- 'laws.FnExactClear', WHERE WHAT IT READS IS OF BULK AT MOST 1048576: true; the input reads as it did. -/
def fnExactClearUptoRow : OpenClaim := { program := "ytbdegnamlmabbaa", sum := "cecf8efd9f1b2ac732fcaa6be7736220afd08bfd8f918dd6529c50f4691fd33f", func := "loop.example/g01538/laws.FnExactClear", spec := "fnExactClear", apart := false, narrowed := true }
def FnExactClearUptoSaid : Prop := fnExactClearUptoRow.holds Try.pinned (OpenSpec.upto fnExactClearSpec)

/-- 'laws.FnExactHeldBy', WHERE WHAT IT READS IS OF BULK AT MOST 1048576: true; the input reads as it did. -/
def fnExactHeldByUptoRow : OpenClaim := { program := "ytbdegnamlmabbaa", sum := "cecf8efd9f1b2ac732fcaa6be7736220afd08bfd8f918dd6529c50f4691fd33f", func := "loop.example/g01538/laws.FnExactHeldBy", spec := "fnExactHeldBy", apart := false, narrowed := true }
def FnExactHeldByUptoSaid : Prop := fnExactHeldByUptoRow.holds Try.pinned (OpenSpec.upto fnExactHeldBySpec)

/-- 'laws.FnExactHazAt', WHERE WHAT IT READS IS OF BULK AT MOST 1048576: true; the input reads as it did. -/
def fnExactHazAtUptoRow : OpenClaim := { program := "ytbdegnamlmabbaa", sum := "cecf8efd9f1b2ac732fcaa6be7736220afd08bfd8f918dd6529c50f4691fd33f", func := "loop.example/g01538/laws.FnExactHazAt", spec := "fnExactHazAt", apart := false, narrowed := true }
def FnExactHazAtUptoSaid : Prop := fnExactHazAtUptoRow.holds Try.pinned (OpenSpec.upto fnExactHazAtSpec)

/-- 'laws.FnSums', WHERE WHAT IT READS IS OF BULK AT MOST 1048576: true; the input reads as it did. -/
def fnSumsUptoRow : OpenClaim := { program := "ytbdegnamlmabbaa", sum := "cecf8efd9f1b2ac732fcaa6be7736220afd08bfd8f918dd6529c50f4691fd33f", func := "loop.example/g01538/laws.FnSums", spec := "fnSums", apart := false, narrowed := true }
def FnSumsUptoSaid : Prop := fnSumsUptoRow.holds Try.pinned (OpenSpec.upto fnSumsSpec)

/-- 'laws.FnExactHeapNew', WHERE WHAT IT READS IS OF BULK AT MOST 1048576: true; the input reads as it did. -/
def fnExactHeapNewUptoRow : OpenClaim := { program := "ytbdegnamlmabbaa", sum := "cecf8efd9f1b2ac732fcaa6be7736220afd08bfd8f918dd6529c50f4691fd33f", func := "loop.example/g01538/laws.FnExactHeapNew", spec := "fnExactHeapNew", apart := false, narrowed := true }
def FnExactHeapNewUptoSaid : Prop := fnExactHeapNewUptoRow.holds Try.pinned (OpenSpec.upto fnExactHeapNewSpec)

end Rows
end Go.Proofs.Ytbdegnamlmabbaa
