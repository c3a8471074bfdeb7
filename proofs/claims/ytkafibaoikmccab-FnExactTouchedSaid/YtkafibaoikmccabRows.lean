/-
  No cell of these rows narrows 'for every input' (looked for: loops, veiled, ifaces, maps, wideKeys, modest, calm, conditions, laid).
  DERIVED. THE GIVEN ROWS OF THIS SEAT. 8 by the template 'for every input the law returns true; each argument reads behind the call as it read before'; 0 by the template 'total and deterministic' (their statements: YtkafibaoikmccabTotals.lean).
  GIVEN WITH THE SEED: the statements are not yours to turn. If you find one false, say at which input.
  Laid BY PROGRAM, IN A SANDBOX (cutbox-rows.mjs): the forced cells as the released guide's own fill.sh prints them over the translation f3823f89501dbcbf… (all of the seat's roots in one cut). By AI agents, Wed Nov 11 2026. No macro, syntax, notation, axiom, sorry.
-/
import Derived.Test.YtkafibaoikmccabChecked
import GoSem.Claim
import GoSem.ClaimJoined
import GoSem.ClaimMapViews
import Derived.JoinedTies
import Derived.KernelRfl
namespace Go.Proofs.Ytkafibaoikmccab
/- THE CELL 'sum', in the pinned program and in every row, IS THE sha256 OF THE DUMP (.gsa) THAT YtkafibaoikmccabProg.lean LOADS. Nothing in Lean hashes anything: it is a label: what it is worth is what the hold of that sum in a sandbox is worth. -/
noncomputable def Try.pinned : Pinned := { name := "ytkafibaoikmccab", sum := "f3823f89501dbcbfab17da8c6b2f092d8addef4727aa6a5ed5da9da7433d7e83", checked := Try.checked }
namespace Rows
def none {H : Type} : Left H := { results := [], args := [] }

/-- 'laws.FnExactCmdOk': WHATEVER THE INPUT: true; the input reads as it did. -/
def fnExactCmdOkSpec : ChangeSpec := { name := "fnExactCmdOk", fn := fun _ => fun
  | [d] => { results := [.lit (.bool true)], args := [d] }
  | _ => none }
def fnExactCmdOkRow : OpenClaim := { program := "ytkafibaoikmccab", sum := "f3823f89501dbcbfab17da8c6b2f092d8addef4727aa6a5ed5da9da7433d7e83", func := "loop.example/g01538/laws.FnExactCmdOk", spec := "fnExactCmdOk", apart := false }
def FnExactCmdOkSaid : Prop := fnExactCmdOkRow.holds Try.pinned (OpenSpec.ofChange fnExactCmdOkSpec)

/-- ITS FALSE NEIGHBOUR: 'it returns false'. Refute it at one input. -/
def fnExactCmdOkWrong : ChangeSpec := { name := "fnExactCmdOk", fn := fun _ => fun
  | [d] => { results := [.lit (.bool false)], args := [d] }
  | _ => none }
def FnExactCmdOkWrongFalsely : Prop := fnExactCmdOkRow.holds Try.pinned (OpenSpec.ofChange fnExactCmdOkWrong)

/-- 'laws.FnExactMapOk': WHATEVER THE INPUT: true; the input reads as it did. -/
def fnExactMapOkSpec : ChangeSpec := { name := "fnExactMapOk", fn := fun _ => fun
  | [d] => { results := [.lit (.bool true)], args := [d] }
  | _ => none }
def fnExactMapOkRow : OpenClaim := { program := "ytkafibaoikmccab", sum := "f3823f89501dbcbfab17da8c6b2f092d8addef4727aa6a5ed5da9da7433d7e83", func := "loop.example/g01538/laws.FnExactMapOk", spec := "fnExactMapOk", apart := false }
def FnExactMapOkSaid : Prop := fnExactMapOkRow.holds Try.pinned (OpenSpec.ofChange fnExactMapOkSpec)

/-- ITS FALSE NEIGHBOUR: 'it returns false'. Refute it at one input. -/
def fnExactMapOkWrong : ChangeSpec := { name := "fnExactMapOk", fn := fun _ => fun
  | [d] => { results := [.lit (.bool false)], args := [d] }
  | _ => none }
def FnExactMapOkWrongFalsely : Prop := fnExactMapOkRow.holds Try.pinned (OpenSpec.ofChange fnExactMapOkWrong)

/-- 'laws.FnExactMapGet': WHATEVER THE INPUT: true; the input reads as it did. -/
def fnExactMapGetSpec : ChangeSpec := { name := "fnExactMapGet", fn := fun _ => fun
  | [d1, d2] => { results := [.lit (.bool true)], args := [d1, d2] }
  | _ => none }
def fnExactMapGetRow : OpenClaim := { program := "ytkafibaoikmccab", sum := "f3823f89501dbcbfab17da8c6b2f092d8addef4727aa6a5ed5da9da7433d7e83", func := "loop.example/g01538/laws.FnExactMapGet", spec := "fnExactMapGet", apart := false }
def FnExactMapGetSaid : Prop := fnExactMapGetRow.holds Try.pinned (OpenSpec.ofChange fnExactMapGetSpec)

/-- ITS FALSE NEIGHBOUR: 'it returns false'. Refute it at one input. -/
def fnExactMapGetWrong : ChangeSpec := { name := "fnExactMapGet", fn := fun _ => fun
  | [d1, d2] => { results := [.lit (.bool false)], args := [d1, d2] }
  | _ => none }
def FnExactMapGetWrongFalsely : Prop := fnExactMapGetRow.holds Try.pinned (OpenSpec.ofChange fnExactMapGetWrong)

/-- 'laws.FnExactSameMap': WHATEVER THE INPUT: true; the input reads as it did. -/
def fnExactSameMapSpec : ChangeSpec := { name := "fnExactSameMap", fn := fun _ => fun
  | [d1, d2] => { results := [.lit (.bool true)], args := [d1, d2] }
  | _ => none }
def fnExactSameMapRow : OpenClaim := { program := "ytkafibaoikmccab", sum := "f3823f89501dbcbfab17da8c6b2f092d8addef4727aa6a5ed5da9da7433d7e83", func := "loop.example/g01538/laws.FnExactSameMap", spec := "fnExactSameMap", apart := false }
def FnExactSameMapSaid : Prop := fnExactSameMapRow.holds Try.pinned (OpenSpec.ofChange fnExactSameMapSpec)

/-- ITS FALSE NEIGHBOUR: 'it returns false'. Refute it at one input. -/
def fnExactSameMapWrong : ChangeSpec := { name := "fnExactSameMap", fn := fun _ => fun
  | [d1, d2] => { results := [.lit (.bool false)], args := [d1, d2] }
  | _ => none }
def FnExactSameMapWrongFalsely : Prop := fnExactSameMapRow.holds Try.pinned (OpenSpec.ofChange fnExactSameMapWrong)

/-- 'laws.FnExactSeenPut': WHATEVER THE INPUT: true; the input reads as it did. -/
def fnExactSeenPutSpec : ChangeSpec := { name := "fnExactSeenPut", fn := fun _ => fun
  | [d1, d2, d3] => { results := [.lit (.bool true)], args := [d1, d2, d3] }
  | _ => none }
def fnExactSeenPutRow : OpenClaim := { program := "ytkafibaoikmccab", sum := "f3823f89501dbcbfab17da8c6b2f092d8addef4727aa6a5ed5da9da7433d7e83", func := "loop.example/g01538/laws.FnExactSeenPut", spec := "fnExactSeenPut", apart := false }
def FnExactSeenPutSaid : Prop := fnExactSeenPutRow.holds Try.pinned (OpenSpec.ofChange fnExactSeenPutSpec)

/-- ITS FALSE NEIGHBOUR: 'it returns false'. Refute it at one input. -/
def fnExactSeenPutWrong : ChangeSpec := { name := "fnExactSeenPut", fn := fun _ => fun
  | [d1, d2, d3] => { results := [.lit (.bool false)], args := [d1, d2, d3] }
  | _ => none }
def FnExactSeenPutWrongFalsely : Prop := fnExactSeenPutRow.holds Try.pinned (OpenSpec.ofChange fnExactSeenPutWrong)

/-- 'laws.FnExactWriteOf': WHATEVER THE INPUT: true; the input reads as it did. -/
def fnExactWriteOfSpec : ChangeSpec := { name := "fnExactWriteOf", fn := fun _ => fun
  | [d1, d2] => { results := [.lit (.bool true)], args := [d1, d2] }
  | _ => none }
def fnExactWriteOfRow : OpenClaim := { program := "ytkafibaoikmccab", sum := "f3823f89501dbcbfab17da8c6b2f092d8addef4727aa6a5ed5da9da7433d7e83", func := "loop.example/g01538/laws.FnExactWriteOf", spec := "fnExactWriteOf", apart := false }
def FnExactWriteOfSaid : Prop := fnExactWriteOfRow.holds Try.pinned (OpenSpec.ofChange fnExactWriteOfSpec)

/-- ITS FALSE NEIGHBOUR: 'it returns false'. Refute it at one input. -/
def fnExactWriteOfWrong : ChangeSpec := { name := "fnExactWriteOf", fn := fun _ => fun
  | [d1, d2] => { results := [.lit (.bool false)], args := [d1, d2] }
  | _ => none }
def FnExactWriteOfWrongFalsely : Prop := fnExactWriteOfRow.holds Try.pinned (OpenSpec.ofChange fnExactWriteOfWrong)

/-- 'laws.FnExactTouched': WHATEVER THE INPUT: true; the input reads as it did. -/
def fnExactTouchedSpec : ChangeSpec := { name := "fnExactTouched", fn := fun _ => fun
  | [d] => { results := [.lit (.bool true)], args := [d] }
  | _ => none }
def fnExactTouchedRow : OpenClaim := { program := "ytkafibaoikmccab", sum := "f3823f89501dbcbfab17da8c6b2f092d8addef4727aa6a5ed5da9da7433d7e83", func := "loop.example/g01538/laws.FnExactTouched", spec := "fnExactTouched", apart := false }
def FnExactTouchedSaid : Prop := fnExactTouchedRow.holds Try.pinned (OpenSpec.ofChange fnExactTouchedSpec)

/-- ITS FALSE NEIGHBOUR: 'it returns false'. Refute it at one input. -/
def fnExactTouchedWrong : ChangeSpec := { name := "fnExactTouched", fn := fun _ => fun
  | [d] => { results := [.lit (.bool false)], args := [d] }
  | _ => none }
def FnExactTouchedWrongFalsely : Prop := fnExactTouchedRow.holds Try.pinned (OpenSpec.ofChange fnExactTouchedWrong)

/-- 'laws.FnExactPuts': WHATEVER THE INPUT: true; the input reads as it did. -/
def fnExactPutsSpec : ChangeSpec := { name := "fnExactPuts", fn := fun _ => fun
  | [d1, d2] => { results := [.lit (.bool true)], args := [d1, d2] }
  | _ => none }
def fnExactPutsRow : OpenClaim := { program := "ytkafibaoikmccab", sum := "f3823f89501dbcbfab17da8c6b2f092d8addef4727aa6a5ed5da9da7433d7e83", func := "loop.example/g01538/laws.FnExactPuts", spec := "fnExactPuts", apart := false }
def FnExactPutsSaid : Prop := fnExactPutsRow.holds Try.pinned (OpenSpec.ofChange fnExactPutsSpec)

/-- ITS FALSE NEIGHBOUR: 'it returns false'. Refute it at one input. -/
def fnExactPutsWrong : ChangeSpec := { name := "fnExactPuts", fn := fun _ => fun
  | [d1, d2] => { results := [.lit (.bool false)], args := [d1, d2] }
  | _ => none }
def FnExactPutsWrongFalsely : Prop := fnExactPutsRow.holds Try.pinned (OpenSpec.ofChange fnExactPutsWrong)

/- THE SECOND FORM. 'bulk': how many values and letters a reading holds, each counted each time it is reached (what is shared counts as often as it is met; a slice's spare places count too). A statement '..UptoSaid' is the law's where the arguments, and the package variables that the reading takes, are together of bulk at most 1048576: NARROWER than '..Said'. Prove '..Said' where nothing that the law and all that it calls make is longer than what came in: it says more and counts as full. Else prove '..UptoSaid'. A law counts once. -/
mutual
def uptoBulk {H : Type} : DataW H → Nat
  | .lit (.string bytes) => bytes.length + 1
  | .lit _ => 1
  | .nil => 1
  | .ptr d => uptoBulk d + 1
  | .slice elems spare => uptoBulkAll elems + uptoBulkAll spare + 1
  | .agg parts => uptoBulkAll parts + 1
  | .iface _ d => uptoBulk d + 1
  | .map entries => uptoBulkEntries entries + 1
  | .held _ => 1
def uptoBulkAll {H : Type} : List (DataW H) → Nat
  | [] => 0
  | d :: r => uptoBulk d + uptoBulkAll r
def uptoBulkEntries {H : Type} : List (Lit × DataW H) → Nat
  | [] => 0
  | x :: r => uptoBulkEntry x + uptoBulkEntries r
def uptoBulkEntry {H : Type} : Lit × DataW H → Nat
  | (.string bytes, d) => bytes.length + uptoBulk d + 1
  | (_, d) => uptoBulk d + 1
 end
def uptoSmall : (H : Type) → List (DataW H) → Bool := fun _ ds => decide (uptoBulkAll ds ≤ 1048576)
def OpenSpec.upto (s : _root_.Go.ChangeSpec) : _root_.Go.OpenSpec := { _root_.Go.OpenSpec.ofChange s with cond := some uptoSmall }

/-- 'laws.FnExactCmdOk', WHERE WHAT IT READS IS OF BULK AT MOST 1048576: true; the input reads as it did. -/
def fnExactCmdOkUptoRow : OpenClaim := { program := "ytkafibaoikmccab", sum := "f3823f89501dbcbfab17da8c6b2f092d8addef4727aa6a5ed5da9da7433d7e83", func := "loop.example/g01538/laws.FnExactCmdOk", spec := "fnExactCmdOk", apart := false, narrowed := true }
def FnExactCmdOkUptoSaid : Prop := fnExactCmdOkUptoRow.holds Try.pinned (OpenSpec.upto fnExactCmdOkSpec)

/-- 'laws.FnExactMapOk', WHERE WHAT IT READS IS OF BULK AT MOST 1048576: true; the input reads as it did. -/
def fnExactMapOkUptoRow : OpenClaim := { program := "ytkafibaoikmccab", sum := "f3823f89501dbcbfab17da8c6b2f092d8addef4727aa6a5ed5da9da7433d7e83", func := "loop.example/g01538/laws.FnExactMapOk", spec := "fnExactMapOk", apart := false, narrowed := true }
def FnExactMapOkUptoSaid : Prop := fnExactMapOkUptoRow.holds Try.pinned (OpenSpec.upto fnExactMapOkSpec)

/-- 'laws.FnExactMapGet', WHERE WHAT IT READS IS OF BULK AT MOST 1048576: true; the input reads as it did. -/
def fnExactMapGetUptoRow : OpenClaim := { program := "ytkafibaoikmccab", sum := "f3823f89501dbcbfab17da8c6b2f092d8addef4727aa6a5ed5da9da7433d7e83", func := "loop.example/g01538/laws.FnExactMapGet", spec := "fnExactMapGet", apart := false, narrowed := true }
def FnExactMapGetUptoSaid : Prop := fnExactMapGetUptoRow.holds Try.pinned (OpenSpec.upto fnExactMapGetSpec)

/-- 'laws.FnExactSameMap', WHERE WHAT IT READS IS OF BULK AT MOST 1048576: true; the input reads as it did. -/
def fnExactSameMapUptoRow : OpenClaim := { program := "ytkafibaoikmccab", sum := "f3823f89501dbcbfab17da8c6b2f092d8addef4727aa6a5ed5da9da7433d7e83", func := "loop.example/g01538/laws.FnExactSameMap", spec := "fnExactSameMap", apart := false, narrowed := true }
def FnExactSameMapUptoSaid : Prop := fnExactSameMapUptoRow.holds Try.pinned (OpenSpec.upto fnExactSameMapSpec)

/-- 'laws.FnExactSeenPut', WHERE WHAT IT READS IS OF BULK AT MOST 1048576: true; the input reads as it did. -/
def fnExactSeenPutUptoRow : OpenClaim := { program := "ytkafibaoikmccab", sum := "f3823f89501dbcbfab17da8c6b2f092d8addef4727aa6a5ed5da9da7433d7e83", func := "loop.example/g01538/laws.FnExactSeenPut", spec := "fnExactSeenPut", apart := false, narrowed := true }
def FnExactSeenPutUptoSaid : Prop := fnExactSeenPutUptoRow.holds Try.pinned (OpenSpec.upto fnExactSeenPutSpec)

/-- 'laws.FnExactWriteOf', WHERE WHAT IT READS IS OF BULK AT MOST 1048576: true; the input reads as it did. -/
def fnExactWriteOfUptoRow : OpenClaim := { program := "ytkafibaoikmccab", sum := "f3823f89501dbcbfab17da8c6b2f092d8addef4727aa6a5ed5da9da7433d7e83", func := "loop.example/g01538/laws.FnExactWriteOf", spec := "fnExactWriteOf", apart := false, narrowed := true }
def FnExactWriteOfUptoSaid : Prop := fnExactWriteOfUptoRow.holds Try.pinned (OpenSpec.upto fnExactWriteOfSpec)

/-- 'laws.FnExactTouched', WHERE WHAT IT READS IS OF BULK AT MOST 1048576: true; the input reads as it did. -/
def fnExactTouchedUptoRow : OpenClaim := { program := "ytkafibaoikmccab", sum := "f3823f89501dbcbfab17da8c6b2f092d8addef4727aa6a5ed5da9da7433d7e83", func := "loop.example/g01538/laws.FnExactTouched", spec := "fnExactTouched", apart := false, narrowed := true }
def FnExactTouchedUptoSaid : Prop := fnExactTouchedUptoRow.holds Try.pinned (OpenSpec.upto fnExactTouchedSpec)

/-- 'laws.FnExactPuts', WHERE WHAT IT READS IS OF BULK AT MOST 1048576: true; the input reads as it did. -/
def fnExactPutsUptoRow : OpenClaim := { program := "ytkafibaoikmccab", sum := "f3823f89501dbcbfab17da8c6b2f092d8addef4727aa6a5ed5da9da7433d7e83", func := "loop.example/g01538/laws.FnExactPuts", spec := "fnExactPuts", apart := false, narrowed := true }
def FnExactPutsUptoSaid : Prop := fnExactPutsUptoRow.holds Try.pinned (OpenSpec.upto fnExactPutsSpec)

end Rows
end Go.Proofs.Ytkafibaoikmccab
