/-
  No cell of these rows narrows 'for every input' (looked for: loops, veiled, ifaces, maps, wideKeys, modest, calm, conditions, laid).
  DERIVED. THE GIVEN ROWS OF THIS SEAT. 12 by the template 'for every input the law returns true; each argument reads behind the call as it read before'; 0 by the template 'total and deterministic' (their statements: YthfcpaplnifhiaaTotals.lean).
  GIVEN WITH THE SEED: the statements are not yours to turn. If you find one false, say at which input.
  Laid BY PROGRAM, IN A SANDBOX (cutbox-rows.mjs): the forced cells as the released guide's own fill.sh prints them over the translation 921858aa054a3073… (all of the seat's roots in one cut). By AI agents, Wed Nov 11 2026. No macro, syntax, notation, axiom, sorry.
-/
import Derived.Test.YthfcpaplnifhiaaChecked
import GoSem.Claim
import GoSem.ClaimJoined
import GoSem.ClaimMapViews
import Derived.JoinedTies
import Derived.KernelRfl
namespace Go.Proofs.Ythfcpaplnifhiaa
/- THE CELL 'sum', in the pinned program and in every row, IS THE sha256 OF THE DUMP (.gsa) THAT YthfcpaplnifhiaaProg.lean LOADS. Nothing in Lean hashes anything: it is a label: what it is worth is what the hold of that sum in a sandbox is worth. -/
noncomputable def Try.pinned : Pinned := { name := "ythfcpaplnifhiaa", sum := "921858aa054a30730e9f316a451b1abb363be627cb25bcbf2699dcca4d75dba4", checked := Try.checked }
namespace Rows
def none {H : Type} : Left H := { results := [], args := [] }

/-- 'laws.FnExactMapPut': WHATEVER THE INPUT: true; the input reads as it did. -/
def fnExactMapPutSpec : ChangeSpec := { name := "fnExactMapPut", fn := fun _ => fun
  | [d1, d2, d3] => { results := [.lit (.bool true)], args := [d1, d2, d3] }
  | _ => none }
def fnExactMapPutRow : OpenClaim := { program := "ythfcpaplnifhiaa", sum := "921858aa054a30730e9f316a451b1abb363be627cb25bcbf2699dcca4d75dba4", func := "loop.example/g01538/laws.FnExactMapPut", spec := "fnExactMapPut", inPlace := ["slices.overlaps[loop.example/g01538/impl.KV]"], unfollowed := true, recurses := true, apart := false }
def FnExactMapPutSaid : Prop := fnExactMapPutRow.holds Try.pinned (OpenSpec.ofChange fnExactMapPutSpec)

/-- ITS FALSE NEIGHBOUR: 'it returns false'. Refute it at one input. -/
def fnExactMapPutWrong : ChangeSpec := { name := "fnExactMapPut", fn := fun _ => fun
  | [d1, d2, d3] => { results := [.lit (.bool false)], args := [d1, d2, d3] }
  | _ => none }
def FnExactMapPutWrongFalsely : Prop := fnExactMapPutRow.holds Try.pinned (OpenSpec.ofChange fnExactMapPutWrong)

/-- 'laws.FnExactWritePut': WHATEVER THE INPUT: true; the input reads as it did. -/
def fnExactWritePutSpec : ChangeSpec := { name := "fnExactWritePut", fn := fun _ => fun
  | [d1, d2] => { results := [.lit (.bool true)], args := [d1, d2] }
  | _ => none }
def fnExactWritePutRow : OpenClaim := { program := "ythfcpaplnifhiaa", sum := "921858aa054a30730e9f316a451b1abb363be627cb25bcbf2699dcca4d75dba4", func := "loop.example/g01538/laws.FnExactWritePut", spec := "fnExactWritePut", inPlace := ["slices.overlaps[loop.example/g01538/impl.Write]"], unfollowed := true, recurses := true, apart := false }
def FnExactWritePutSaid : Prop := fnExactWritePutRow.holds Try.pinned (OpenSpec.ofChange fnExactWritePutSpec)

/-- ITS FALSE NEIGHBOUR: 'it returns false'. Refute it at one input. -/
def fnExactWritePutWrong : ChangeSpec := { name := "fnExactWritePut", fn := fun _ => fun
  | [d1, d2] => { results := [.lit (.bool false)], args := [d1, d2] }
  | _ => none }
def FnExactWritePutWrongFalsely : Prop := fnExactWritePutRow.holds Try.pinned (OpenSpec.ofChange fnExactWritePutWrong)

/-- 'laws.FnExactCmdDo': WHATEVER THE INPUT: true; the input reads as it did. -/
def fnExactCmdDoSpec : ChangeSpec := { name := "fnExactCmdDo", fn := fun _ => fun
  | [d1, d2] => { results := [.lit (.bool true)], args := [d1, d2] }
  | _ => none }
def fnExactCmdDoRow : OpenClaim := { program := "ythfcpaplnifhiaa", sum := "921858aa054a30730e9f316a451b1abb363be627cb25bcbf2699dcca4d75dba4", func := "loop.example/g01538/laws.FnExactCmdDo", spec := "fnExactCmdDo", inPlace := ["slices.overlaps[loop.example/g01538/impl.KV]"], unfollowed := true, recurses := true, apart := false }
def FnExactCmdDoSaid : Prop := fnExactCmdDoRow.holds Try.pinned (OpenSpec.ofChange fnExactCmdDoSpec)

/-- ITS FALSE NEIGHBOUR: 'it returns false'. Refute it at one input. -/
def fnExactCmdDoWrong : ChangeSpec := { name := "fnExactCmdDo", fn := fun _ => fun
  | [d1, d2] => { results := [.lit (.bool false)], args := [d1, d2] }
  | _ => none }
def FnExactCmdDoWrongFalsely : Prop := fnExactCmdDoRow.holds Try.pinned (OpenSpec.ofChange fnExactCmdDoWrong)

/-- 'laws.FnExactCmdsDo': WHATEVER THE INPUT: true; the input reads as it did. -/
def fnExactCmdsDoSpec : ChangeSpec := { name := "fnExactCmdsDo", fn := fun _ => fun
  | [d1, d2] => { results := [.lit (.bool true)], args := [d1, d2] }
  | _ => none }
def fnExactCmdsDoRow : OpenClaim := { program := "ythfcpaplnifhiaa", sum := "921858aa054a30730e9f316a451b1abb363be627cb25bcbf2699dcca4d75dba4", func := "loop.example/g01538/laws.FnExactCmdsDo", spec := "fnExactCmdsDo", inPlace := ["slices.overlaps[loop.example/g01538/impl.KV]"], unfollowed := true, recurses := true, apart := false }
def FnExactCmdsDoSaid : Prop := fnExactCmdsDoRow.holds Try.pinned (OpenSpec.ofChange fnExactCmdsDoSpec)

/-- ITS FALSE NEIGHBOUR: 'it returns false'. Refute it at one input. -/
def fnExactCmdsDoWrong : ChangeSpec := { name := "fnExactCmdsDo", fn := fun _ => fun
  | [d1, d2] => { results := [.lit (.bool false)], args := [d1, d2] }
  | _ => none }
def FnExactCmdsDoWrongFalsely : Prop := fnExactCmdsDoRow.holds Try.pinned (OpenSpec.ofChange fnExactCmdsDoWrong)

/-- 'laws.FnExactApplyWrites': WHATEVER THE INPUT: true; the input reads as it did. -/
def fnExactApplyWritesSpec : ChangeSpec := { name := "fnExactApplyWrites", fn := fun _ => fun
  | [d1, d2] => { results := [.lit (.bool true)], args := [d1, d2] }
  | _ => none }
def fnExactApplyWritesRow : OpenClaim := { program := "ythfcpaplnifhiaa", sum := "921858aa054a30730e9f316a451b1abb363be627cb25bcbf2699dcca4d75dba4", func := "loop.example/g01538/laws.FnExactApplyWrites", spec := "fnExactApplyWrites", inPlace := ["slices.overlaps[loop.example/g01538/impl.KV]"], unfollowed := true, recurses := true, apart := false }
def FnExactApplyWritesSaid : Prop := fnExactApplyWritesRow.holds Try.pinned (OpenSpec.ofChange fnExactApplyWritesSpec)

/-- ITS FALSE NEIGHBOUR: 'it returns false'. Refute it at one input. -/
def fnExactApplyWritesWrong : ChangeSpec := { name := "fnExactApplyWrites", fn := fun _ => fun
  | [d1, d2] => { results := [.lit (.bool false)], args := [d1, d2] }
  | _ => none }
def FnExactApplyWritesWrongFalsely : Prop := fnExactApplyWritesRow.holds Try.pinned (OpenSpec.ofChange fnExactApplyWritesWrong)

/-- 'laws.FnExactReplay': WHATEVER THE INPUT: true; the input reads as it did. -/
def fnExactReplaySpec : ChangeSpec := { name := "fnExactReplay", fn := fun _ => fun
  | [d] => { results := [.lit (.bool true)], args := [d] }
  | _ => none }
def fnExactReplayRow : OpenClaim := { program := "ythfcpaplnifhiaa", sum := "921858aa054a30730e9f316a451b1abb363be627cb25bcbf2699dcca4d75dba4", func := "loop.example/g01538/laws.FnExactReplay", spec := "fnExactReplay", inPlace := ["slices.overlaps[loop.example/g01538/impl.KV]"], unfollowed := true, recurses := true, apart := false }
def FnExactReplaySaid : Prop := fnExactReplayRow.holds Try.pinned (OpenSpec.ofChange fnExactReplaySpec)

/-- ITS FALSE NEIGHBOUR: 'it returns false'. Refute it at one input. -/
def fnExactReplayWrong : ChangeSpec := { name := "fnExactReplay", fn := fun _ => fun
  | [d] => { results := [.lit (.bool false)], args := [d] }
  | _ => none }
def FnExactReplayWrongFalsely : Prop := fnExactReplayRow.holds Try.pinned (OpenSpec.ofChange fnExactReplayWrong)

/-- 'laws.FnExactReplayTo': WHATEVER THE INPUT: true; the input reads as it did. -/
def fnExactReplayToSpec : ChangeSpec := { name := "fnExactReplayTo", fn := fun _ => fun
  | [d1, d2] => { results := [.lit (.bool true)], args := [d1, d2] }
  | _ => none }
def fnExactReplayToRow : OpenClaim := { program := "ythfcpaplnifhiaa", sum := "921858aa054a30730e9f316a451b1abb363be627cb25bcbf2699dcca4d75dba4", func := "loop.example/g01538/laws.FnExactReplayTo", spec := "fnExactReplayTo", inPlace := ["slices.overlaps[loop.example/g01538/impl.KV]"], unfollowed := true, recurses := true, apart := false }
def FnExactReplayToSaid : Prop := fnExactReplayToRow.holds Try.pinned (OpenSpec.ofChange fnExactReplayToSpec)

/-- ITS FALSE NEIGHBOUR: 'it returns false'. Refute it at one input. -/
def fnExactReplayToWrong : ChangeSpec := { name := "fnExactReplayTo", fn := fun _ => fun
  | [d1, d2] => { results := [.lit (.bool false)], args := [d1, d2] }
  | _ => none }
def FnExactReplayToWrongFalsely : Prop := fnExactReplayToRow.holds Try.pinned (OpenSpec.ofChange fnExactReplayToWrong)

/-- 'laws.FnMaps': WHATEVER THE INPUT: true; the input reads as it did. -/
def fnMapsSpec : ChangeSpec := { name := "fnMaps", fn := fun _ => fun
  | [d] => { results := [.lit (.bool true)], args := [d] }
  | _ => none }
def fnMapsRow : OpenClaim := { program := "ythfcpaplnifhiaa", sum := "921858aa054a30730e9f316a451b1abb363be627cb25bcbf2699dcca4d75dba4", func := "loop.example/g01538/laws.FnMaps", spec := "fnMaps", inPlace := ["slices.overlaps[loop.example/g01538/impl.KV]"], unfollowed := true, recurses := true, apart := false }
def FnMapsSaid : Prop := fnMapsRow.holds Try.pinned (OpenSpec.ofChange fnMapsSpec)

/-- ITS FALSE NEIGHBOUR: 'it returns false'. Refute it at one input. -/
def fnMapsWrong : ChangeSpec := { name := "fnMaps", fn := fun _ => fun
  | [d] => { results := [.lit (.bool false)], args := [d] }
  | _ => none }
def FnMapsWrongFalsely : Prop := fnMapsRow.holds Try.pinned (OpenSpec.ofChange fnMapsWrong)

/-- 'laws.FnCommands': WHATEVER THE INPUT: true; the input reads as it did. -/
def fnCommandsSpec : ChangeSpec := { name := "fnCommands", fn := fun _ => fun
  | [d] => { results := [.lit (.bool true)], args := [d] }
  | _ => none }
def fnCommandsRow : OpenClaim := { program := "ythfcpaplnifhiaa", sum := "921858aa054a30730e9f316a451b1abb363be627cb25bcbf2699dcca4d75dba4", func := "loop.example/g01538/laws.FnCommands", spec := "fnCommands", inPlace := ["slices.overlaps[loop.example/g01538/impl.KV]"], unfollowed := true, recurses := true, apart := false }
def FnCommandsSaid : Prop := fnCommandsRow.holds Try.pinned (OpenSpec.ofChange fnCommandsSpec)

/-- ITS FALSE NEIGHBOUR: 'it returns false'. Refute it at one input. -/
def fnCommandsWrong : ChangeSpec := { name := "fnCommands", fn := fun _ => fun
  | [d] => { results := [.lit (.bool false)], args := [d] }
  | _ => none }
def FnCommandsWrongFalsely : Prop := fnCommandsRow.holds Try.pinned (OpenSpec.ofChange fnCommandsWrong)

/-- 'laws.FnWrites': WHATEVER THE INPUT: true; the input reads as it did. -/
def fnWritesSpec : ChangeSpec := { name := "fnWrites", fn := fun _ => fun
  | [d] => { results := [.lit (.bool true)], args := [d] }
  | _ => none }
def fnWritesRow : OpenClaim := { program := "ythfcpaplnifhiaa", sum := "921858aa054a30730e9f316a451b1abb363be627cb25bcbf2699dcca4d75dba4", func := "loop.example/g01538/laws.FnWrites", spec := "fnWrites", inPlace := ["slices.overlaps[loop.example/g01538/impl.Write]", "slices.overlaps[loop.example/g01538/impl.KV]"], unfollowed := true, recurses := true, apart := false }
def FnWritesSaid : Prop := fnWritesRow.holds Try.pinned (OpenSpec.ofChange fnWritesSpec)

/-- ITS FALSE NEIGHBOUR: 'it returns false'. Refute it at one input. -/
def fnWritesWrong : ChangeSpec := { name := "fnWrites", fn := fun _ => fun
  | [d] => { results := [.lit (.bool false)], args := [d] }
  | _ => none }
def FnWritesWrongFalsely : Prop := fnWritesRow.holds Try.pinned (OpenSpec.ofChange fnWritesWrong)

/-- 'laws.FnHazards': WHATEVER THE INPUT: true; the input reads as it did. -/
def fnHazardsSpec : ChangeSpec := { name := "fnHazards", fn := fun _ => fun
  | [d] => { results := [.lit (.bool true)], args := [d] }
  | _ => none }
def fnHazardsRow : OpenClaim := { program := "ythfcpaplnifhiaa", sum := "921858aa054a30730e9f316a451b1abb363be627cb25bcbf2699dcca4d75dba4", func := "loop.example/g01538/laws.FnHazards", spec := "fnHazards", apart := false }
def FnHazardsSaid : Prop := fnHazardsRow.holds Try.pinned (OpenSpec.ofChange fnHazardsSpec)

/-- ITS FALSE NEIGHBOUR: 'it returns false'. Refute it at one input. -/
def fnHazardsWrong : ChangeSpec := { name := "fnHazards", fn := fun _ => fun
  | [d] => { results := [.lit (.bool false)], args := [d] }
  | _ => none }
def FnHazardsWrongFalsely : Prop := fnHazardsRow.holds Try.pinned (OpenSpec.ofChange fnHazardsWrong)

/-- 'laws.FnLooks': WHATEVER THE INPUT: true; the input reads as it did. -/
def fnLooksSpec : ChangeSpec := { name := "fnLooks", fn := fun _ => fun
  | [d] => { results := [.lit (.bool true)], args := [d] }
  | _ => none }
def fnLooksRow : OpenClaim := { program := "ythfcpaplnifhiaa", sum := "921858aa054a30730e9f316a451b1abb363be627cb25bcbf2699dcca4d75dba4", func := "loop.example/g01538/laws.FnLooks", spec := "fnLooks", apart := false }
def FnLooksSaid : Prop := fnLooksRow.holds Try.pinned (OpenSpec.ofChange fnLooksSpec)

/-- ITS FALSE NEIGHBOUR: 'it returns false'. Refute it at one input. -/
def fnLooksWrong : ChangeSpec := { name := "fnLooks", fn := fun _ => fun
  | [d] => { results := [.lit (.bool false)], args := [d] }
  | _ => none }
def FnLooksWrongFalsely : Prop := fnLooksRow.holds Try.pinned (OpenSpec.ofChange fnLooksWrong)

/- THE SECOND FORM. 'bulk': how many values and letters a reading holds, each counted each time it is reached (what is shared counts as often as it is met; a slice's spare places count too). A statement '..UptoSaid' is the law's where the arguments, and the package variables that the reading takes, are together of bulk at most 1048576: NARROWER than '..Said'. Prove '..Said' where nothing that the law and all that it calls make is longer than what came in: it says more and counts as full. Else prove '..UptoSaid'. A law counts once. -/
mutual
def uptoBulk {H : Type} : DataW H → Nat
  | .lit (.string bytes) => bytes.length + 1
  | .lit _ => 1
  | .nil => 1
  | .ptr d => uptoBulk d + 1
  | .slice elems spare => uptoBulkAll elems + uptoBulkAll spare + 1
  | .agg parts => uptoBulkAll parts + 1
  | .iface _ d => uptoBulk d + 1
  | .map entries => uptoBulkEntries entries + 1
  | .held _ => 1
def uptoBulkAll {H : Type} : List (DataW H) → Nat
  | [] => 0
  | d :: r => uptoBulk d + uptoBulkAll r
def uptoBulkEntries {H : Type} : List (Lit × DataW H) → Nat
  | [] => 0
  | x :: r => uptoBulkEntry x + uptoBulkEntries r
def uptoBulkEntry {H : Type} : Lit × DataW H → Nat
  | (.string bytes, d) => bytes.length + uptoBulk d + 1
  | (_, d) => uptoBulk d + 1
 end
def uptoSmall : (H : Type) → List (DataW H) → Bool := fun _ ds => decide (uptoBulkAll ds ≤ 1048576)
def OpenSpec.upto (s : _root_.Go.ChangeSpec) : _root_.Go.OpenSpec := { _root_.Go.OpenSpec.ofChange s with cond := some uptoSmall }

/-- 'laws.FnExactMapPut', WHERE WHAT IT READS IS OF BULK AT MOST 1048576: true; the input reads as it did. -/
def fnExactMapPutUptoRow : OpenClaim := { program := "ythfcpaplnifhiaa", sum := "921858aa054a30730e9f316a451b1abb363be627cb25bcbf2699dcca4d75dba4", func := "loop.example/g01538/laws.FnExactMapPut", spec := "fnExactMapPut", inPlace := ["slices.overlaps[loop.example/g01538/impl.KV]"], unfollowed := true, recurses := true, apart := false, narrowed := true }
def FnExactMapPutUptoSaid : Prop := fnExactMapPutUptoRow.holds Try.pinned (OpenSpec.upto fnExactMapPutSpec)

/-- 'laws.FnExactWritePut', WHERE WHAT IT READS IS OF BULK AT MOST 1048576: true; the input reads as it did. -/
def fnExactWritePutUptoRow : OpenClaim := { program := "ythfcpaplnifhiaa", sum := "921858aa054a30730e9f316a451b1abb363be627cb25bcbf2699dcca4d75dba4", func := "loop.example/g01538/laws.FnExactWritePut", spec := "fnExactWritePut", inPlace := ["slices.overlaps[loop.example/g01538/impl.Write]"], unfollowed := true, recurses := true, apart := false, narrowed := true }
def FnExactWritePutUptoSaid : Prop := fnExactWritePutUptoRow.holds Try.pinned (OpenSpec.upto fnExactWritePutSpec)

/-- 'laws.FnExactCmdDo', WHERE WHAT IT READS IS OF BULK AT MOST 1048576: true; the input reads as it did. -/
def fnExactCmdDoUptoRow : OpenClaim := { program := "ythfcpaplnifhiaa", sum := "921858aa054a30730e9f316a451b1abb363be627cb25bcbf2699dcca4d75dba4", func := "loop.example/g01538/laws.FnExactCmdDo", spec := "fnExactCmdDo", inPlace := ["slices.overlaps[loop.example/g01538/impl.KV]"], unfollowed := true, recurses := true, apart := false, narrowed := true }
def FnExactCmdDoUptoSaid : Prop := fnExactCmdDoUptoRow.holds Try.pinned (OpenSpec.upto fnExactCmdDoSpec)

/-- 'laws.FnExactCmdsDo', WHERE WHAT IT READS IS OF BULK AT MOST 1048576: true; the input reads as it did. -/
def fnExactCmdsDoUptoRow : OpenClaim := { program := "ythfcpaplnifhiaa", sum := "921858aa054a30730e9f316a451b1abb363be627cb25bcbf2699dcca4d75dba4", func := "loop.example/g01538/laws.FnExactCmdsDo", spec := "fnExactCmdsDo", inPlace := ["slices.overlaps[loop.example/g01538/impl.KV]"], unfollowed := true, recurses := true, apart := false, narrowed := true }
def FnExactCmdsDoUptoSaid : Prop := fnExactCmdsDoUptoRow.holds Try.pinned (OpenSpec.upto fnExactCmdsDoSpec)

/-- 'laws.FnExactApplyWrites', WHERE WHAT IT READS IS OF BULK AT MOST 1048576: true; the input reads as it did. -/
def fnExactApplyWritesUptoRow : OpenClaim := { program := "ythfcpaplnifhiaa", sum := "921858aa054a30730e9f316a451b1abb363be627cb25bcbf2699dcca4d75dba4", func := "loop.example/g01538/laws.FnExactApplyWrites", spec := "fnExactApplyWrites", inPlace := ["slices.overlaps[loop.example/g01538/impl.KV]"], unfollowed := true, recurses := true, apart := false, narrowed := true }
def FnExactApplyWritesUptoSaid : Prop := fnExactApplyWritesUptoRow.holds Try.pinned (OpenSpec.upto fnExactApplyWritesSpec)

/-- 'laws.FnExactReplay', WHERE WHAT IT READS IS OF BULK AT MOST 1048576: true; the input reads as it did. -/
def fnExactReplayUptoRow : OpenClaim := { program := "ythfcpaplnifhiaa", sum := "921858aa054a30730e9f316a451b1abb363be627cb25bcbf2699dcca4d75dba4", func := "loop.example/g01538/laws.FnExactReplay", spec := "fnExactReplay", inPlace := ["slices.overlaps[loop.example/g01538/impl.KV]"], unfollowed := true, recurses := true, apart := false, narrowed := true }
def FnExactReplayUptoSaid : Prop := fnExactReplayUptoRow.holds Try.pinned (OpenSpec.upto fnExactReplaySpec)

/-- 'laws.FnExactReplayTo', WHERE WHAT IT READS IS OF BULK AT MOST 1048576: true; the input reads as it did. -/
def fnExactReplayToUptoRow : OpenClaim := { program := "ythfcpaplnifhiaa", sum := "921858aa054a30730e9f316a451b1abb363be627cb25bcbf2699dcca4d75dba4", func := "loop.example/g01538/laws.FnExactReplayTo", spec := "fnExactReplayTo", inPlace := ["slices.overlaps[loop.example/g01538/impl.KV]"], unfollowed := true, recurses := true, apart := false, narrowed := true }
def FnExactReplayToUptoSaid : Prop := fnExactReplayToUptoRow.holds Try.pinned (OpenSpec.upto fnExactReplayToSpec)

/-- 'laws.FnMaps', WHERE WHAT IT READS IS OF BULK AT MOST 1048576: true; the input reads as it did. -/
def fnMapsUptoRow : OpenClaim := { program := "ythfcpaplnifhiaa", sum := "921858aa054a30730e9f316a451b1abb363be627cb25bcbf2699dcca4d75dba4", func := "loop.example/g01538/laws.FnMaps", spec := "fnMaps", inPlace := ["slices.overlaps[loop.example/g01538/impl.KV]"], unfollowed := true, recurses := true, apart := false, narrowed := true }
def FnMapsUptoSaid : Prop := fnMapsUptoRow.holds Try.pinned (OpenSpec.upto fnMapsSpec)

/-- 'laws.FnCommands', WHERE WHAT IT READS IS OF BULK AT MOST 1048576: true; the input reads as it did. -/
def fnCommandsUptoRow : OpenClaim := { program := "ythfcpaplnifhiaa", sum := "921858aa054a30730e9f316a451b1abb363be627cb25bcbf2699dcca4d75dba4", func := "loop.example/g01538/laws.FnCommands", spec := "fnCommands", inPlace := ["slices.overlaps[loop.example/g01538/impl.KV]"], unfollowed := true, recurses := true, apart := false, narrowed := true }
def FnCommandsUptoSaid : Prop := fnCommandsUptoRow.holds Try.pinned (OpenSpec.upto fnCommandsSpec)

/-- 'laws.FnWrites', WHERE WHAT IT READS IS OF BULK AT MOST 1048576: true; the input reads as it did. -/
def fnWritesUptoRow : OpenClaim := { program := "ythfcpaplnifhiaa", sum := "921858aa054a30730e9f316a451b1abb363be627cb25bcbf2699dcca4d75dba4", func := "loop.example/g01538/laws.FnWrites", spec := "fnWrites", inPlace := ["slices.overlaps[loop.example/g01538/impl.Write]", "slices.overlaps[loop.example/g01538/impl.KV]"], unfollowed := true, recurses := true, apart := false, narrowed := true }
def FnWritesUptoSaid : Prop := fnWritesUptoRow.holds Try.pinned (OpenSpec.upto fnWritesSpec)

/-- 'laws.FnHazards', WHERE WHAT IT READS IS OF BULK AT MOST 1048576: true; the input reads as it did. -/
def fnHazardsUptoRow : OpenClaim := { program := "ythfcpaplnifhiaa", sum := "921858aa054a30730e9f316a451b1abb363be627cb25bcbf2699dcca4d75dba4", func := "loop.example/g01538/laws.FnHazards", spec := "fnHazards", apart := false, narrowed := true }
def FnHazardsUptoSaid : Prop := fnHazardsUptoRow.holds Try.pinned (OpenSpec.upto fnHazardsSpec)

/-- 'laws.FnLooks', WHERE WHAT IT READS IS OF BULK AT MOST 1048576: true; the input reads as it did. -/
def fnLooksUptoRow : OpenClaim := { program := "ythfcpaplnifhiaa", sum := "921858aa054a30730e9f316a451b1abb363be627cb25bcbf2699dcca4d75dba4", func := "loop.example/g01538/laws.FnLooks", spec := "fnLooks", apart := false, narrowed := true }
def FnLooksUptoSaid : Prop := fnLooksUptoRow.holds Try.pinned (OpenSpec.upto fnLooksSpec)

end Rows
end Go.Proofs.Ythfcpaplnifhiaa
