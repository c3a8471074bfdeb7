/-
  No cell of these rows narrows 'for every input' (looked for: loops, veiled, ifaces, maps, wideKeys, modest, calm, conditions, laid).
  DERIVED. THE GIVEN ROWS OF THIS SEAT. 12 by the template 'for every input the law returns true; each argument reads behind the call as it read before'; 0 by the template 'total and deterministic' (their statements: YtlmmmeknilgdhaaTotals.lean).
  GIVEN WITH THE SEED: the statements are not yours to turn. If you find one false, say at which input.
  Laid BY PROGRAM, IN A SANDBOX (cutbox-rows.mjs): the forced cells as the released guide's own fill.sh prints them over the translation d9c5d546306d0bd6… (all of the seat's roots in one cut). By AI agents, Wed Nov 11 2026. No macro, syntax, notation, axiom, sorry.
-/
import Derived.Test.YtlmmmeknilgdhaaChecked
import GoSem.Claim
import GoSem.ClaimJoined
import GoSem.ClaimMapViews
import Derived.JoinedTies
import Derived.KernelRfl
namespace Go.Proofs.Ytlmmmeknilgdhaa
/- THE CELL 'sum', in the pinned program and in every row, IS THE sha256 OF THE DUMP (.gsa) THAT YtlmmmeknilgdhaaProg.lean LOADS. Nothing in Lean hashes anything: it is a label: what it is worth is what the hold of that sum in a sandbox is worth. -/
noncomputable def Try.pinned : Pinned := { name := "ytlmmmeknilgdhaa", sum := "d9c5d546306d0bd69bf4c4cfd0d5db7cb50264a880ffc7acf3a035a193f56062", checked := Try.checked }
namespace Rows
def none {H : Type} : Left H := { results := [], args := [] }

/-- 'laws.FnExactMapDel': WHATEVER THE INPUT: true; the input reads as it did. -/
def fnExactMapDelSpec : ChangeSpec := { name := "fnExactMapDel", fn := fun _ => fun
  | [d1, d2] => { results := [.lit (.bool true)], args := [d1, d2] }
  | _ => none }
def fnExactMapDelRow : OpenClaim := { program := "ytlmmmeknilgdhaa", sum := "d9c5d546306d0bd69bf4c4cfd0d5db7cb50264a880ffc7acf3a035a193f56062", func := "loop.example/g01538/laws.FnExactMapDel", spec := "fnExactMapDel", unfollowed := true, recurses := true, apart := false }
def FnExactMapDelSaid : Prop := fnExactMapDelRow.holds Try.pinned (OpenSpec.ofChange fnExactMapDelSpec)

/-- ITS FALSE NEIGHBOUR: 'it returns false'. Refute it at one input. -/
def fnExactMapDelWrong : ChangeSpec := { name := "fnExactMapDel", fn := fun _ => fun
  | [d1, d2] => { results := [.lit (.bool false)], args := [d1, d2] }
  | _ => none }
def FnExactMapDelWrongFalsely : Prop := fnExactMapDelRow.holds Try.pinned (OpenSpec.ofChange fnExactMapDelWrong)

/-- 'laws.FnExactMapPut': WHATEVER THE INPUT: true; the input reads as it did. -/
def fnExactMapPutSpec : ChangeSpec := { name := "fnExactMapPut", fn := fun _ => fun
  | [d1, d2, d3] => { results := [.lit (.bool true)], args := [d1, d2, d3] }
  | _ => none }
def fnExactMapPutRow : OpenClaim := { program := "ytlmmmeknilgdhaa", sum := "d9c5d546306d0bd69bf4c4cfd0d5db7cb50264a880ffc7acf3a035a193f56062", func := "loop.example/g01538/laws.FnExactMapPut", spec := "fnExactMapPut", inPlace := ["slices.overlaps[loop.example/g01538/impl.KV]"], unfollowed := true, recurses := true, apart := false }
def FnExactMapPutSaid : Prop := fnExactMapPutRow.holds Try.pinned (OpenSpec.ofChange fnExactMapPutSpec)

/-- ITS FALSE NEIGHBOUR: 'it returns false'. Refute it at one input. -/
def fnExactMapPutWrong : ChangeSpec := { name := "fnExactMapPut", fn := fun _ => fun
  | [d1, d2, d3] => { results := [.lit (.bool false)], args := [d1, d2, d3] }
  | _ => none }
def FnExactMapPutWrongFalsely : Prop := fnExactMapPutRow.holds Try.pinned (OpenSpec.ofChange fnExactMapPutWrong)

/-- 'laws.FnExactWritePut': WHATEVER THE INPUT: true; the input reads as it did. -/
def fnExactWritePutSpec : ChangeSpec := { name := "fnExactWritePut", fn := fun _ => fun
  | [d1, d2] => { results := [.lit (.bool true)], args := [d1, d2] }
  | _ => none }
def fnExactWritePutRow : OpenClaim := { program := "ytlmmmeknilgdhaa", sum := "d9c5d546306d0bd69bf4c4cfd0d5db7cb50264a880ffc7acf3a035a193f56062", func := "loop.example/g01538/laws.FnExactWritePut", spec := "fnExactWritePut", inPlace := ["slices.overlaps[loop.example/g01538/impl.Write]"], unfollowed := true, recurses := true, apart := false }
def FnExactWritePutSaid : Prop := fnExactWritePutRow.holds Try.pinned (OpenSpec.ofChange fnExactWritePutSpec)

/-- ITS FALSE NEIGHBOUR: 'it returns false'. Refute it at one input. -/
def fnExactWritePutWrong : ChangeSpec := { name := "fnExactWritePut", fn := fun _ => fun
  | [d1, d2] => { results := [.lit (.bool false)], args := [d1, d2] }
  | _ => none }
def FnExactWritePutWrongFalsely : Prop := fnExactWritePutRow.holds Try.pinned (OpenSpec.ofChange fnExactWritePutWrong)

/-- 'laws.FnExactCmdDo': WHATEVER THE INPUT: true; the input reads as it did. -/
def fnExactCmdDoSpec : ChangeSpec := { name := "fnExactCmdDo", fn := fun _ => fun
  | [d1, d2] => { results := [.lit (.bool true)], args := [d1, d2] }
  | _ => none }
def fnExactCmdDoRow : OpenClaim := { program := "ytlmmmeknilgdhaa", sum := "d9c5d546306d0bd69bf4c4cfd0d5db7cb50264a880ffc7acf3a035a193f56062", func := "loop.example/g01538/laws.FnExactCmdDo", spec := "fnExactCmdDo", inPlace := ["slices.overlaps[loop.example/g01538/impl.KV]"], unfollowed := true, recurses := true, apart := false }
def FnExactCmdDoSaid : Prop := fnExactCmdDoRow.holds Try.pinned (OpenSpec.ofChange fnExactCmdDoSpec)

/-- ITS FALSE NEIGHBOUR: 'it returns false'. Refute it at one input. -/
def fnExactCmdDoWrong : ChangeSpec := { name := "fnExactCmdDo", fn := fun _ => fun
  | [d1, d2] => { results := [.lit (.bool false)], args := [d1, d2] }
  | _ => none }
def FnExactCmdDoWrongFalsely : Prop := fnExactCmdDoRow.holds Try.pinned (OpenSpec.ofChange fnExactCmdDoWrong)

/-- 'laws.FnExactCmdsDo': WHATEVER THE INPUT: true; the input reads as it did. -/
def fnExactCmdsDoSpec : ChangeSpec := { name := "fnExactCmdsDo", fn := fun _ => fun
  | [d1, d2] => { results := [.lit (.bool true)], args := [d1, d2] }
  | _ => none }
def fnExactCmdsDoRow : OpenClaim := { program := "ytlmmmeknilgdhaa", sum := "d9c5d546306d0bd69bf4c4cfd0d5db7cb50264a880ffc7acf3a035a193f56062", func := "loop.example/g01538/laws.FnExactCmdsDo", spec := "fnExactCmdsDo", inPlace := ["slices.overlaps[loop.example/g01538/impl.KV]"], unfollowed := true, recurses := true, apart := false }
def FnExactCmdsDoSaid : Prop := fnExactCmdsDoRow.holds Try.pinned (OpenSpec.ofChange fnExactCmdsDoSpec)

/-- ITS FALSE NEIGHBOUR: 'it returns false'. Refute it at one input. -/
def fnExactCmdsDoWrong : ChangeSpec := { name := "fnExactCmdsDo", fn := fun _ => fun
  | [d1, d2] => { results := [.lit (.bool false)], args := [d1, d2] }
  | _ => none }
def FnExactCmdsDoWrongFalsely : Prop := fnExactCmdsDoRow.holds Try.pinned (OpenSpec.ofChange fnExactCmdsDoWrong)

/-- 'laws.FnExactApplyWrites': WHATEVER THE INPUT: true; the input reads as it did. -/
def fnExactApplyWritesSpec : ChangeSpec := { name := "fnExactApplyWrites", fn := fun _ => fun
  | [d1, d2] => { results := [.lit (.bool true)], args := [d1, d2] }
  | _ => none }
def fnExactApplyWritesRow : OpenClaim := { program := "ytlmmmeknilgdhaa", sum := "d9c5d546306d0bd69bf4c4cfd0d5db7cb50264a880ffc7acf3a035a193f56062", func := "loop.example/g01538/laws.FnExactApplyWrites", spec := "fnExactApplyWrites", inPlace := ["slices.overlaps[loop.example/g01538/impl.KV]"], unfollowed := true, recurses := true, apart := false }
def FnExactApplyWritesSaid : Prop := fnExactApplyWritesRow.holds Try.pinned (OpenSpec.ofChange fnExactApplyWritesSpec)

/-- ITS FALSE NEIGHBOUR: 'it returns false'. Refute it at one input. -/
def fnExactApplyWritesWrong : ChangeSpec := { name := "fnExactApplyWrites", fn := fun _ => fun
  | [d1, d2] => { results := [.lit (.bool false)], args := [d1, d2] }
  | _ => none }
def FnExactApplyWritesWrongFalsely : Prop := fnExactApplyWritesRow.holds Try.pinned (OpenSpec.ofChange fnExactApplyWritesWrong)

/-- 'laws.FnExactReplay': WHATEVER THE INPUT: true; the input reads as it did. -/
def fnExactReplaySpec : ChangeSpec := { name := "fnExactReplay", fn := fun _ => fun
  | [d] => { results := [.lit (.bool true)], args := [d] }
  | _ => none }
def fnExactReplayRow : OpenClaim := { program := "ytlmmmeknilgdhaa", sum := "d9c5d546306d0bd69bf4c4cfd0d5db7cb50264a880ffc7acf3a035a193f56062", func := "loop.example/g01538/laws.FnExactReplay", spec := "fnExactReplay", inPlace := ["slices.overlaps[loop.example/g01538/impl.KV]"], unfollowed := true, recurses := true, apart := false }
def FnExactReplaySaid : Prop := fnExactReplayRow.holds Try.pinned (OpenSpec.ofChange fnExactReplaySpec)

/-- ITS FALSE NEIGHBOUR: 'it returns false'. Refute it at one input. -/
def fnExactReplayWrong : ChangeSpec := { name := "fnExactReplay", fn := fun _ => fun
  | [d] => { results := [.lit (.bool false)], args := [d] }
  | _ => none }
def FnExactReplayWrongFalsely : Prop := fnExactReplayRow.holds Try.pinned (OpenSpec.ofChange fnExactReplayWrong)

/-- 'laws.FnExactReplayTo': WHATEVER THE INPUT: true; the input reads as it did. -/
def fnExactReplayToSpec : ChangeSpec := { name := "fnExactReplayTo", fn := fun _ => fun
  | [d1, d2] => { results := [.lit (.bool true)], args := [d1, d2] }
  | _ => none }
def fnExactReplayToRow : OpenClaim := { program := "ytlmmmeknilgdhaa", sum := "d9c5d546306d0bd69bf4c4cfd0d5db7cb50264a880ffc7acf3a035a193f56062", func := "loop.example/g01538/laws.FnExactReplayTo", spec := "fnExactReplayTo", inPlace := ["slices.overlaps[loop.example/g01538/impl.KV]"], unfollowed := true, recurses := true, apart := false }
def FnExactReplayToSaid : Prop := fnExactReplayToRow.holds Try.pinned (OpenSpec.ofChange fnExactReplayToSpec)

/-- ITS FALSE NEIGHBOUR: 'it returns false'. Refute it at one input. -/
def fnExactReplayToWrong : ChangeSpec := { name := "fnExactReplayTo", fn := fun _ => fun
  | [d1, d2] => { results := [.lit (.bool false)], args := [d1, d2] }
  | _ => none }
def FnExactReplayToWrongFalsely : Prop := fnExactReplayToRow.holds Try.pinned (OpenSpec.ofChange fnExactReplayToWrong)

/-- 'laws.FnExactRetireTo': WHATEVER THE INPUT: true; the input reads as it did. -/
def fnExactRetireToSpec : ChangeSpec := { name := "fnExactRetireTo", fn := fun _ => fun
  | [d1, d2, d3, d4] => { results := [.lit (.bool true)], args := [d1, d2, d3, d4] }
  | _ => none }
def fnExactRetireToRow : OpenClaim := { program := "ytlmmmeknilgdhaa", sum := "d9c5d546306d0bd69bf4c4cfd0d5db7cb50264a880ffc7acf3a035a193f56062", func := "loop.example/g01538/laws.FnExactRetireTo", spec := "fnExactRetireTo", apart := false }
def FnExactRetireToSaid : Prop := fnExactRetireToRow.holds Try.pinned (OpenSpec.ofChange fnExactRetireToSpec)

/-- ITS FALSE NEIGHBOUR: 'it returns false'. Refute it at one input. -/
def fnExactRetireToWrong : ChangeSpec := { name := "fnExactRetireTo", fn := fun _ => fun
  | [d1, d2, d3, d4] => { results := [.lit (.bool false)], args := [d1, d2, d3, d4] }
  | _ => none }
def FnExactRetireToWrongFalsely : Prop := fnExactRetireToRow.holds Try.pinned (OpenSpec.ofChange fnExactRetireToWrong)

/-- 'laws.FnExactDropRow': WHATEVER THE INPUT: true; the input reads as it did. -/
def fnExactDropRowSpec : ChangeSpec := { name := "fnExactDropRow", fn := fun _ => fun
  | [d1, d2, d3] => { results := [.lit (.bool true)], args := [d1, d2, d3] }
  | _ => none }
def fnExactDropRowRow : OpenClaim := { program := "ytlmmmeknilgdhaa", sum := "d9c5d546306d0bd69bf4c4cfd0d5db7cb50264a880ffc7acf3a035a193f56062", func := "loop.example/g01538/laws.FnExactDropRow", spec := "fnExactDropRow", apart := false }
def FnExactDropRowSaid : Prop := fnExactDropRowRow.holds Try.pinned (OpenSpec.ofChange fnExactDropRowSpec)

/-- ITS FALSE NEIGHBOUR: 'it returns false'. Refute it at one input. -/
def fnExactDropRowWrong : ChangeSpec := { name := "fnExactDropRow", fn := fun _ => fun
  | [d1, d2, d3] => { results := [.lit (.bool false)], args := [d1, d2, d3] }
  | _ => none }
def FnExactDropRowWrongFalsely : Prop := fnExactDropRowRow.holds Try.pinned (OpenSpec.ofChange fnExactDropRowWrong)

/-- 'laws.FnExactWaiting': WHATEVER THE INPUT: true; the input reads as it did. -/
def fnExactWaitingSpec : ChangeSpec := { name := "fnExactWaiting", fn := fun _ => fun
  | [d] => { results := [.lit (.bool true)], args := [d] }
  | _ => none }
def fnExactWaitingRow : OpenClaim := { program := "ytlmmmeknilgdhaa", sum := "d9c5d546306d0bd69bf4c4cfd0d5db7cb50264a880ffc7acf3a035a193f56062", func := "loop.example/g01538/laws.FnExactWaiting", spec := "fnExactWaiting", apart := false }
def FnExactWaitingSaid : Prop := fnExactWaitingRow.holds Try.pinned (OpenSpec.ofChange fnExactWaitingSpec)

/-- ITS FALSE NEIGHBOUR: 'it returns false'. Refute it at one input. -/
def fnExactWaitingWrong : ChangeSpec := { name := "fnExactWaiting", fn := fun _ => fun
  | [d] => { results := [.lit (.bool false)], args := [d] }
  | _ => none }
def FnExactWaitingWrongFalsely : Prop := fnExactWaitingRow.holds Try.pinned (OpenSpec.ofChange fnExactWaitingWrong)

/-- 'laws.FnExactTells': WHATEVER THE INPUT: true; the input reads as it did. -/
def fnExactTellsSpec : ChangeSpec := { name := "fnExactTells", fn := fun _ => fun
  | [d] => { results := [.lit (.bool true)], args := [d] }
  | _ => none }
def fnExactTellsRow : OpenClaim := { program := "ytlmmmeknilgdhaa", sum := "d9c5d546306d0bd69bf4c4cfd0d5db7cb50264a880ffc7acf3a035a193f56062", func := "loop.example/g01538/laws.FnExactTells", spec := "fnExactTells", apart := false }
def FnExactTellsSaid : Prop := fnExactTellsRow.holds Try.pinned (OpenSpec.ofChange fnExactTellsSpec)

/-- ITS FALSE NEIGHBOUR: 'it returns false'. Refute it at one input. -/
def fnExactTellsWrong : ChangeSpec := { name := "fnExactTells", fn := fun _ => fun
  | [d] => { results := [.lit (.bool false)], args := [d] }
  | _ => none }
def FnExactTellsWrongFalsely : Prop := fnExactTellsRow.holds Try.pinned (OpenSpec.ofChange fnExactTellsWrong)

/- THE SECOND FORM. 'bulk': how many values and letters a reading holds, each counted each time it is reached (what is shared counts as often as it is met; a slice's spare places count too). A statement '..UptoSaid' is the law's where the arguments, and the package variables that the reading takes, are together of bulk at most 1048576: NARROWER than '..Said'. Prove '..Said' where nothing that the law and all that it calls make is longer than what came in: it says more and counts as full. Else prove '..UptoSaid'. A law counts once. -/
mutual
def uptoBulk {H : Type} : DataW H → Nat
  | .lit (.string bytes) => bytes.length + 1
  | .lit _ => 1
  | .nil => 1
  | .ptr d => uptoBulk d + 1
  | .slice elems spare => uptoBulkAll elems + uptoBulkAll spare + 1
  | .agg parts => uptoBulkAll parts + 1
  | .iface _ d => uptoBulk d + 1
  | .map entries => uptoBulkEntries entries + 1
  | .held _ => 1
def uptoBulkAll {H : Type} : List (DataW H) → Nat
  | [] => 0
  | d :: r => uptoBulk d + uptoBulkAll r
def uptoBulkEntries {H : Type} : List (Lit × DataW H) → Nat
  | [] => 0
  | x :: r => uptoBulkEntry x + uptoBulkEntries r
def uptoBulkEntry {H : Type} : Lit × DataW H → Nat
  | (.string bytes, d) => bytes.length + uptoBulk d + 1
  | (_, d) => uptoBulk d + 1
 end
def uptoSmall : (H : Type) → List (DataW H) → Bool := fun _ ds => decide (uptoBulkAll ds ≤ 1048576)
def OpenSpec.upto (s : _root_.Go.ChangeSpec) : _root_.Go.OpenSpec := { _root_.Go.OpenSpec.ofChange s with cond := some uptoSmall }

/-- 'laws.FnExactMapDel', WHERE WHAT IT READS IS OF BULK AT MOST 1048576: true; the input reads as it did. -/
def fnExactMapDelUptoRow : OpenClaim := { program := "ytlmmmeknilgdhaa", sum := "d9c5d546306d0bd69bf4c4cfd0d5db7cb50264a880ffc7acf3a035a193f56062", func := "loop.example/g01538/laws.FnExactMapDel", spec := "fnExactMapDel", unfollowed := true, recurses := true, apart := false, narrowed := true }
def FnExactMapDelUptoSaid : Prop := fnExactMapDelUptoRow.holds Try.pinned (OpenSpec.upto fnExactMapDelSpec)

/-- 'laws.FnExactMapPut', WHERE WHAT IT READS IS OF BULK AT MOST 1048576: true; the input reads as it did. -/
def fnExactMapPutUptoRow : OpenClaim := { program := "ytlmmmeknilgdhaa", sum := "d9c5d546306d0bd69bf4c4cfd0d5db7cb50264a880ffc7acf3a035a193f56062", func := "loop.example/g01538/laws.FnExactMapPut", spec := "fnExactMapPut", inPlace := ["slices.overlaps[loop.example/g01538/impl.KV]"], unfollowed := true, recurses := true, apart := false, narrowed := true }
def FnExactMapPutUptoSaid : Prop := fnExactMapPutUptoRow.holds Try.pinned (OpenSpec.upto fnExactMapPutSpec)

/-- 'laws.FnExactWritePut', WHERE WHAT IT READS IS OF BULK AT MOST 1048576: true; the input reads as it did. -/
def fnExactWritePutUptoRow : OpenClaim := { program := "ytlmmmeknilgdhaa", sum := "d9c5d546306d0bd69bf4c4cfd0d5db7cb50264a880ffc7acf3a035a193f56062", func := "loop.example/g01538/laws.FnExactWritePut", spec := "fnExactWritePut", inPlace := ["slices.overlaps[loop.example/g01538/impl.Write]"], unfollowed := true, recurses := true, apart := false, narrowed := true }
def FnExactWritePutUptoSaid : Prop := fnExactWritePutUptoRow.holds Try.pinned (OpenSpec.upto fnExactWritePutSpec)

/-- 'laws.FnExactCmdDo', WHERE WHAT IT READS IS OF BULK AT MOST 1048576: true; the input reads as it did. -/
def fnExactCmdDoUptoRow : OpenClaim := { program := "ytlmmmeknilgdhaa", sum := "d9c5d546306d0bd69bf4c4cfd0d5db7cb50264a880ffc7acf3a035a193f56062", func := "loop.example/g01538/laws.FnExactCmdDo", spec := "fnExactCmdDo", inPlace := ["slices.overlaps[loop.example/g01538/impl.KV]"], unfollowed := true, recurses := true, apart := false, narrowed := true }
def FnExactCmdDoUptoSaid : Prop := fnExactCmdDoUptoRow.holds Try.pinned (OpenSpec.upto fnExactCmdDoSpec)

/-- 'laws.FnExactCmdsDo', WHERE WHAT IT READS IS OF BULK AT MOST 1048576: true; the input reads as it did. -/
def fnExactCmdsDoUptoRow : OpenClaim := { program := "ytlmmmeknilgdhaa", sum := "d9c5d546306d0bd69bf4c4cfd0d5db7cb50264a880ffc7acf3a035a193f56062", func := "loop.example/g01538/laws.FnExactCmdsDo", spec := "fnExactCmdsDo", inPlace := ["slices.overlaps[loop.example/g01538/impl.KV]"], unfollowed := true, recurses := true, apart := false, narrowed := true }
def FnExactCmdsDoUptoSaid : Prop := fnExactCmdsDoUptoRow.holds Try.pinned (OpenSpec.upto fnExactCmdsDoSpec)

/-- 'laws.FnExactApplyWrites', WHERE WHAT IT READS IS OF BULK AT MOST 1048576: true; the input reads as it did. -/
def fnExactApplyWritesUptoRow : OpenClaim := { program := "ytlmmmeknilgdhaa", sum := "d9c5d546306d0bd69bf4c4cfd0d5db7cb50264a880ffc7acf3a035a193f56062", func := "loop.example/g01538/laws.FnExactApplyWrites", spec := "fnExactApplyWrites", inPlace := ["slices.overlaps[loop.example/g01538/impl.KV]"], unfollowed := true, recurses := true, apart := false, narrowed := true }
def FnExactApplyWritesUptoSaid : Prop := fnExactApplyWritesUptoRow.holds Try.pinned (OpenSpec.upto fnExactApplyWritesSpec)

/-- 'laws.FnExactReplay', WHERE WHAT IT READS IS OF BULK AT MOST 1048576: true; the input reads as it did. -/
def fnExactReplayUptoRow : OpenClaim := { program := "ytlmmmeknilgdhaa", sum := "d9c5d546306d0bd69bf4c4cfd0d5db7cb50264a880ffc7acf3a035a193f56062", func := "loop.example/g01538/laws.FnExactReplay", spec := "fnExactReplay", inPlace := ["slices.overlaps[loop.example/g01538/impl.KV]"], unfollowed := true, recurses := true, apart := false, narrowed := true }
def FnExactReplayUptoSaid : Prop := fnExactReplayUptoRow.holds Try.pinned (OpenSpec.upto fnExactReplaySpec)

/-- 'laws.FnExactReplayTo', WHERE WHAT IT READS IS OF BULK AT MOST 1048576: true; the input reads as it did. -/
def fnExactReplayToUptoRow : OpenClaim := { program := "ytlmmmeknilgdhaa", sum := "d9c5d546306d0bd69bf4c4cfd0d5db7cb50264a880ffc7acf3a035a193f56062", func := "loop.example/g01538/laws.FnExactReplayTo", spec := "fnExactReplayTo", inPlace := ["slices.overlaps[loop.example/g01538/impl.KV]"], unfollowed := true, recurses := true, apart := false, narrowed := true }
def FnExactReplayToUptoSaid : Prop := fnExactReplayToUptoRow.holds Try.pinned (OpenSpec.upto fnExactReplayToSpec)

/-- 'laws.FnExactRetireTo', WHERE WHAT IT READS IS OF BULK AT MOST 1048576: true; the input reads as it did. -/
def fnExactRetireToUptoRow : OpenClaim := { program := "ytlmmmeknilgdhaa", sum := "d9c5d546306d0bd69bf4c4cfd0d5db7cb50264a880ffc7acf3a035a193f56062", func := "loop.example/g01538/laws.FnExactRetireTo", spec := "fnExactRetireTo", apart := false, narrowed := true }
def FnExactRetireToUptoSaid : Prop := fnExactRetireToUptoRow.holds Try.pinned (OpenSpec.upto fnExactRetireToSpec)

/-- 'laws.FnExactDropRow', WHERE WHAT IT READS IS OF BULK AT MOST 1048576: true; the input reads as it did. -/
def fnExactDropRowUptoRow : OpenClaim := { program := "ytlmmmeknilgdhaa", sum := "d9c5d546306d0bd69bf4c4cfd0d5db7cb50264a880ffc7acf3a035a193f56062", func := "loop.example/g01538/laws.FnExactDropRow", spec := "fnExactDropRow", apart := false, narrowed := true }
def FnExactDropRowUptoSaid : Prop := fnExactDropRowUptoRow.holds Try.pinned (OpenSpec.upto fnExactDropRowSpec)

/-- 'laws.FnExactWaiting', WHERE WHAT IT READS IS OF BULK AT MOST 1048576: true; the input reads as it did. -/
def fnExactWaitingUptoRow : OpenClaim := { program := "ytlmmmeknilgdhaa", sum := "d9c5d546306d0bd69bf4c4cfd0d5db7cb50264a880ffc7acf3a035a193f56062", func := "loop.example/g01538/laws.FnExactWaiting", spec := "fnExactWaiting", apart := false, narrowed := true }
def FnExactWaitingUptoSaid : Prop := fnExactWaitingUptoRow.holds Try.pinned (OpenSpec.upto fnExactWaitingSpec)

/-- 'laws.FnExactTells', WHERE WHAT IT READS IS OF BULK AT MOST 1048576: true; the input reads as it did. -/
def fnExactTellsUptoRow : OpenClaim := { program := "ytlmmmeknilgdhaa", sum := "d9c5d546306d0bd69bf4c4cfd0d5db7cb50264a880ffc7acf3a035a193f56062", func := "loop.example/g01538/laws.FnExactTells", spec := "fnExactTells", apart := false, narrowed := true }
def FnExactTellsUptoSaid : Prop := fnExactTellsUptoRow.holds Try.pinned (OpenSpec.upto fnExactTellsSpec)

end Rows
end Go.Proofs.Ytlmmmeknilgdhaa
