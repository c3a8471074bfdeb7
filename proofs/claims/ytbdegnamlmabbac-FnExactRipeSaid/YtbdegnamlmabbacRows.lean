/-
  No cell of these rows narrows 'for every input' (looked for: loops, veiled, ifaces, maps, wideKeys, modest, calm, conditions, laid).
  DERIVED. THE GIVEN ROWS OF THIS SEAT. 12 by the template 'for every input the law returns true; each argument reads behind the call as it read before'; 0 by the template 'total and deterministic' (their statements: YtbdegnamlmabbacTotals.lean).
  GIVEN WITH THE SEED: the statements are not yours to turn. If you find one false, say at which input.
  Laid BY PROGRAM, IN A SANDBOX (cutbox-rows.mjs): the forced cells as the released guide's own fill.sh prints them over the translation ad7a70734231bad1… (all of the seat's roots in one cut). By AI agents, Wed Nov 11 2026. No macro, syntax, notation, axiom, sorry.
-/
import Derived.Test.YtbdegnamlmabbacChecked
import GoSem.Claim
import GoSem.ClaimJoined
import GoSem.ClaimMapViews
import Derived.JoinedTies
import Derived.KernelRfl
namespace Go.Proofs.Ytbdegnamlmabbac
/- THE CELL 'sum', in the pinned program and in every row, IS THE sha256 OF THE DUMP (.gsa) THAT YtbdegnamlmabbacProg.lean LOADS. Nothing in Lean hashes anything: it is a label: what it is worth is what the hold of that sum in a sandbox is worth. -/
noncomputable def Try.pinned : Pinned := { name := "ytbdegnamlmabbac", sum := "ad7a70734231bad1af1f0b2d04754882928e7491d92a6ec9c87c6c21a37a301a", checked := Try.checked }
namespace Rows
def none {H : Type} : Left H := { results := [], args := [] }

/-- 'laws.FnExactLimboOk': WHATEVER THE INPUT: true; the input reads as it did. -/
def fnExactLimboOkSpec : ChangeSpec := { name := "fnExactLimboOk", fn := fun _ => fun
  | [d] => { results := [.lit (.bool true)], args := [d] }
  | _ => none }
def fnExactLimboOkRow : OpenClaim := { program := "ytbdegnamlmabbac", sum := "ad7a70734231bad1af1f0b2d04754882928e7491d92a6ec9c87c6c21a37a301a", func := "loop.example/g01538/laws.FnExactLimboOk", spec := "fnExactLimboOk", apart := false }
def FnExactLimboOkSaid : Prop := fnExactLimboOkRow.holds Try.pinned (OpenSpec.ofChange fnExactLimboOkSpec)

/-- ITS FALSE NEIGHBOUR: 'it returns false'. Refute it at one input. -/
def fnExactLimboOkWrong : ChangeSpec := { name := "fnExactLimboOk", fn := fun _ => fun
  | [d] => { results := [.lit (.bool false)], args := [d] }
  | _ => none }
def FnExactLimboOkWrongFalsely : Prop := fnExactLimboOkRow.holds Try.pinned (OpenSpec.ofChange fnExactLimboOkWrong)

/-- 'laws.FnExactRetireTo': WHATEVER THE INPUT: true; the input reads as it did. -/
def fnExactRetireToSpec : ChangeSpec := { name := "fnExactRetireTo", fn := fun _ => fun
  | [d1, d2, d3, d4] => { results := [.lit (.bool true)], args := [d1, d2, d3, d4] }
  | _ => none }
def fnExactRetireToRow : OpenClaim := { program := "ytbdegnamlmabbac", sum := "ad7a70734231bad1af1f0b2d04754882928e7491d92a6ec9c87c6c21a37a301a", func := "loop.example/g01538/laws.FnExactRetireTo", spec := "fnExactRetireTo", apart := false }
def FnExactRetireToSaid : Prop := fnExactRetireToRow.holds Try.pinned (OpenSpec.ofChange fnExactRetireToSpec)

/-- ITS FALSE NEIGHBOUR: 'it returns false'. Refute it at one input. -/
def fnExactRetireToWrong : ChangeSpec := { name := "fnExactRetireTo", fn := fun _ => fun
  | [d1, d2, d3, d4] => { results := [.lit (.bool false)], args := [d1, d2, d3, d4] }
  | _ => none }
def FnExactRetireToWrongFalsely : Prop := fnExactRetireToRow.holds Try.pinned (OpenSpec.ofChange fnExactRetireToWrong)

/-- 'laws.FnExactDropRow': WHATEVER THE INPUT: true; the input reads as it did. -/
def fnExactDropRowSpec : ChangeSpec := { name := "fnExactDropRow", fn := fun _ => fun
  | [d1, d2, d3] => { results := [.lit (.bool true)], args := [d1, d2, d3] }
  | _ => none }
def fnExactDropRowRow : OpenClaim := { program := "ytbdegnamlmabbac", sum := "ad7a70734231bad1af1f0b2d04754882928e7491d92a6ec9c87c6c21a37a301a", func := "loop.example/g01538/laws.FnExactDropRow", spec := "fnExactDropRow", apart := false }
def FnExactDropRowSaid : Prop := fnExactDropRowRow.holds Try.pinned (OpenSpec.ofChange fnExactDropRowSpec)

/-- ITS FALSE NEIGHBOUR: 'it returns false'. Refute it at one input. -/
def fnExactDropRowWrong : ChangeSpec := { name := "fnExactDropRow", fn := fun _ => fun
  | [d1, d2, d3] => { results := [.lit (.bool false)], args := [d1, d2, d3] }
  | _ => none }
def FnExactDropRowWrongFalsely : Prop := fnExactDropRowRow.holds Try.pinned (OpenSpec.ofChange fnExactDropRowWrong)

/-- 'laws.FnExactRipe': WHATEVER THE INPUT: true; the input reads as it did. -/
def fnExactRipeSpec : ChangeSpec := { name := "fnExactRipe", fn := fun _ => fun
  | [d1, d2] => { results := [.lit (.bool true)], args := [d1, d2] }
  | _ => none }
def fnExactRipeRow : OpenClaim := { program := "ytbdegnamlmabbac", sum := "ad7a70734231bad1af1f0b2d04754882928e7491d92a6ec9c87c6c21a37a301a", func := "loop.example/g01538/laws.FnExactRipe", spec := "fnExactRipe", apart := false }
def FnExactRipeSaid : Prop := fnExactRipeRow.holds Try.pinned (OpenSpec.ofChange fnExactRipeSpec)

/-- ITS FALSE NEIGHBOUR: 'it returns false'. Refute it at one input. -/
def fnExactRipeWrong : ChangeSpec := { name := "fnExactRipe", fn := fun _ => fun
  | [d1, d2] => { results := [.lit (.bool false)], args := [d1, d2] }
  | _ => none }
def FnExactRipeWrongFalsely : Prop := fnExactRipeRow.holds Try.pinned (OpenSpec.ofChange fnExactRipeWrong)

/-- 'laws.FnExactBucket': WHATEVER THE INPUT: true; the input reads as it did. -/
def fnExactBucketSpec : ChangeSpec := { name := "fnExactBucket", fn := fun _ => fun
  | [d1, d2, d3] => { results := [.lit (.bool true)], args := [d1, d2, d3] }
  | _ => none }
def fnExactBucketRow : OpenClaim := { program := "ytbdegnamlmabbac", sum := "ad7a70734231bad1af1f0b2d04754882928e7491d92a6ec9c87c6c21a37a301a", func := "loop.example/g01538/laws.FnExactBucket", spec := "fnExactBucket", apart := false }
def FnExactBucketSaid : Prop := fnExactBucketRow.holds Try.pinned (OpenSpec.ofChange fnExactBucketSpec)

/-- ITS FALSE NEIGHBOUR: 'it returns false'. Refute it at one input. -/
def fnExactBucketWrong : ChangeSpec := { name := "fnExactBucket", fn := fun _ => fun
  | [d1, d2, d3] => { results := [.lit (.bool false)], args := [d1, d2, d3] }
  | _ => none }
def FnExactBucketWrongFalsely : Prop := fnExactBucketRow.holds Try.pinned (OpenSpec.ofChange fnExactBucketWrong)

/-- 'laws.FnExactLimboSize': WHATEVER THE INPUT: true; the input reads as it did. -/
def fnExactLimboSizeSpec : ChangeSpec := { name := "fnExactLimboSize", fn := fun _ => fun
  | [d] => { results := [.lit (.bool true)], args := [d] }
  | _ => none }
def fnExactLimboSizeRow : OpenClaim := { program := "ytbdegnamlmabbac", sum := "ad7a70734231bad1af1f0b2d04754882928e7491d92a6ec9c87c6c21a37a301a", func := "loop.example/g01538/laws.FnExactLimboSize", spec := "fnExactLimboSize", apart := false }
def FnExactLimboSizeSaid : Prop := fnExactLimboSizeRow.holds Try.pinned (OpenSpec.ofChange fnExactLimboSizeSpec)

/-- ITS FALSE NEIGHBOUR: 'it returns false'. Refute it at one input. -/
def fnExactLimboSizeWrong : ChangeSpec := { name := "fnExactLimboSize", fn := fun _ => fun
  | [d] => { results := [.lit (.bool false)], args := [d] }
  | _ => none }
def FnExactLimboSizeWrongFalsely : Prop := fnExactLimboSizeRow.holds Try.pinned (OpenSpec.ofChange fnExactLimboSizeWrong)

/-- 'laws.FnExactListsNew': WHATEVER THE INPUT: true; the input reads as it did. -/
def fnExactListsNewSpec : ChangeSpec := { name := "fnExactListsNew", fn := fun _ => fun
  | [] => { results := [.lit (.bool true)], args := [] }
  | _ => none }
def fnExactListsNewRow : OpenClaim := { program := "ytbdegnamlmabbac", sum := "ad7a70734231bad1af1f0b2d04754882928e7491d92a6ec9c87c6c21a37a301a", func := "loop.example/g01538/laws.FnExactListsNew", spec := "fnExactListsNew", apart := false }
def FnExactListsNewSaid : Prop := fnExactListsNewRow.holds Try.pinned (OpenSpec.ofChange fnExactListsNewSpec)

/-- ITS FALSE NEIGHBOUR: 'it returns false'. Refute it at one input. -/
def fnExactListsNewWrong : ChangeSpec := { name := "fnExactListsNew", fn := fun _ => fun
  | [] => { results := [.lit (.bool false)], args := [] }
  | _ => none }
def FnExactListsNewWrongFalsely : Prop := fnExactListsNewRow.holds Try.pinned (OpenSpec.ofChange fnExactListsNewWrong)

/-- 'laws.FnExactListsOk': WHATEVER THE INPUT: true; the input reads as it did. -/
def fnExactListsOkSpec : ChangeSpec := { name := "fnExactListsOk", fn := fun _ => fun
  | [d] => { results := [.lit (.bool true)], args := [d] }
  | _ => none }
def fnExactListsOkRow : OpenClaim := { program := "ytbdegnamlmabbac", sum := "ad7a70734231bad1af1f0b2d04754882928e7491d92a6ec9c87c6c21a37a301a", func := "loop.example/g01538/laws.FnExactListsOk", spec := "fnExactListsOk", apart := false }
def FnExactListsOkSaid : Prop := fnExactListsOkRow.holds Try.pinned (OpenSpec.ofChange fnExactListsOkSpec)

/-- ITS FALSE NEIGHBOUR: 'it returns false'. Refute it at one input. -/
def fnExactListsOkWrong : ChangeSpec := { name := "fnExactListsOk", fn := fun _ => fun
  | [d] => { results := [.lit (.bool false)], args := [d] }
  | _ => none }
def FnExactListsOkWrongFalsely : Prop := fnExactListsOkRow.holds Try.pinned (OpenSpec.ofChange fnExactListsOkWrong)

/-- 'laws.FnExactTakeOwn': WHATEVER THE INPUT: true; the input reads as it did. -/
def fnExactTakeOwnSpec : ChangeSpec := { name := "fnExactTakeOwn", fn := fun _ => fun
  | [d1, d2, d3] => { results := [.lit (.bool true)], args := [d1, d2, d3] }
  | _ => none }
def fnExactTakeOwnRow : OpenClaim := { program := "ytbdegnamlmabbac", sum := "ad7a70734231bad1af1f0b2d04754882928e7491d92a6ec9c87c6c21a37a301a", func := "loop.example/g01538/laws.FnExactTakeOwn", spec := "fnExactTakeOwn", apart := false }
def FnExactTakeOwnSaid : Prop := fnExactTakeOwnRow.holds Try.pinned (OpenSpec.ofChange fnExactTakeOwnSpec)

/-- ITS FALSE NEIGHBOUR: 'it returns false'. Refute it at one input. -/
def fnExactTakeOwnWrong : ChangeSpec := { name := "fnExactTakeOwn", fn := fun _ => fun
  | [d1, d2, d3] => { results := [.lit (.bool false)], args := [d1, d2, d3] }
  | _ => none }
def FnExactTakeOwnWrongFalsely : Prop := fnExactTakeOwnRow.holds Try.pinned (OpenSpec.ofChange fnExactTakeOwnWrong)

/-- 'laws.FnExactTakeGlobal': WHATEVER THE INPUT: true; the input reads as it did. -/
def fnExactTakeGlobalSpec : ChangeSpec := { name := "fnExactTakeGlobal", fn := fun _ => fun
  | [d1, d2] => { results := [.lit (.bool true)], args := [d1, d2] }
  | _ => none }
def fnExactTakeGlobalRow : OpenClaim := { program := "ytbdegnamlmabbac", sum := "ad7a70734231bad1af1f0b2d04754882928e7491d92a6ec9c87c6c21a37a301a", func := "loop.example/g01538/laws.FnExactTakeGlobal", spec := "fnExactTakeGlobal", apart := false }
def FnExactTakeGlobalSaid : Prop := fnExactTakeGlobalRow.holds Try.pinned (OpenSpec.ofChange fnExactTakeGlobalSpec)

/-- ITS FALSE NEIGHBOUR: 'it returns false'. Refute it at one input. -/
def fnExactTakeGlobalWrong : ChangeSpec := { name := "fnExactTakeGlobal", fn := fun _ => fun
  | [d1, d2] => { results := [.lit (.bool false)], args := [d1, d2] }
  | _ => none }
def FnExactTakeGlobalWrongFalsely : Prop := fnExactTakeGlobalRow.holds Try.pinned (OpenSpec.ofChange fnExactTakeGlobalWrong)

/-- 'laws.FnExactGive': WHATEVER THE INPUT: true; the input reads as it did. -/
def fnExactGiveSpec : ChangeSpec := { name := "fnExactGive", fn := fun _ => fun
  | [d1, d2, d3, d4] => { results := [.lit (.bool true)], args := [d1, d2, d3, d4] }
  | _ => none }
def fnExactGiveRow : OpenClaim := { program := "ytbdegnamlmabbac", sum := "ad7a70734231bad1af1f0b2d04754882928e7491d92a6ec9c87c6c21a37a301a", func := "loop.example/g01538/laws.FnExactGive", spec := "fnExactGive", apart := false }
def FnExactGiveSaid : Prop := fnExactGiveRow.holds Try.pinned (OpenSpec.ofChange fnExactGiveSpec)

/-- ITS FALSE NEIGHBOUR: 'it returns false'. Refute it at one input. -/
def fnExactGiveWrong : ChangeSpec := { name := "fnExactGive", fn := fun _ => fun
  | [d1, d2, d3, d4] => { results := [.lit (.bool false)], args := [d1, d2, d3, d4] }
  | _ => none }
def FnExactGiveWrongFalsely : Prop := fnExactGiveRow.holds Try.pinned (OpenSpec.ofChange fnExactGiveWrong)

/-- 'laws.FnExactOnList': WHATEVER THE INPUT: true; the input reads as it did. -/
def fnExactOnListSpec : ChangeSpec := { name := "fnExactOnList", fn := fun _ => fun
  | [d1, d2] => { results := [.lit (.bool true)], args := [d1, d2] }
  | _ => none }
def fnExactOnListRow : OpenClaim := { program := "ytbdegnamlmabbac", sum := "ad7a70734231bad1af1f0b2d04754882928e7491d92a6ec9c87c6c21a37a301a", func := "loop.example/g01538/laws.FnExactOnList", spec := "fnExactOnList", apart := false }
def FnExactOnListSaid : Prop := fnExactOnListRow.holds Try.pinned (OpenSpec.ofChange fnExactOnListSpec)

/-- ITS FALSE NEIGHBOUR: 'it returns false'. Refute it at one input. -/
def fnExactOnListWrong : ChangeSpec := { name := "fnExactOnList", fn := fun _ => fun
  | [d1, d2] => { results := [.lit (.bool false)], args := [d1, d2] }
  | _ => none }
def FnExactOnListWrongFalsely : Prop := fnExactOnListRow.holds Try.pinned (OpenSpec.ofChange fnExactOnListWrong)

/- THE SECOND FORM. 'bulk': how many values and letters a reading holds, each counted each time it is reached (what is shared counts as often as it is met; a slice's spare places count too). A statement '..UptoSaid' is the law's where the arguments, and the package variables that the reading takes, are together of bulk at most 1048576: NARROWER than '..Said'. Prove '..Said' where nothing that the law and all that it calls make is longer than what came in: it says more and counts as full. Else prove '..UptoSaid'. A law counts once. -/
mutual
def uptoBulk {H : Type} : DataW H → Nat
  | .lit (.string bytes) => bytes.length + 1
  | .lit _ => 1
  | .nil => 1
  | .ptr d => uptoBulk d + 1
  | .slice elems spare => uptoBulkAll elems + uptoBulkAll spare + 1
  | .agg parts => uptoBulkAll parts + 1
  | .iface _ d => uptoBulk d + 1
  | .map entries => uptoBulkEntries entries + 1
  | .held _ => 1
def uptoBulkAll {H : Type} : List (DataW H) → Nat
  | [] => 0
  | d :: r => uptoBulk d + uptoBulkAll r
def uptoBulkEntries {H : Type} : List (Lit × DataW H) → Nat
  | [] => 0
  | x :: r => uptoBulkEntry x + uptoBulkEntries r
def uptoBulkEntry {H : Type} : Lit × DataW H → Nat
  | (.string bytes, d) => bytes.length + uptoBulk d + 1
  | (_, d) => uptoBulk d + 1
 end
def uptoSmall : (H : Type) → List (DataW H) → Bool := fun _ ds => decide (uptoBulkAll ds ≤ 1048576)
def OpenSpec.upto (s : _root_.Go.ChangeSpec) : _root_.Go.OpenSpec := { _root_.Go.OpenSpec.ofChange s with cond := some uptoSmall }

/-- 'laws.FnExactLimboOk', WHERE WHAT IT READS IS OF BULK AT MOST 1048576: true; the input reads as it did. -/
def fnExactLimboOkUptoRow : OpenClaim := { program := "ytbdegnamlmabbac", sum := "ad7a70734231bad1af1f0b2d04754882928e7491d92a6ec9c87c6c21a37a301a", func := "loop.example/g01538/laws.FnExactLimboOk", spec := "fnExactLimboOk", apart := false, narrowed := true }
def FnExactLimboOkUptoSaid : Prop := fnExactLimboOkUptoRow.holds Try.pinned (OpenSpec.upto fnExactLimboOkSpec)

/-- 'laws.FnExactRetireTo', WHERE WHAT IT READS IS OF BULK AT MOST 1048576: true; the input reads as it did. -/
def fnExactRetireToUptoRow : OpenClaim := { program := "ytbdegnamlmabbac", sum := "ad7a70734231bad1af1f0b2d04754882928e7491d92a6ec9c87c6c21a37a301a", func := "loop.example/g01538/laws.FnExactRetireTo", spec := "fnExactRetireTo", apart := false, narrowed := true }
def FnExactRetireToUptoSaid : Prop := fnExactRetireToUptoRow.holds Try.pinned (OpenSpec.upto fnExactRetireToSpec)

/-- 'laws.FnExactDropRow', WHERE WHAT IT READS IS OF BULK AT MOST 1048576: true; the input reads as it did. -/
def fnExactDropRowUptoRow : OpenClaim := { program := "ytbdegnamlmabbac", sum := "ad7a70734231bad1af1f0b2d04754882928e7491d92a6ec9c87c6c21a37a301a", func := "loop.example/g01538/laws.FnExactDropRow", spec := "fnExactDropRow", apart := false, narrowed := true }
def FnExactDropRowUptoSaid : Prop := fnExactDropRowUptoRow.holds Try.pinned (OpenSpec.upto fnExactDropRowSpec)

/-- 'laws.FnExactRipe', WHERE WHAT IT READS IS OF BULK AT MOST 1048576: true; the input reads as it did. -/
def fnExactRipeUptoRow : OpenClaim := { program := "ytbdegnamlmabbac", sum := "ad7a70734231bad1af1f0b2d04754882928e7491d92a6ec9c87c6c21a37a301a", func := "loop.example/g01538/laws.FnExactRipe", spec := "fnExactRipe", apart := false, narrowed := true }
def FnExactRipeUptoSaid : Prop := fnExactRipeUptoRow.holds Try.pinned (OpenSpec.upto fnExactRipeSpec)

/-- 'laws.FnExactBucket', WHERE WHAT IT READS IS OF BULK AT MOST 1048576: true; the input reads as it did. -/
def fnExactBucketUptoRow : OpenClaim := { program := "ytbdegnamlmabbac", sum := "ad7a70734231bad1af1f0b2d04754882928e7491d92a6ec9c87c6c21a37a301a", func := "loop.example/g01538/laws.FnExactBucket", spec := "fnExactBucket", apart := false, narrowed := true }
def FnExactBucketUptoSaid : Prop := fnExactBucketUptoRow.holds Try.pinned (OpenSpec.upto fnExactBucketSpec)

/-- 'laws.FnExactLimboSize', WHERE WHAT IT READS IS OF BULK AT MOST 1048576: true; the input reads as it did. -/
def fnExactLimboSizeUptoRow : OpenClaim := { program := "ytbdegnamlmabbac", sum := "ad7a70734231bad1af1f0b2d04754882928e7491d92a6ec9c87c6c21a37a301a", func := "loop.example/g01538/laws.FnExactLimboSize", spec := "fnExactLimboSize", apart := false, narrowed := true }
def FnExactLimboSizeUptoSaid : Prop := fnExactLimboSizeUptoRow.holds Try.pinned (OpenSpec.upto fnExactLimboSizeSpec)

/-- 'laws.FnExactListsNew', WHERE WHAT IT READS IS OF BULK AT MOST 1048576: true; the input reads as it did. -/
def fnExactListsNewUptoRow : OpenClaim := { program := "ytbdegnamlmabbac", sum := "ad7a70734231bad1af1f0b2d04754882928e7491d92a6ec9c87c6c21a37a301a", func := "loop.example/g01538/laws.FnExactListsNew", spec := "fnExactListsNew", apart := false, narrowed := true }
def FnExactListsNewUptoSaid : Prop := fnExactListsNewUptoRow.holds Try.pinned (OpenSpec.upto fnExactListsNewSpec)

/-- 'laws.FnExactListsOk', WHERE WHAT IT READS IS OF BULK AT MOST 1048576: true; the input reads as it did. -/
def fnExactListsOkUptoRow : OpenClaim := { program := "ytbdegnamlmabbac", sum := "ad7a70734231bad1af1f0b2d04754882928e7491d92a6ec9c87c6c21a37a301a", func := "loop.example/g01538/laws.FnExactListsOk", spec := "fnExactListsOk", apart := false, narrowed := true }
def FnExactListsOkUptoSaid : Prop := fnExactListsOkUptoRow.holds Try.pinned (OpenSpec.upto fnExactListsOkSpec)

/-- 'laws.FnExactTakeOwn', WHERE WHAT IT READS IS OF BULK AT MOST 1048576: true; the input reads as it did. -/
def fnExactTakeOwnUptoRow : OpenClaim := { program := "ytbdegnamlmabbac", sum := "ad7a70734231bad1af1f0b2d04754882928e7491d92a6ec9c87c6c21a37a301a", func := "loop.example/g01538/laws.FnExactTakeOwn", spec := "fnExactTakeOwn", apart := false, narrowed := true }
def FnExactTakeOwnUptoSaid : Prop := fnExactTakeOwnUptoRow.holds Try.pinned (OpenSpec.upto fnExactTakeOwnSpec)

/-- 'laws.FnExactTakeGlobal', WHERE WHAT IT READS IS OF BULK AT MOST 1048576: true; the input reads as it did. -/
def fnExactTakeGlobalUptoRow : OpenClaim := { program := "ytbdegnamlmabbac", sum := "ad7a70734231bad1af1f0b2d04754882928e7491d92a6ec9c87c6c21a37a301a", func := "loop.example/g01538/laws.FnExactTakeGlobal", spec := "fnExactTakeGlobal", apart := false, narrowed := true }
def FnExactTakeGlobalUptoSaid : Prop := fnExactTakeGlobalUptoRow.holds Try.pinned (OpenSpec.upto fnExactTakeGlobalSpec)

/-- 'laws.FnExactGive', WHERE WHAT IT READS IS OF BULK AT MOST 1048576: true; the input reads as it did. -/
def fnExactGiveUptoRow : OpenClaim := { program := "ytbdegnamlmabbac", sum := "ad7a70734231bad1af1f0b2d04754882928e7491d92a6ec9c87c6c21a37a301a", func := "loop.example/g01538/laws.FnExactGive", spec := "fnExactGive", apart := false, narrowed := true }
def FnExactGiveUptoSaid : Prop := fnExactGiveUptoRow.holds Try.pinned (OpenSpec.upto fnExactGiveSpec)

/-- 'laws.FnExactOnList', WHERE WHAT IT READS IS OF BULK AT MOST 1048576: true; the input reads as it did. -/
def fnExactOnListUptoRow : OpenClaim := { program := "ytbdegnamlmabbac", sum := "ad7a70734231bad1af1f0b2d04754882928e7491d92a6ec9c87c6c21a37a301a", func := "loop.example/g01538/laws.FnExactOnList", spec := "fnExactOnList", apart := false, narrowed := true }
def FnExactOnListUptoSaid : Prop := fnExactOnListUptoRow.holds Try.pinned (OpenSpec.upto fnExactOnListSpec)

end Rows
end Go.Proofs.Ytbdegnamlmabbac
