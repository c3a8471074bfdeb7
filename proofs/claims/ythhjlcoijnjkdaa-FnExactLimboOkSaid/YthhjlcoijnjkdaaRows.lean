/-
  No cell of these rows narrows 'for every input' (looked for: loops, veiled, ifaces, maps, wideKeys, modest, calm, conditions, laid).
  DERIVED. THE GIVEN ROWS OF THIS SEAT. 6 by the template 'for every input the law returns true; each argument reads behind the call as it read before'; 0 by the template 'total and deterministic' (their statements: YthhjlcoijnjkdaaTotals.lean).
  GIVEN WITH THE SEED: the statements are not yours to turn. If you find one false, say at which input.
  Laid BY PROGRAM, IN A SANDBOX (cutbox-rows.mjs): the forced cells as the released guide's own fill.sh prints them over the translation 0a248ce757079d93… (all of the seat's roots in one cut). By AI agents, Wed Nov 11 2026. No macro, syntax, notation, axiom, sorry.
-/
import Derived.Test.YthhjlcoijnjkdaaChecked
import GoSem.Claim
import GoSem.ClaimJoined
import GoSem.ClaimMapViews
import Derived.JoinedTies
import Derived.KernelRfl
namespace Go.Proofs.Ythhjlcoijnjkdaa
/- THE CELL 'sum', in the pinned program and in every row, IS THE sha256 OF THE DUMP (.gsa) THAT YthhjlcoijnjkdaaProg.lean LOADS. Nothing in Lean hashes anything: it is a label: what it is worth is what the hold of that sum in a sandbox is worth. -/
noncomputable def Try.pinned : Pinned := { name := "ythhjlcoijnjkdaa", sum := "0a248ce757079d93aa8316f54327233d9c90f14b3dab42c192f7500623b0989f", checked := Try.checked }
namespace Rows
def none {H : Type} : Left H := { results := [], args := [] }

/-- 'laws.FnExactLimboOk': WHATEVER THE INPUT: true; the input reads as it did. -/
def fnExactLimboOkSpec : ChangeSpec := { name := "fnExactLimboOk", fn := fun _ => fun
  | [d] => { results := [.lit (.bool true)], args := [d] }
  | _ => none }
def fnExactLimboOkRow : OpenClaim := { program := "ythhjlcoijnjkdaa", sum := "0a248ce757079d93aa8316f54327233d9c90f14b3dab42c192f7500623b0989f", func := "loop.example/g01538/laws.FnExactLimboOk", spec := "fnExactLimboOk", apart := false }
def FnExactLimboOkSaid : Prop := fnExactLimboOkRow.holds Try.pinned (OpenSpec.ofChange fnExactLimboOkSpec)

/-- ITS FALSE NEIGHBOUR: 'it returns false'. Refute it at one input. -/
def fnExactLimboOkWrong : ChangeSpec := { name := "fnExactLimboOk", fn := fun _ => fun
  | [d] => { results := [.lit (.bool false)], args := [d] }
  | _ => none }
def FnExactLimboOkWrongFalsely : Prop := fnExactLimboOkRow.holds Try.pinned (OpenSpec.ofChange fnExactLimboOkWrong)

/-- 'laws.FnExactBucket': WHATEVER THE INPUT: true; the input reads as it did. -/
def fnExactBucketSpec : ChangeSpec := { name := "fnExactBucket", fn := fun _ => fun
  | [d1, d2, d3] => { results := [.lit (.bool true)], args := [d1, d2, d3] }
  | _ => none }
def fnExactBucketRow : OpenClaim := { program := "ythhjlcoijnjkdaa", sum := "0a248ce757079d93aa8316f54327233d9c90f14b3dab42c192f7500623b0989f", func := "loop.example/g01538/laws.FnExactBucket", spec := "fnExactBucket", apart := false }
def FnExactBucketSaid : Prop := fnExactBucketRow.holds Try.pinned (OpenSpec.ofChange fnExactBucketSpec)

/-- ITS FALSE NEIGHBOUR: 'it returns false'. Refute it at one input. -/
def fnExactBucketWrong : ChangeSpec := { name := "fnExactBucket", fn := fun _ => fun
  | [d1, d2, d3] => { results := [.lit (.bool false)], args := [d1, d2, d3] }
  | _ => none }
def FnExactBucketWrongFalsely : Prop := fnExactBucketRow.holds Try.pinned (OpenSpec.ofChange fnExactBucketWrong)

/-- 'laws.FnExactInLimbo': WHATEVER THE INPUT: true; the input reads as it did. -/
def fnExactInLimboSpec : ChangeSpec := { name := "fnExactInLimbo", fn := fun _ => fun
  | [d1, d2] => { results := [.lit (.bool true)], args := [d1, d2] }
  | _ => none }
def fnExactInLimboRow : OpenClaim := { program := "ythhjlcoijnjkdaa", sum := "0a248ce757079d93aa8316f54327233d9c90f14b3dab42c192f7500623b0989f", func := "loop.example/g01538/laws.FnExactInLimbo", spec := "fnExactInLimbo", unfollowed := true, recurses := true, apart := false }
def FnExactInLimboSaid : Prop := fnExactInLimboRow.holds Try.pinned (OpenSpec.ofChange fnExactInLimboSpec)

/-- ITS FALSE NEIGHBOUR: 'it returns false'. Refute it at one input. -/
def fnExactInLimboWrong : ChangeSpec := { name := "fnExactInLimbo", fn := fun _ => fun
  | [d1, d2] => { results := [.lit (.bool false)], args := [d1, d2] }
  | _ => none }
def FnExactInLimboWrongFalsely : Prop := fnExactInLimboRow.holds Try.pinned (OpenSpec.ofChange fnExactInLimboWrong)

/-- 'laws.FnExactLimboSize': WHATEVER THE INPUT: true; the input reads as it did. -/
def fnExactLimboSizeSpec : ChangeSpec := { name := "fnExactLimboSize", fn := fun _ => fun
  | [d] => { results := [.lit (.bool true)], args := [d] }
  | _ => none }
def fnExactLimboSizeRow : OpenClaim := { program := "ythhjlcoijnjkdaa", sum := "0a248ce757079d93aa8316f54327233d9c90f14b3dab42c192f7500623b0989f", func := "loop.example/g01538/laws.FnExactLimboSize", spec := "fnExactLimboSize", apart := false }
def FnExactLimboSizeSaid : Prop := fnExactLimboSizeRow.holds Try.pinned (OpenSpec.ofChange fnExactLimboSizeSpec)

/-- ITS FALSE NEIGHBOUR: 'it returns false'. Refute it at one input. -/
def fnExactLimboSizeWrong : ChangeSpec := { name := "fnExactLimboSize", fn := fun _ => fun
  | [d] => { results := [.lit (.bool false)], args := [d] }
  | _ => none }
def FnExactLimboSizeWrongFalsely : Prop := fnExactLimboSizeRow.holds Try.pinned (OpenSpec.ofChange fnExactLimboSizeWrong)

/-- 'laws.FnExactSameLimbo': WHATEVER THE INPUT: true; the input reads as it did. -/
def fnExactSameLimboSpec : ChangeSpec := { name := "fnExactSameLimbo", fn := fun _ => fun
  | [d1, d2] => { results := [.lit (.bool true)], args := [d1, d2] }
  | _ => none }
def fnExactSameLimboRow : OpenClaim := { program := "ythhjlcoijnjkdaa", sum := "0a248ce757079d93aa8316f54327233d9c90f14b3dab42c192f7500623b0989f", func := "loop.example/g01538/laws.FnExactSameLimbo", spec := "fnExactSameLimbo", unfollowed := true, recurses := true, apart := false }
def FnExactSameLimboSaid : Prop := fnExactSameLimboRow.holds Try.pinned (OpenSpec.ofChange fnExactSameLimboSpec)

/-- ITS FALSE NEIGHBOUR: 'it returns false'. Refute it at one input. -/
def fnExactSameLimboWrong : ChangeSpec := { name := "fnExactSameLimbo", fn := fun _ => fun
  | [d1, d2] => { results := [.lit (.bool false)], args := [d1, d2] }
  | _ => none }
def FnExactSameLimboWrongFalsely : Prop := fnExactSameLimboRow.holds Try.pinned (OpenSpec.ofChange fnExactSameLimboWrong)

/-- 'laws.FnExactBatchOk': WHATEVER THE INPUT: true; the input reads as it did. -/
def fnExactBatchOkSpec : ChangeSpec := { name := "fnExactBatchOk", fn := fun _ => fun
  | [d] => { results := [.lit (.bool true)], args := [d] }
  | _ => none }
def fnExactBatchOkRow : OpenClaim := { program := "ythhjlcoijnjkdaa", sum := "0a248ce757079d93aa8316f54327233d9c90f14b3dab42c192f7500623b0989f", func := "loop.example/g01538/laws.FnExactBatchOk", spec := "fnExactBatchOk", apart := false }
def FnExactBatchOkSaid : Prop := fnExactBatchOkRow.holds Try.pinned (OpenSpec.ofChange fnExactBatchOkSpec)

/-- ITS FALSE NEIGHBOUR: 'it returns false'. Refute it at one input. -/
def fnExactBatchOkWrong : ChangeSpec := { name := "fnExactBatchOk", fn := fun _ => fun
  | [d] => { results := [.lit (.bool false)], args := [d] }
  | _ => none }
def FnExactBatchOkWrongFalsely : Prop := fnExactBatchOkRow.holds Try.pinned (OpenSpec.ofChange fnExactBatchOkWrong)

/- THE SECOND FORM. 'bulk': how many values and letters a reading holds, each counted each time it is reached (what is shared counts as often as it is met; a slice's spare places count too). A statement '..UptoSaid' is the law's where the arguments, and the package variables that the reading takes, are together of bulk at most 1048576: NARROWER than '..Said'. Prove '..Said' where nothing that the law and all that it calls make is longer than what came in: it says more and counts as full. Else prove '..UptoSaid'. A law counts once. -/
mutual
def uptoBulk {H : Type} : DataW H → Nat
  | .lit (.string bytes) => bytes.length + 1
  | .lit _ => 1
  | .nil => 1
  | .ptr d => uptoBulk d + 1
  | .slice elems spare => uptoBulkAll elems + uptoBulkAll spare + 1
  | .agg parts => uptoBulkAll parts + 1
  | .iface _ d => uptoBulk d + 1
  | .map entries => uptoBulkEntries entries + 1
  | .held _ => 1
def uptoBulkAll {H : Type} : List (DataW H) → Nat
  | [] => 0
  | d :: r => uptoBulk d + uptoBulkAll r
def uptoBulkEntries {H : Type} : List (Lit × DataW H) → Nat
  | [] => 0
  | x :: r => uptoBulkEntry x + uptoBulkEntries r
def uptoBulkEntry {H : Type} : Lit × DataW H → Nat
  | (.string bytes, d) => bytes.length + uptoBulk d + 1
  | (_, d) => uptoBulk d + 1
 end
def uptoSmall : (H : Type) → List (DataW H) → Bool := fun _ ds => decide (uptoBulkAll ds ≤ 1048576)
def OpenSpec.upto (s : _root_.Go.ChangeSpec) : _root_.Go.OpenSpec := { _root_.Go.OpenSpec.ofChange s with cond := some uptoSmall }

/-- 'laws.FnExactLimboOk', WHERE WHAT IT READS IS OF BULK AT MOST 1048576: true; the input reads as it did. -/
def fnExactLimboOkUptoRow : OpenClaim := { program := "ythhjlcoijnjkdaa", sum := "0a248ce757079d93aa8316f54327233d9c90f14b3dab42c192f7500623b0989f", func := "loop.example/g01538/laws.FnExactLimboOk", spec := "fnExactLimboOk", apart := false, narrowed := true }
def FnExactLimboOkUptoSaid : Prop := fnExactLimboOkUptoRow.holds Try.pinned (OpenSpec.upto fnExactLimboOkSpec)

/-- 'laws.FnExactBucket', WHERE WHAT IT READS IS OF BULK AT MOST 1048576: true; the input reads as it did. -/
def fnExactBucketUptoRow : OpenClaim := { program := "ythhjlcoijnjkdaa", sum := "0a248ce757079d93aa8316f54327233d9c90f14b3dab42c192f7500623b0989f", func := "loop.example/g01538/laws.FnExactBucket", spec := "fnExactBucket", apart := false, narrowed := true }
def FnExactBucketUptoSaid : Prop := fnExactBucketUptoRow.holds Try.pinned (OpenSpec.upto fnExactBucketSpec)

/-- 'laws.FnExactInLimbo', WHERE WHAT IT READS IS OF BULK AT MOST 1048576: true; the input reads as it did. -/
def fnExactInLimboUptoRow : OpenClaim := { program := "ythhjlcoijnjkdaa", sum := "0a248ce757079d93aa8316f54327233d9c90f14b3dab42c192f7500623b0989f", func := "loop.example/g01538/laws.FnExactInLimbo", spec := "fnExactInLimbo", unfollowed := true, recurses := true, apart := false, narrowed := true }
def FnExactInLimboUptoSaid : Prop := fnExactInLimboUptoRow.holds Try.pinned (OpenSpec.upto fnExactInLimboSpec)

/-- 'laws.FnExactLimboSize', WHERE WHAT IT READS IS OF BULK AT MOST 1048576: true; the input reads as it did. -/
def fnExactLimboSizeUptoRow : OpenClaim := { program := "ythhjlcoijnjkdaa", sum := "0a248ce757079d93aa8316f54327233d9c90f14b3dab42c192f7500623b0989f", func := "loop.example/g01538/laws.FnExactLimboSize", spec := "fnExactLimboSize", apart := false, narrowed := true }
def FnExactLimboSizeUptoSaid : Prop := fnExactLimboSizeUptoRow.holds Try.pinned (OpenSpec.upto fnExactLimboSizeSpec)

/-- 'laws.FnExactSameLimbo', WHERE WHAT IT READS IS OF BULK AT MOST 1048576: true; the input reads as it did. -/
def fnExactSameLimboUptoRow : OpenClaim := { program := "ythhjlcoijnjkdaa", sum := "0a248ce757079d93aa8316f54327233d9c90f14b3dab42c192f7500623b0989f", func := "loop.example/g01538/laws.FnExactSameLimbo", spec := "fnExactSameLimbo", unfollowed := true, recurses := true, apart := false, narrowed := true }
def FnExactSameLimboUptoSaid : Prop := fnExactSameLimboUptoRow.holds Try.pinned (OpenSpec.upto fnExactSameLimboSpec)

/-- 'laws.FnExactBatchOk', WHERE WHAT IT READS IS OF BULK AT MOST 1048576: true; the input reads as it did. -/
def fnExactBatchOkUptoRow : OpenClaim := { program := "ythhjlcoijnjkdaa", sum := "0a248ce757079d93aa8316f54327233d9c90f14b3dab42c192f7500623b0989f", func := "loop.example/g01538/laws.FnExactBatchOk", spec := "fnExactBatchOk", apart := false, narrowed := true }
def FnExactBatchOkUptoSaid : Prop := fnExactBatchOkUptoRow.holds Try.pinned (OpenSpec.upto fnExactBatchOkSpec)

end Rows
end Go.Proofs.Ythhjlcoijnjkdaa
