/-
  No cell of these rows narrows 'for every input' (looked for: loops, veiled, ifaces, maps, wideKeys, modest, calm, conditions, laid).
  DERIVED. THE GIVEN ROWS OF THIS SEAT. 12 by the template 'for every input the law returns true; each argument reads behind the call as it read before'; 0 by the template 'total and deterministic' (their statements: YtbdegnamlmabbabTotals.lean).
  GIVEN WITH THE SEED: the statements are not yours to turn. If you find one false, say at which input.
  Laid BY PROGRAM, IN A SANDBOX (cutbox-rows.mjs): the forced cells as the released guide's own fill.sh prints them over the translation 3e9bbcb01015b1df… (all of the seat's roots in one cut). By AI agents, Wed Nov 11 2026. No macro, syntax, notation, axiom, sorry.
-/
import Derived.Test.YtbdegnamlmabbabChecked
import GoSem.Claim
import GoSem.ClaimJoined
import GoSem.ClaimMapViews
import Derived.JoinedTies
import Derived.KernelRfl
namespace Go.Proofs.Ytbdegnamlmabbab
/- THE CELL 'sum', in the pinned program and in every row, IS THE sha256 OF THE DUMP (.gsa) THAT YtbdegnamlmabbabProg.lean LOADS. Nothing in Lean hashes anything: it is a label: what it is worth is what the hold of that sum in a sandbox is worth. -/
noncomputable def Try.pinned : Pinned := { name := "ytbdegnamlmabbab", sum := "3e9bbcb01015b1dfbc44edc857a1a4b4f5fd12efa79328915526a91dcaee874e", checked := Try.checked }
namespace Rows
def none {H : Type} : Left H := { results := [], args := [] }

/-- 'laws.FnExactClockNew': WHATEVER THE INPUT: true; the input reads as it did. -/
def fnExactClockNewSpec : ChangeSpec := { name := "fnExactClockNew", fn := fun _ => fun
  | [] => { results := [.lit (.bool true)], args := [] }
  | _ => none }
def fnExactClockNewRow : OpenClaim := { program := "ytbdegnamlmabbab", sum := "3e9bbcb01015b1dfbc44edc857a1a4b4f5fd12efa79328915526a91dcaee874e", func := "loop.example/g01538/laws.FnExactClockNew", spec := "fnExactClockNew", apart := false }
def FnExactClockNewSaid : Prop := fnExactClockNewRow.holds Try.pinned (OpenSpec.ofChange fnExactClockNewSpec)

/-- ITS FALSE NEIGHBOUR: 'it returns false'. Refute it at one input. -/
def fnExactClockNewWrong : ChangeSpec := { name := "fnExactClockNew", fn := fun _ => fun
  | [] => { results := [.lit (.bool false)], args := [] }
  | _ => none }
def FnExactClockNewWrongFalsely : Prop := fnExactClockNewRow.holds Try.pinned (OpenSpec.ofChange fnExactClockNewWrong)

/-- 'laws.FnExactClockOk': WHATEVER THE INPUT: true; the input reads as it did. -/
def fnExactClockOkSpec : ChangeSpec := { name := "fnExactClockOk", fn := fun _ => fun
  | [d] => { results := [.lit (.bool true)], args := [d] }
  | _ => none }
def fnExactClockOkRow : OpenClaim := { program := "ytbdegnamlmabbab", sum := "3e9bbcb01015b1dfbc44edc857a1a4b4f5fd12efa79328915526a91dcaee874e", func := "loop.example/g01538/laws.FnExactClockOk", spec := "fnExactClockOk", apart := false }
def FnExactClockOkSaid : Prop := fnExactClockOkRow.holds Try.pinned (OpenSpec.ofChange fnExactClockOkSpec)

/-- ITS FALSE NEIGHBOUR: 'it returns false'. Refute it at one input. -/
def fnExactClockOkWrong : ChangeSpec := { name := "fnExactClockOk", fn := fun _ => fun
  | [d] => { results := [.lit (.bool false)], args := [d] }
  | _ => none }
def FnExactClockOkWrongFalsely : Prop := fnExactClockOkRow.holds Try.pinned (OpenSpec.ofChange fnExactClockOkWrong)

/-- 'laws.FnExactPinTo': WHATEVER THE INPUT: true; the input reads as it did. -/
def fnExactPinToSpec : ChangeSpec := { name := "fnExactPinTo", fn := fun _ => fun
  | [d1, d2, d3] => { results := [.lit (.bool true)], args := [d1, d2, d3] }
  | _ => none }
def fnExactPinToRow : OpenClaim := { program := "ytbdegnamlmabbab", sum := "3e9bbcb01015b1dfbc44edc857a1a4b4f5fd12efa79328915526a91dcaee874e", func := "loop.example/g01538/laws.FnExactPinTo", spec := "fnExactPinTo", apart := false }
def FnExactPinToSaid : Prop := fnExactPinToRow.holds Try.pinned (OpenSpec.ofChange fnExactPinToSpec)

/-- ITS FALSE NEIGHBOUR: 'it returns false'. Refute it at one input. -/
def fnExactPinToWrong : ChangeSpec := { name := "fnExactPinTo", fn := fun _ => fun
  | [d1, d2, d3] => { results := [.lit (.bool false)], args := [d1, d2, d3] }
  | _ => none }
def FnExactPinToWrongFalsely : Prop := fnExactPinToRow.holds Try.pinned (OpenSpec.ofChange fnExactPinToWrong)

/-- 'laws.FnExactUnpin': WHATEVER THE INPUT: true; the input reads as it did. -/
def fnExactUnpinSpec : ChangeSpec := { name := "fnExactUnpin", fn := fun _ => fun
  | [d1, d2] => { results := [.lit (.bool true)], args := [d1, d2] }
  | _ => none }
def fnExactUnpinRow : OpenClaim := { program := "ytbdegnamlmabbab", sum := "3e9bbcb01015b1dfbc44edc857a1a4b4f5fd12efa79328915526a91dcaee874e", func := "loop.example/g01538/laws.FnExactUnpin", spec := "fnExactUnpin", apart := false }
def FnExactUnpinSaid : Prop := fnExactUnpinRow.holds Try.pinned (OpenSpec.ofChange fnExactUnpinSpec)

/-- ITS FALSE NEIGHBOUR: 'it returns false'. Refute it at one input. -/
def fnExactUnpinWrong : ChangeSpec := { name := "fnExactUnpin", fn := fun _ => fun
  | [d1, d2] => { results := [.lit (.bool false)], args := [d1, d2] }
  | _ => none }
def FnExactUnpinWrongFalsely : Prop := fnExactUnpinRow.holds Try.pinned (OpenSpec.ofChange fnExactUnpinWrong)

/-- 'laws.FnExactLookAt': WHATEVER THE INPUT: true; the input reads as it did. -/
def fnExactLookAtSpec : ChangeSpec := { name := "fnExactLookAt", fn := fun _ => fun
  | [d1, d2, d3] => { results := [.lit (.bool true)], args := [d1, d2, d3] }
  | _ => none }
def fnExactLookAtRow : OpenClaim := { program := "ytbdegnamlmabbab", sum := "3e9bbcb01015b1dfbc44edc857a1a4b4f5fd12efa79328915526a91dcaee874e", func := "loop.example/g01538/laws.FnExactLookAt", spec := "fnExactLookAt", apart := false }
def FnExactLookAtSaid : Prop := fnExactLookAtRow.holds Try.pinned (OpenSpec.ofChange fnExactLookAtSpec)

/-- ITS FALSE NEIGHBOUR: 'it returns false'. Refute it at one input. -/
def fnExactLookAtWrong : ChangeSpec := { name := "fnExactLookAt", fn := fun _ => fun
  | [d1, d2, d3] => { results := [.lit (.bool false)], args := [d1, d2, d3] }
  | _ => none }
def FnExactLookAtWrongFalsely : Prop := fnExactLookAtRow.holds Try.pinned (OpenSpec.ofChange fnExactLookAtWrong)

/-- 'laws.FnExactBump': WHATEVER THE INPUT: true; the input reads as it did. -/
def fnExactBumpSpec : ChangeSpec := { name := "fnExactBump", fn := fun _ => fun
  | [d1, d2] => { results := [.lit (.bool true)], args := [d1, d2] }
  | _ => none }
def fnExactBumpRow : OpenClaim := { program := "ytbdegnamlmabbab", sum := "3e9bbcb01015b1dfbc44edc857a1a4b4f5fd12efa79328915526a91dcaee874e", func := "loop.example/g01538/laws.FnExactBump", spec := "fnExactBump", apart := false }
def FnExactBumpSaid : Prop := fnExactBumpRow.holds Try.pinned (OpenSpec.ofChange fnExactBumpSpec)

/-- ITS FALSE NEIGHBOUR: 'it returns false'. Refute it at one input. -/
def fnExactBumpWrong : ChangeSpec := { name := "fnExactBump", fn := fun _ => fun
  | [d1, d2] => { results := [.lit (.bool false)], args := [d1, d2] }
  | _ => none }
def FnExactBumpWrongFalsely : Prop := fnExactBumpRow.holds Try.pinned (OpenSpec.ofChange fnExactBumpWrong)

/-- 'laws.FnExactBehind': WHATEVER THE INPUT: true; the input reads as it did. -/
def fnExactBehindSpec : ChangeSpec := { name := "fnExactBehind", fn := fun _ => fun
  | [d] => { results := [.lit (.bool true)], args := [d] }
  | _ => none }
def fnExactBehindRow : OpenClaim := { program := "ytbdegnamlmabbab", sum := "3e9bbcb01015b1dfbc44edc857a1a4b4f5fd12efa79328915526a91dcaee874e", func := "loop.example/g01538/laws.FnExactBehind", spec := "fnExactBehind", apart := false }
def FnExactBehindSaid : Prop := fnExactBehindRow.holds Try.pinned (OpenSpec.ofChange fnExactBehindSpec)

/-- ITS FALSE NEIGHBOUR: 'it returns false'. Refute it at one input. -/
def fnExactBehindWrong : ChangeSpec := { name := "fnExactBehind", fn := fun _ => fun
  | [d] => { results := [.lit (.bool false)], args := [d] }
  | _ => none }
def FnExactBehindWrongFalsely : Prop := fnExactBehindRow.holds Try.pinned (OpenSpec.ofChange fnExactBehindWrong)

/-- 'laws.FnExactPinnedAt': WHATEVER THE INPUT: true; the input reads as it did. -/
def fnExactPinnedAtSpec : ChangeSpec := { name := "fnExactPinnedAt", fn := fun _ => fun
  | [d1, d2] => { results := [.lit (.bool true)], args := [d1, d2] }
  | _ => none }
def fnExactPinnedAtRow : OpenClaim := { program := "ytbdegnamlmabbab", sum := "3e9bbcb01015b1dfbc44edc857a1a4b4f5fd12efa79328915526a91dcaee874e", func := "loop.example/g01538/laws.FnExactPinnedAt", spec := "fnExactPinnedAt", apart := false }
def FnExactPinnedAtSaid : Prop := fnExactPinnedAtRow.holds Try.pinned (OpenSpec.ofChange fnExactPinnedAtSpec)

/-- ITS FALSE NEIGHBOUR: 'it returns false'. Refute it at one input. -/
def fnExactPinnedAtWrong : ChangeSpec := { name := "fnExactPinnedAt", fn := fun _ => fun
  | [d1, d2] => { results := [.lit (.bool false)], args := [d1, d2] }
  | _ => none }
def FnExactPinnedAtWrongFalsely : Prop := fnExactPinnedAtRow.holds Try.pinned (OpenSpec.ofChange fnExactPinnedAtWrong)

/-- 'laws.FnExactSameClock': WHATEVER THE INPUT: true; the input reads as it did. -/
def fnExactSameClockSpec : ChangeSpec := { name := "fnExactSameClock", fn := fun _ => fun
  | [d1, d2] => { results := [.lit (.bool true)], args := [d1, d2] }
  | _ => none }
def fnExactSameClockRow : OpenClaim := { program := "ytbdegnamlmabbab", sum := "3e9bbcb01015b1dfbc44edc857a1a4b4f5fd12efa79328915526a91dcaee874e", func := "loop.example/g01538/laws.FnExactSameClock", spec := "fnExactSameClock", apart := false }
def FnExactSameClockSaid : Prop := fnExactSameClockRow.holds Try.pinned (OpenSpec.ofChange fnExactSameClockSpec)

/-- ITS FALSE NEIGHBOUR: 'it returns false'. Refute it at one input. -/
def fnExactSameClockWrong : ChangeSpec := { name := "fnExactSameClock", fn := fun _ => fun
  | [d1, d2] => { results := [.lit (.bool false)], args := [d1, d2] }
  | _ => none }
def FnExactSameClockWrongFalsely : Prop := fnExactSameClockRow.holds Try.pinned (OpenSpec.ofChange fnExactSameClockWrong)

/-- 'laws.FnExactLimboNew': WHATEVER THE INPUT: true; the input reads as it did. -/
def fnExactLimboNewSpec : ChangeSpec := { name := "fnExactLimboNew", fn := fun _ => fun
  | [] => { results := [.lit (.bool true)], args := [] }
  | _ => none }
def fnExactLimboNewRow : OpenClaim := { program := "ytbdegnamlmabbab", sum := "3e9bbcb01015b1dfbc44edc857a1a4b4f5fd12efa79328915526a91dcaee874e", func := "loop.example/g01538/laws.FnExactLimboNew", spec := "fnExactLimboNew", apart := false }
def FnExactLimboNewSaid : Prop := fnExactLimboNewRow.holds Try.pinned (OpenSpec.ofChange fnExactLimboNewSpec)

/-- ITS FALSE NEIGHBOUR: 'it returns false'. Refute it at one input. -/
def fnExactLimboNewWrong : ChangeSpec := { name := "fnExactLimboNew", fn := fun _ => fun
  | [] => { results := [.lit (.bool false)], args := [] }
  | _ => none }
def FnExactLimboNewWrongFalsely : Prop := fnExactLimboNewRow.holds Try.pinned (OpenSpec.ofChange fnExactLimboNewWrong)

/-- 'laws.FnExactSameLimbo': WHATEVER THE INPUT: true; the input reads as it did. -/
def fnExactSameLimboSpec : ChangeSpec := { name := "fnExactSameLimbo", fn := fun _ => fun
  | [d1, d2] => { results := [.lit (.bool true)], args := [d1, d2] }
  | _ => none }
def fnExactSameLimboRow : OpenClaim := { program := "ytbdegnamlmabbab", sum := "3e9bbcb01015b1dfbc44edc857a1a4b4f5fd12efa79328915526a91dcaee874e", func := "loop.example/g01538/laws.FnExactSameLimbo", spec := "fnExactSameLimbo", unfollowed := true, recurses := true, apart := false }
def FnExactSameLimboSaid : Prop := fnExactSameLimboRow.holds Try.pinned (OpenSpec.ofChange fnExactSameLimboSpec)

/-- ITS FALSE NEIGHBOUR: 'it returns false'. Refute it at one input. -/
def fnExactSameLimboWrong : ChangeSpec := { name := "fnExactSameLimbo", fn := fun _ => fun
  | [d1, d2] => { results := [.lit (.bool false)], args := [d1, d2] }
  | _ => none }
def FnExactSameLimboWrongFalsely : Prop := fnExactSameLimboRow.holds Try.pinned (OpenSpec.ofChange fnExactSameLimboWrong)

/-- 'laws.FnExactInLimbo': WHATEVER THE INPUT: true; the input reads as it did. -/
def fnExactInLimboSpec : ChangeSpec := { name := "fnExactInLimbo", fn := fun _ => fun
  | [d1, d2] => { results := [.lit (.bool true)], args := [d1, d2] }
  | _ => none }
def fnExactInLimboRow : OpenClaim := { program := "ytbdegnamlmabbab", sum := "3e9bbcb01015b1dfbc44edc857a1a4b4f5fd12efa79328915526a91dcaee874e", func := "loop.example/g01538/laws.FnExactInLimbo", spec := "fnExactInLimbo", unfollowed := true, recurses := true, apart := false }
def FnExactInLimboSaid : Prop := fnExactInLimboRow.holds Try.pinned (OpenSpec.ofChange fnExactInLimboSpec)

/-- ITS FALSE NEIGHBOUR: 'it returns false'. Refute it at one input. -/
def fnExactInLimboWrong : ChangeSpec := { name := "fnExactInLimbo", fn := fun _ => fun
  | [d1, d2] => { results := [.lit (.bool false)], args := [d1, d2] }
  | _ => none }
def FnExactInLimboWrongFalsely : Prop := fnExactInLimboRow.holds Try.pinned (OpenSpec.ofChange fnExactInLimboWrong)

/- THE SECOND FORM. 'bulk': how many values and letters a reading holds, each counted each time it is reached (what is shared counts as often as it is met; a slice's spare places count too). A statement '..UptoSaid' is the law's where the arguments, and the package variables that the reading takes, are together of bulk at most 1048576: NARROWER than '..Said'. Prove '..Said' where nothing that the law and all that it calls make is longer than what came in: it says more and counts as full. Else prove '..UptoSaid'. A law counts once. -/
mutual
def uptoBulk {H : Type} : DataW H → Nat
  | .lit (.string bytes) => bytes.length + 1
  | .lit _ => 1
  | .nil => 1
  | .ptr d => uptoBulk d + 1
  | .slice elems spare => uptoBulkAll elems + uptoBulkAll spare + 1
  | .agg parts => uptoBulkAll parts + 1
  | .iface _ d => uptoBulk d + 1
  | .map entries => uptoBulkEntries entries + 1
  | .held _ => 1
def uptoBulkAll {H : Type} : List (DataW H) → Nat
  | [] => 0
  | d :: r => uptoBulk d + uptoBulkAll r
def uptoBulkEntries {H : Type} : List (Lit × DataW H) → Nat
  | [] => 0
  | x :: r => uptoBulkEntry x + uptoBulkEntries r
def uptoBulkEntry {H : Type} : Lit × DataW H → Nat
  | (.string bytes, d) => bytes.length + uptoBulk d + 1
  | (_, d) => uptoBulk d + 1
 end
def uptoSmall : (H : Type) → List (DataW H) → Bool := fun _ ds => decide (uptoBulkAll ds ≤ 1048576)
def OpenSpec.upto (s : _root_.Go.ChangeSpec) : _root_.Go.OpenSpec := { _root_.Go.OpenSpec.ofChange s with cond := some uptoSmall }

/-- 'laws.FnExactClockNew', WHERE WHAT IT READS IS OF BULK AT MOST 1048576: true; the input reads as it did. -/
def fnExactClockNewUptoRow : OpenClaim := { program := "ytbdegnamlmabbab", sum := "3e9bbcb01015b1dfbc44edc857a1a4b4f5fd12efa79328915526a91dcaee874e", func := "loop.example/g01538/laws.FnExactClockNew", spec := "fnExactClockNew", apart := false, narrowed := true }
def FnExactClockNewUptoSaid : Prop := fnExactClockNewUptoRow.holds Try.pinned (OpenSpec.upto fnExactClockNewSpec)

/-- 'laws.FnExactClockOk', WHERE WHAT IT READS IS OF BULK AT MOST 1048576: true; the input reads as it did. -/
def fnExactClockOkUptoRow : OpenClaim := { program := "ytbdegnamlmabbab", sum := "3e9bbcb01015b1dfbc44edc857a1a4b4f5fd12efa79328915526a91dcaee874e", func := "loop.example/g01538/laws.FnExactClockOk", spec := "fnExactClockOk", apart := false, narrowed := true }
def FnExactClockOkUptoSaid : Prop := fnExactClockOkUptoRow.holds Try.pinned (OpenSpec.upto fnExactClockOkSpec)

/-- 'laws.FnExactPinTo', WHERE WHAT IT READS IS OF BULK AT MOST 1048576: true; the input reads as it did. -/
def fnExactPinToUptoRow : OpenClaim := { program := "ytbdegnamlmabbab", sum := "3e9bbcb01015b1dfbc44edc857a1a4b4f5fd12efa79328915526a91dcaee874e", func := "loop.example/g01538/laws.FnExactPinTo", spec := "fnExactPinTo", apart := false, narrowed := true }
def FnExactPinToUptoSaid : Prop := fnExactPinToUptoRow.holds Try.pinned (OpenSpec.upto fnExactPinToSpec)

/-- 'laws.FnExactUnpin', WHERE WHAT IT READS IS OF BULK AT MOST 1048576: true; the input reads as it did. -/
def fnExactUnpinUptoRow : OpenClaim := { program := "ytbdegnamlmabbab", sum := "3e9bbcb01015b1dfbc44edc857a1a4b4f5fd12efa79328915526a91dcaee874e", func := "loop.example/g01538/laws.FnExactUnpin", spec := "fnExactUnpin", apart := false, narrowed := true }
def FnExactUnpinUptoSaid : Prop := fnExactUnpinUptoRow.holds Try.pinned (OpenSpec.upto fnExactUnpinSpec)

/-- 'laws.FnExactLookAt', WHERE WHAT IT READS IS OF BULK AT MOST 1048576: true; the input reads as it did. -/
def fnExactLookAtUptoRow : OpenClaim := { program := "ytbdegnamlmabbab", sum := "3e9bbcb01015b1dfbc44edc857a1a4b4f5fd12efa79328915526a91dcaee874e", func := "loop.example/g01538/laws.FnExactLookAt", spec := "fnExactLookAt", apart := false, narrowed := true }
def FnExactLookAtUptoSaid : Prop := fnExactLookAtUptoRow.holds Try.pinned (OpenSpec.upto fnExactLookAtSpec)

/-- 'laws.FnExactBump', WHERE WHAT IT READS IS OF BULK AT MOST 1048576: true; the input reads as it did. -/
def fnExactBumpUptoRow : OpenClaim := { program := "ytbdegnamlmabbab", sum := "3e9bbcb01015b1dfbc44edc857a1a4b4f5fd12efa79328915526a91dcaee874e", func := "loop.example/g01538/laws.FnExactBump", spec := "fnExactBump", apart := false, narrowed := true }
def FnExactBumpUptoSaid : Prop := fnExactBumpUptoRow.holds Try.pinned (OpenSpec.upto fnExactBumpSpec)

/-- 'laws.FnExactBehind', WHERE WHAT IT READS IS OF BULK AT MOST 1048576: true; the input reads as it did. -/
def fnExactBehindUptoRow : OpenClaim := { program := "ytbdegnamlmabbab", sum := "3e9bbcb01015b1dfbc44edc857a1a4b4f5fd12efa79328915526a91dcaee874e", func := "loop.example/g01538/laws.FnExactBehind", spec := "fnExactBehind", apart := false, narrowed := true }
def FnExactBehindUptoSaid : Prop := fnExactBehindUptoRow.holds Try.pinned (OpenSpec.upto fnExactBehindSpec)

/-- 'laws.FnExactPinnedAt', WHERE WHAT IT READS IS OF BULK AT MOST 1048576: true; the input reads as it did. -/
def fnExactPinnedAtUptoRow : OpenClaim := { program := "ytbdegnamlmabbab", sum := "3e9bbcb01015b1dfbc44edc857a1a4b4f5fd12efa79328915526a91dcaee874e", func := "loop.example/g01538/laws.FnExactPinnedAt", spec := "fnExactPinnedAt", apart := false, narrowed := true }
def FnExactPinnedAtUptoSaid : Prop := fnExactPinnedAtUptoRow.holds Try.pinned (OpenSpec.upto fnExactPinnedAtSpec)

/-- 'laws.FnExactSameClock', WHERE WHAT IT READS IS OF BULK AT MOST 1048576: true; the input reads as it did. -/
def fnExactSameClockUptoRow : OpenClaim := { program := "ytbdegnamlmabbab", sum := "3e9bbcb01015b1dfbc44edc857a1a4b4f5fd12efa79328915526a91dcaee874e", func := "loop.example/g01538/laws.FnExactSameClock", spec := "fnExactSameClock", apart := false, narrowed := true }
def FnExactSameClockUptoSaid : Prop := fnExactSameClockUptoRow.holds Try.pinned (OpenSpec.upto fnExactSameClockSpec)

/-- 'laws.FnExactLimboNew', WHERE WHAT IT READS IS OF BULK AT MOST 1048576: true; the input reads as it did. -/
def fnExactLimboNewUptoRow : OpenClaim := { program := "ytbdegnamlmabbab", sum := "3e9bbcb01015b1dfbc44edc857a1a4b4f5fd12efa79328915526a91dcaee874e", func := "loop.example/g01538/laws.FnExactLimboNew", spec := "fnExactLimboNew", apart := false, narrowed := true }
def FnExactLimboNewUptoSaid : Prop := fnExactLimboNewUptoRow.holds Try.pinned (OpenSpec.upto fnExactLimboNewSpec)

/-- 'laws.FnExactSameLimbo', WHERE WHAT IT READS IS OF BULK AT MOST 1048576: true; the input reads as it did. -/
def fnExactSameLimboUptoRow : OpenClaim := { program := "ytbdegnamlmabbab", sum := "3e9bbcb01015b1dfbc44edc857a1a4b4f5fd12efa79328915526a91dcaee874e", func := "loop.example/g01538/laws.FnExactSameLimbo", spec := "fnExactSameLimbo", unfollowed := true, recurses := true, apart := false, narrowed := true }
def FnExactSameLimboUptoSaid : Prop := fnExactSameLimboUptoRow.holds Try.pinned (OpenSpec.upto fnExactSameLimboSpec)

/-- 'laws.FnExactInLimbo', WHERE WHAT IT READS IS OF BULK AT MOST 1048576: true; the input reads as it did. -/
def fnExactInLimboUptoRow : OpenClaim := { program := "ytbdegnamlmabbab", sum := "3e9bbcb01015b1dfbc44edc857a1a4b4f5fd12efa79328915526a91dcaee874e", func := "loop.example/g01538/laws.FnExactInLimbo", spec := "fnExactInLimbo", unfollowed := true, recurses := true, apart := false, narrowed := true }
def FnExactInLimboUptoSaid : Prop := fnExactInLimboUptoRow.holds Try.pinned (OpenSpec.upto fnExactInLimboSpec)

end Rows
end Go.Proofs.Ytbdegnamlmabbab
