/-
  No cell of these rows narrows 'for every input' (looked for: loops, veiled, ifaces, maps, wideKeys, modest, calm, conditions, laid).
  DERIVED. THE GIVEN ROWS OF THIS SEAT. 3 by the template 'for every input the law returns true; each argument reads behind the call as it read before'; 0 by the template 'total and deterministic' (their statements: YtofdaaajbkjocaaTotals.lean).
  GIVEN WITH THE SEED: the statements are not yours to turn. If you find one false, say at which input.
  Laid BY PROGRAM, IN A SANDBOX (cutbox-rows.mjs): the forced cells as the released guide's own fill.sh prints them over the translation 0a0ed7f620ea1da4… (all of the seat's roots in one cut). By AI agents, Wed Nov 11 2026. No macro, syntax, notation, axiom, sorry.
-/
import Derived.Test.YtofdaaajbkjocaaChecked
import GoSem.Claim
import GoSem.ClaimJoined
import GoSem.ClaimMapViews
import Derived.JoinedTies
import Derived.KernelRfl
namespace Go.Proofs.Ytofdaaajbkjocaa
/- THE CELL 'sum', in the pinned program and in every row, IS THE sha256 OF THE DUMP (.gsa) THAT YtofdaaajbkjocaaProg.lean LOADS. Nothing in Lean hashes anything: it is a label: what it is worth is what the hold of that sum in a sandbox is worth. -/
noncomputable def Try.pinned : Pinned := { name := "ytofdaaajbkjocaa", sum := "0a0ed7f620ea1da4c1f9c96d2e15846dcf87554aedde49a032f09cd57b9366cc", checked := Try.checked }
namespace Rows
def none {H : Type} : Left H := { results := [], args := [] }

/-- 'laws.FnExactSameMem': WHATEVER THE INPUT: true; the input reads as it did. -/
def fnExactSameMemSpec : ChangeSpec := { name := "fnExactSameMem", fn := fun _ => fun
  | [d1, d2] => { results := [.lit (.bool true)], args := [d1, d2] }
  | _ => none }
def fnExactSameMemRow : OpenClaim := { program := "ytofdaaajbkjocaa", sum := "0a0ed7f620ea1da4c1f9c96d2e15846dcf87554aedde49a032f09cd57b9366cc", func := "loop.example/g01538/laws.FnExactSameMem", spec := "fnExactSameMem", unfollowed := true, recurses := true, apart := false }
def FnExactSameMemSaid : Prop := fnExactSameMemRow.holds Try.pinned (OpenSpec.ofChange fnExactSameMemSpec)

/-- ITS FALSE NEIGHBOUR: 'it returns false'. Refute it at one input. -/
def fnExactSameMemWrong : ChangeSpec := { name := "fnExactSameMem", fn := fun _ => fun
  | [d1, d2] => { results := [.lit (.bool false)], args := [d1, d2] }
  | _ => none }
def FnExactSameMemWrongFalsely : Prop := fnExactSameMemRow.holds Try.pinned (OpenSpec.ofChange fnExactSameMemWrong)

/-- 'laws.FnExactLimboNew': WHATEVER THE INPUT: true; the input reads as it did. -/
def fnExactLimboNewSpec : ChangeSpec := { name := "fnExactLimboNew", fn := fun _ => fun
  | [] => { results := [.lit (.bool true)], args := [] }
  | _ => none }
def fnExactLimboNewRow : OpenClaim := { program := "ytofdaaajbkjocaa", sum := "0a0ed7f620ea1da4c1f9c96d2e15846dcf87554aedde49a032f09cd57b9366cc", func := "loop.example/g01538/laws.FnExactLimboNew", spec := "fnExactLimboNew", apart := false }
def FnExactLimboNewSaid : Prop := fnExactLimboNewRow.holds Try.pinned (OpenSpec.ofChange fnExactLimboNewSpec)

/-- ITS FALSE NEIGHBOUR: 'it returns false'. Refute it at one input. -/
def fnExactLimboNewWrong : ChangeSpec := { name := "fnExactLimboNew", fn := fun _ => fun
  | [] => { results := [.lit (.bool false)], args := [] }
  | _ => none }
def FnExactLimboNewWrongFalsely : Prop := fnExactLimboNewRow.holds Try.pinned (OpenSpec.ofChange fnExactLimboNewWrong)

/-- 'laws.FnExactSameBase': WHATEVER THE INPUT: true; the input reads as it did. -/
def fnExactSameBaseSpec : ChangeSpec := { name := "fnExactSameBase", fn := fun _ => fun
  | [d1, d2] => { results := [.lit (.bool true)], args := [d1, d2] }
  | _ => none }
def fnExactSameBaseRow : OpenClaim := { program := "ytofdaaajbkjocaa", sum := "0a0ed7f620ea1da4c1f9c96d2e15846dcf87554aedde49a032f09cd57b9366cc", func := "loop.example/g01538/laws.FnExactSameBase", spec := "fnExactSameBase", unfollowed := true, recurses := true, apart := false }
def FnExactSameBaseSaid : Prop := fnExactSameBaseRow.holds Try.pinned (OpenSpec.ofChange fnExactSameBaseSpec)

/-- ITS FALSE NEIGHBOUR: 'it returns false'. Refute it at one input. -/
def fnExactSameBaseWrong : ChangeSpec := { name := "fnExactSameBase", fn := fun _ => fun
  | [d1, d2] => { results := [.lit (.bool false)], args := [d1, d2] }
  | _ => none }
def FnExactSameBaseWrongFalsely : Prop := fnExactSameBaseRow.holds Try.pinned (OpenSpec.ofChange fnExactSameBaseWrong)

/- THE SECOND FORM. 'bulk': how many values and letters a reading holds, each counted each time it is reached (what is shared counts as often as it is met; a slice's spare places count too). A statement '..UptoSaid' is the law's where the arguments, and the package variables that the reading takes, are together of bulk at most 1048576: NARROWER than '..Said'. Prove '..Said' where nothing that the law and all that it calls make is longer than what came in: it says more and counts as full. Else prove '..UptoSaid'. A law counts once. -/
mutual
def uptoBulk {H : Type} : DataW H → Nat
  | .lit (.string bytes) => bytes.length + 1
  | .lit _ => 1
  | .nil => 1
  | .ptr d => uptoBulk d + 1
  | .slice elems spare => uptoBulkAll elems + uptoBulkAll spare + 1
  | .agg parts => uptoBulkAll parts + 1
  | .iface _ d => uptoBulk d + 1
  | .map entries => uptoBulkEntries entries + 1
  | .held _ => 1
def uptoBulkAll {H : Type} : List (DataW H) → Nat
  | [] => 0
  | d :: r => uptoBulk d + uptoBulkAll r
def uptoBulkEntries {H : Type} : List (Lit × DataW H) → Nat
  | [] => 0
  | x :: r => uptoBulkEntry x + uptoBulkEntries r
def uptoBulkEntry {H : Type} : Lit × DataW H → Nat
  | (.string bytes, d) => bytes.length + uptoBulk d + 1
  | (_, d) => uptoBulk d + 1
 end
def uptoSmall : (H : Type) → List (DataW H) → Bool := fun _ ds => decide (uptoBulkAll ds ≤ 1048576)
def OpenSpec.upto (s : _root_.Go.ChangeSpec) : _root_.Go.OpenSpec := { _root_.Go.OpenSpec.ofChange s with cond := some uptoSmall }

/-- 'laws.FnExactSameMem', WHERE WHAT IT READS IS OF BULK AT MOST 1048576: true; the input reads as it did. -/
def fnExactSameMemUptoRow : OpenClaim := { program := "ytofdaaajbkjocaa", sum := "0a0ed7f620ea1da4c1f9c96d2e15846dcf87554aedde49a032f09cd57b9366cc", func := "loop.example/g01538/laws.FnExactSameMem", spec := "fnExactSameMem", unfollowed := true, recurses := true, apart := false, narrowed := true }
def FnExactSameMemUptoSaid : Prop := fnExactSameMemUptoRow.holds Try.pinned (OpenSpec.upto fnExactSameMemSpec)

/-- 'laws.FnExactLimboNew', WHERE WHAT IT READS IS OF BULK AT MOST 1048576: true; the input reads as it did. -/
def fnExactLimboNewUptoRow : OpenClaim := { program := "ytofdaaajbkjocaa", sum := "0a0ed7f620ea1da4c1f9c96d2e15846dcf87554aedde49a032f09cd57b9366cc", func := "loop.example/g01538/laws.FnExactLimboNew", spec := "fnExactLimboNew", apart := false, narrowed := true }
def FnExactLimboNewUptoSaid : Prop := fnExactLimboNewUptoRow.holds Try.pinned (OpenSpec.upto fnExactLimboNewSpec)

/-- 'laws.FnExactSameBase', WHERE WHAT IT READS IS OF BULK AT MOST 1048576: true; the input reads as it did. -/
def fnExactSameBaseUptoRow : OpenClaim := { program := "ytofdaaajbkjocaa", sum := "0a0ed7f620ea1da4c1f9c96d2e15846dcf87554aedde49a032f09cd57b9366cc", func := "loop.example/g01538/laws.FnExactSameBase", spec := "fnExactSameBase", unfollowed := true, recurses := true, apart := false, narrowed := true }
def FnExactSameBaseUptoSaid : Prop := fnExactSameBaseUptoRow.holds Try.pinned (OpenSpec.upto fnExactSameBaseSpec)

end Rows
end Go.Proofs.Ytofdaaajbkjocaa
