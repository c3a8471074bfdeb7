/-
  No cell of these rows narrows 'for every input' (looked for: loops, veiled, ifaces, maps, wideKeys, modest, calm, conditions, laid).
  DERIVED. THE GIVEN ROWS OF THIS SEAT. 9 by the template 'for every input the law returns true; each argument reads behind the call as it read before'; 0 by the template 'total and deterministic' (their statements: YthnihgnboelipaaTotals.lean).
  GIVEN WITH THE SEED: the statements are not yours to turn. If you find one false, say at which input.
  Laid BY PROGRAM, IN A SANDBOX (cutbox-rows.mjs): the forced cells as the released guide's own fill.sh prints them over the translation ca4358e5f909c80f… (all of the seat's roots in one cut). By AI agents, Wed Nov 11 2026. No macro, syntax, notation, axiom, sorry.
-/
import Derived.Test.YthnihgnboelipaaChecked
import GoSem.Claim
import GoSem.ClaimJoined
import GoSem.ClaimMapViews
import Derived.JoinedTies
import Derived.KernelRfl
namespace Go.Proofs.Ythnihgnboelipaa
/- THE CELL 'sum', in the pinned program and in every row, IS THE sha256 OF THE DUMP (.gsa) THAT YthnihgnboelipaaProg.lean LOADS. Nothing in Lean hashes anything: it is a label: what it is worth is what the hold of that sum in a sandbox is worth. -/
noncomputable def Try.pinned : Pinned := { name := "ythnihgnboelipaa", sum := "ca4358e5f909c80f6903b7f4f76c814328297c59accd202027d1810ffd9c788c", checked := Try.checked }
namespace Rows
def none {H : Type} : Left H := { results := [], args := [] }

/-- 'laws.FnSums': WHATEVER THE INPUT: true; the input reads as it did. -/
def fnSumsSpec : ChangeSpec := { name := "fnSums", fn := fun _ => fun
  | [d] => { results := [.lit (.bool true)], args := [d] }
  | _ => none }
def fnSumsRow : OpenClaim := { program := "ythnihgnboelipaa", sum := "ca4358e5f909c80f6903b7f4f76c814328297c59accd202027d1810ffd9c788c", func := "loop.example/g01538/laws.FnSums", spec := "fnSums", apart := false }
def FnSumsSaid : Prop := fnSumsRow.holds Try.pinned (OpenSpec.ofChange fnSumsSpec)

/-- ITS FALSE NEIGHBOUR: 'it returns false'. Refute it at one input. -/
def fnSumsWrong : ChangeSpec := { name := "fnSums", fn := fun _ => fun
  | [d] => { results := [.lit (.bool false)], args := [d] }
  | _ => none }
def FnSumsWrongFalsely : Prop := fnSumsRow.holds Try.pinned (OpenSpec.ofChange fnSumsWrong)

/-- 'laws.FnExactCrc': WHATEVER THE INPUT: true; the input reads as it did. -/
def fnExactCrcSpec : ChangeSpec := { name := "fnExactCrc", fn := fun _ => fun
  | [d] => { results := [.lit (.bool true)], args := [d] }
  | _ => none }
def fnExactCrcRow : OpenClaim := { program := "ythnihgnboelipaa", sum := "ca4358e5f909c80f6903b7f4f76c814328297c59accd202027d1810ffd9c788c", func := "loop.example/g01538/laws.FnExactCrc", spec := "fnExactCrc", apart := false }
def FnExactCrcSaid : Prop := fnExactCrcRow.holds Try.pinned (OpenSpec.ofChange fnExactCrcSpec)

/-- ITS FALSE NEIGHBOUR: 'it returns false'. Refute it at one input. -/
def fnExactCrcWrong : ChangeSpec := { name := "fnExactCrc", fn := fun _ => fun
  | [d] => { results := [.lit (.bool false)], args := [d] }
  | _ => none }
def FnExactCrcWrongFalsely : Prop := fnExactCrcRow.holds Try.pinned (OpenSpec.ofChange fnExactCrcWrong)

/-- 'laws.FnBytes': WHATEVER THE INPUT: true; the input reads as it did. -/
def fnBytesSpec : ChangeSpec := { name := "fnBytes", fn := fun _ => fun
  | [d] => { results := [.lit (.bool true)], args := [d] }
  | _ => none }
def fnBytesRow : OpenClaim := { program := "ythnihgnboelipaa", sum := "ca4358e5f909c80f6903b7f4f76c814328297c59accd202027d1810ffd9c788c", func := "loop.example/g01538/laws.FnBytes", spec := "fnBytes", apart := false }
def FnBytesSaid : Prop := fnBytesRow.holds Try.pinned (OpenSpec.ofChange fnBytesSpec)

/-- ITS FALSE NEIGHBOUR: 'it returns false'. Refute it at one input. -/
def fnBytesWrong : ChangeSpec := { name := "fnBytes", fn := fun _ => fun
  | [d] => { results := [.lit (.bool false)], args := [d] }
  | _ => none }
def FnBytesWrongFalsely : Prop := fnBytesRow.holds Try.pinned (OpenSpec.ofChange fnBytesWrong)

/-- 'laws.FnExactBytesOk': WHATEVER THE INPUT: true; the input reads as it did. -/
def fnExactBytesOkSpec : ChangeSpec := { name := "fnExactBytesOk", fn := fun _ => fun
  | [d] => { results := [.lit (.bool true)], args := [d] }
  | _ => none }
def fnExactBytesOkRow : OpenClaim := { program := "ythnihgnboelipaa", sum := "ca4358e5f909c80f6903b7f4f76c814328297c59accd202027d1810ffd9c788c", func := "loop.example/g01538/laws.FnExactBytesOk", spec := "fnExactBytesOk", apart := false }
def FnExactBytesOkSaid : Prop := fnExactBytesOkRow.holds Try.pinned (OpenSpec.ofChange fnExactBytesOkSpec)

/-- ITS FALSE NEIGHBOUR: 'it returns false'. Refute it at one input. -/
def fnExactBytesOkWrong : ChangeSpec := { name := "fnExactBytesOk", fn := fun _ => fun
  | [d] => { results := [.lit (.bool false)], args := [d] }
  | _ => none }
def FnExactBytesOkWrongFalsely : Prop := fnExactBytesOkRow.holds Try.pinned (OpenSpec.ofChange fnExactBytesOkWrong)

/-- 'laws.FnExactLoadNum': WHATEVER THE INPUT: true; the input reads as it did. -/
def fnExactLoadNumSpec : ChangeSpec := { name := "fnExactLoadNum", fn := fun _ => fun
  | [d1, d2, d3] => { results := [.lit (.bool true)], args := [d1, d2, d3] }
  | _ => none }
def fnExactLoadNumRow : OpenClaim := { program := "ythnihgnboelipaa", sum := "ca4358e5f909c80f6903b7f4f76c814328297c59accd202027d1810ffd9c788c", func := "loop.example/g01538/laws.FnExactLoadNum", spec := "fnExactLoadNum", apart := false }
def FnExactLoadNumSaid : Prop := fnExactLoadNumRow.holds Try.pinned (OpenSpec.ofChange fnExactLoadNumSpec)

/-- ITS FALSE NEIGHBOUR: 'it returns false'. Refute it at one input. -/
def fnExactLoadNumWrong : ChangeSpec := { name := "fnExactLoadNum", fn := fun _ => fun
  | [d1, d2, d3] => { results := [.lit (.bool false)], args := [d1, d2, d3] }
  | _ => none }
def FnExactLoadNumWrongFalsely : Prop := fnExactLoadNumRow.holds Try.pinned (OpenSpec.ofChange fnExactLoadNumWrong)

/-- 'laws.FnExactStoreNum': WHATEVER THE INPUT: true; the input reads as it did. -/
def fnExactStoreNumSpec : ChangeSpec := { name := "fnExactStoreNum", fn := fun _ => fun
  | [d1, d2, d3, d4] => { results := [.lit (.bool true)], args := [d1, d2, d3, d4] }
  | _ => none }
def fnExactStoreNumRow : OpenClaim := { program := "ythnihgnboelipaa", sum := "ca4358e5f909c80f6903b7f4f76c814328297c59accd202027d1810ffd9c788c", func := "loop.example/g01538/laws.FnExactStoreNum", spec := "fnExactStoreNum", apart := false }
def FnExactStoreNumSaid : Prop := fnExactStoreNumRow.holds Try.pinned (OpenSpec.ofChange fnExactStoreNumSpec)

/-- ITS FALSE NEIGHBOUR: 'it returns false'. Refute it at one input. -/
def fnExactStoreNumWrong : ChangeSpec := { name := "fnExactStoreNum", fn := fun _ => fun
  | [d1, d2, d3, d4] => { results := [.lit (.bool false)], args := [d1, d2, d3, d4] }
  | _ => none }
def FnExactStoreNumWrongFalsely : Prop := fnExactStoreNumRow.holds Try.pinned (OpenSpec.ofChange fnExactStoreNumWrong)

/-- 'laws.FnExactCasNum': WHATEVER THE INPUT: true; the input reads as it did. -/
def fnExactCasNumSpec : ChangeSpec := { name := "fnExactCasNum", fn := fun _ => fun
  | [d1, d2, d3, d4, d5] => { results := [.lit (.bool true)], args := [d1, d2, d3, d4, d5] }
  | _ => none }
def fnExactCasNumRow : OpenClaim := { program := "ythnihgnboelipaa", sum := "ca4358e5f909c80f6903b7f4f76c814328297c59accd202027d1810ffd9c788c", func := "loop.example/g01538/laws.FnExactCasNum", spec := "fnExactCasNum", apart := false }
def FnExactCasNumSaid : Prop := fnExactCasNumRow.holds Try.pinned (OpenSpec.ofChange fnExactCasNumSpec)

/-- ITS FALSE NEIGHBOUR: 'it returns false'. Refute it at one input. -/
def fnExactCasNumWrong : ChangeSpec := { name := "fnExactCasNum", fn := fun _ => fun
  | [d1, d2, d3, d4, d5] => { results := [.lit (.bool false)], args := [d1, d2, d3, d4, d5] }
  | _ => none }
def FnExactCasNumWrongFalsely : Prop := fnExactCasNumRow.holds Try.pinned (OpenSpec.ofChange fnExactCasNumWrong)

/-- 'laws.FnExactFill': WHATEVER THE INPUT: true; the input reads as it did. -/
def fnExactFillSpec : ChangeSpec := { name := "fnExactFill", fn := fun _ => fun
  | [d1, d2, d3, d4] => { results := [.lit (.bool true)], args := [d1, d2, d3, d4] }
  | _ => none }
def fnExactFillRow : OpenClaim := { program := "ythnihgnboelipaa", sum := "ca4358e5f909c80f6903b7f4f76c814328297c59accd202027d1810ffd9c788c", func := "loop.example/g01538/laws.FnExactFill", spec := "fnExactFill", apart := false }
def FnExactFillSaid : Prop := fnExactFillRow.holds Try.pinned (OpenSpec.ofChange fnExactFillSpec)

/-- ITS FALSE NEIGHBOUR: 'it returns false'. Refute it at one input. -/
def fnExactFillWrong : ChangeSpec := { name := "fnExactFill", fn := fun _ => fun
  | [d1, d2, d3, d4] => { results := [.lit (.bool false)], args := [d1, d2, d3, d4] }
  | _ => none }
def FnExactFillWrongFalsely : Prop := fnExactFillRow.holds Try.pinned (OpenSpec.ofChange fnExactFillWrong)

/-- 'laws.FnExactSameBytes': WHATEVER THE INPUT: true; the input reads as it did. -/
def fnExactSameBytesSpec : ChangeSpec := { name := "fnExactSameBytes", fn := fun _ => fun
  | [d1, d2] => { results := [.lit (.bool true)], args := [d1, d2] }
  | _ => none }
def fnExactSameBytesRow : OpenClaim := { program := "ythnihgnboelipaa", sum := "ca4358e5f909c80f6903b7f4f76c814328297c59accd202027d1810ffd9c788c", func := "loop.example/g01538/laws.FnExactSameBytes", spec := "fnExactSameBytes", apart := false }
def FnExactSameBytesSaid : Prop := fnExactSameBytesRow.holds Try.pinned (OpenSpec.ofChange fnExactSameBytesSpec)

/-- ITS FALSE NEIGHBOUR: 'it returns false'. Refute it at one input. -/
def fnExactSameBytesWrong : ChangeSpec := { name := "fnExactSameBytes", fn := fun _ => fun
  | [d1, d2] => { results := [.lit (.bool false)], args := [d1, d2] }
  | _ => none }
def FnExactSameBytesWrongFalsely : Prop := fnExactSameBytesRow.holds Try.pinned (OpenSpec.ofChange fnExactSameBytesWrong)

/- THE SECOND FORM. 'bulk': how many values and letters a reading holds, each counted each time it is reached (what is shared counts as often as it is met; a slice's spare places count too). A statement '..UptoSaid' is the law's where the arguments, and the package variables that the reading takes, are together of bulk at most 1048576: NARROWER than '..Said'. Prove '..Said' where nothing that the law and all that it calls make is longer than what came in: it says more and counts as full. Else prove '..UptoSaid'. A law counts once. -/
mutual
def uptoBulk {H : Type} : DataW H → Nat
  | .lit (.string bytes) => bytes.length + 1
  | .lit _ => 1
  | .nil => 1
  | .ptr d => uptoBulk d + 1
  | .slice elems spare => uptoBulkAll elems + uptoBulkAll spare + 1
  | .agg parts => uptoBulkAll parts + 1
  | .iface _ d => uptoBulk d + 1
  | .map entries => uptoBulkEntries entries + 1
  | .held _ => 1
def uptoBulkAll {H : Type} : List (DataW H) → Nat
  | [] => 0
  | d :: r => uptoBulk d + uptoBulkAll r
def uptoBulkEntries {H : Type} : List (Lit × DataW H) → Nat
  | [] => 0
  | x :: r => uptoBulkEntry x + uptoBulkEntries r
def uptoBulkEntry {H : Type} : Lit × DataW H → Nat
  | (.string bytes, d) => bytes.length + uptoBulk d + 1
  | (_, d) => uptoBulk d + 1
 end
def uptoSmall : (H : Type) → List (DataW H) → Bool := fun _ ds => decide (uptoBulkAll ds ≤ 1048576)
def OpenSpec.upto (s : _root_.Go.ChangeSpec) : _root_.Go.OpenSpec := { _root_.Go.OpenSpec.ofChange s with cond := some uptoSmall }

/-- 'laws.FnSums', WHERE WHAT IT READS IS OF BULK AT MOST 1048576: true; the input reads as it did. -/
def fnSumsUptoRow : OpenClaim := { program := "ythnihgnboelipaa", sum := "ca4358e5f909c80f6903b7f4f76c814328297c59accd202027d1810ffd9c788c", func := "loop.example/g01538/laws.FnSums", spec := "fnSums", apart := false, narrowed := true }
def FnSumsUptoSaid : Prop := fnSumsUptoRow.holds Try.pinned (OpenSpec.upto fnSumsSpec)

/-- 'laws.FnExactCrc', WHERE WHAT IT READS IS OF BULK AT MOST 1048576: true; the input reads as it did. -/
def fnExactCrcUptoRow : OpenClaim := { program := "ythnihgnboelipaa", sum := "ca4358e5f909c80f6903b7f4f76c814328297c59accd202027d1810ffd9c788c", func := "loop.example/g01538/laws.FnExactCrc", spec := "fnExactCrc", apart := false, narrowed := true }
def FnExactCrcUptoSaid : Prop := fnExactCrcUptoRow.holds Try.pinned (OpenSpec.upto fnExactCrcSpec)

/-- 'laws.FnBytes', WHERE WHAT IT READS IS OF BULK AT MOST 1048576: true; the input reads as it did. -/
def fnBytesUptoRow : OpenClaim := { program := "ythnihgnboelipaa", sum := "ca4358e5f909c80f6903b7f4f76c814328297c59accd202027d1810ffd9c788c", func := "loop.example/g01538/laws.FnBytes", spec := "fnBytes", apart := false, narrowed := true }
def FnBytesUptoSaid : Prop := fnBytesUptoRow.holds Try.pinned (OpenSpec.upto fnBytesSpec)

/-- 'laws.FnExactBytesOk', WHERE WHAT IT READS IS OF BULK AT MOST 1048576: true; the input reads as it did. -/
def fnExactBytesOkUptoRow : OpenClaim := { program := "ythnihgnboelipaa", sum := "ca4358e5f909c80f6903b7f4f76c814328297c59accd202027d1810ffd9c788c", func := "loop.example/g01538/laws.FnExactBytesOk", spec := "fnExactBytesOk", apart := false, narrowed := true }
def FnExactBytesOkUptoSaid : Prop := fnExactBytesOkUptoRow.holds Try.pinned (OpenSpec.upto fnExactBytesOkSpec)

/-- 'laws.FnExactLoadNum', WHERE WHAT IT READS IS OF BULK AT MOST 1048576: true; the input reads as it did. -/
def fnExactLoadNumUptoRow : OpenClaim := { program := "ythnihgnboelipaa", sum := "ca4358e5f909c80f6903b7f4f76c814328297c59accd202027d1810ffd9c788c", func := "loop.example/g01538/laws.FnExactLoadNum", spec := "fnExactLoadNum", apart := false, narrowed := true }
def FnExactLoadNumUptoSaid : Prop := fnExactLoadNumUptoRow.holds Try.pinned (OpenSpec.upto fnExactLoadNumSpec)

/-- 'laws.FnExactStoreNum', WHERE WHAT IT READS IS OF BULK AT MOST 1048576: true; the input reads as it did. -/
def fnExactStoreNumUptoRow : OpenClaim := { program := "ythnihgnboelipaa", sum := "ca4358e5f909c80f6903b7f4f76c814328297c59accd202027d1810ffd9c788c", func := "loop.example/g01538/laws.FnExactStoreNum", spec := "fnExactStoreNum", apart := false, narrowed := true }
def FnExactStoreNumUptoSaid : Prop := fnExactStoreNumUptoRow.holds Try.pinned (OpenSpec.upto fnExactStoreNumSpec)

/-- 'laws.FnExactCasNum', WHERE WHAT IT READS IS OF BULK AT MOST 1048576: true; the input reads as it did. -/
def fnExactCasNumUptoRow : OpenClaim := { program := "ythnihgnboelipaa", sum := "ca4358e5f909c80f6903b7f4f76c814328297c59accd202027d1810ffd9c788c", func := "loop.example/g01538/laws.FnExactCasNum", spec := "fnExactCasNum", apart := false, narrowed := true }
def FnExactCasNumUptoSaid : Prop := fnExactCasNumUptoRow.holds Try.pinned (OpenSpec.upto fnExactCasNumSpec)

/-- 'laws.FnExactFill', WHERE WHAT IT READS IS OF BULK AT MOST 1048576: true; the input reads as it did. -/
def fnExactFillUptoRow : OpenClaim := { program := "ythnihgnboelipaa", sum := "ca4358e5f909c80f6903b7f4f76c814328297c59accd202027d1810ffd9c788c", func := "loop.example/g01538/laws.FnExactFill", spec := "fnExactFill", apart := false, narrowed := true }
def FnExactFillUptoSaid : Prop := fnExactFillUptoRow.holds Try.pinned (OpenSpec.upto fnExactFillSpec)

/-- 'laws.FnExactSameBytes', WHERE WHAT IT READS IS OF BULK AT MOST 1048576: true; the input reads as it did. -/
def fnExactSameBytesUptoRow : OpenClaim := { program := "ythnihgnboelipaa", sum := "ca4358e5f909c80f6903b7f4f76c814328297c59accd202027d1810ffd9c788c", func := "loop.example/g01538/laws.FnExactSameBytes", spec := "fnExactSameBytes", apart := false, narrowed := true }
def FnExactSameBytesUptoSaid : Prop := fnExactSameBytesUptoRow.holds Try.pinned (OpenSpec.upto fnExactSameBytesSpec)

end Rows
end Go.Proofs.Ythnihgnboelipaa
