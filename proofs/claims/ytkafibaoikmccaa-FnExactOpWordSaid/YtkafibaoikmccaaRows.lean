/-
  No cell of these rows narrows 'for every input' (looked for: loops, veiled, ifaces, maps, wideKeys, modest, calm, conditions, laid).
  DERIVED. THE GIVEN ROWS OF THIS SEAT. 12 by the template 'for every input the law returns true; each argument reads behind the call as it read before'; 0 by the template 'total and deterministic' (their statements: YtkafibaoikmccaaTotals.lean).
  GIVEN WITH THE SEED: the statements are not yours to turn. If you find one false, say at which input.
  Laid BY PROGRAM, IN A SANDBOX (cutbox-rows.mjs): the forced cells as the released guide's own fill.sh prints them over the translation ed04620bc39d905a… (all of the seat's roots in one cut). By AI agents, Wed Nov 11 2026. No macro, syntax, notation, axiom, sorry.
-/
import Derived.Test.YtkafibaoikmccaaChecked
import GoSem.Claim
import GoSem.ClaimJoined
import GoSem.ClaimMapViews
import Derived.JoinedTies
import Derived.KernelRfl
namespace Go.Proofs.Ytkafibaoikmccaa
/- THE CELL 'sum', in the pinned program and in every row, IS THE sha256 OF THE DUMP (.gsa) THAT YtkafibaoikmccaaProg.lean LOADS. Nothing in Lean hashes anything: it is a label: what it is worth is what the hold of that sum in a sandbox is worth. -/
noncomputable def Try.pinned : Pinned := { name := "ytkafibaoikmccaa", sum := "ed04620bc39d905af88d7a59619246b41773af56b533245904adeb71b757c418", checked := Try.checked }
namespace Rows
def none {H : Type} : Left H := { results := [], args := [] }

/-- 'laws.FnExactDisjoint': WHATEVER THE INPUT: true; the input reads as it did. -/
def fnExactDisjointSpec : ChangeSpec := { name := "fnExactDisjoint", fn := fun _ => fun
  | [d] => { results := [.lit (.bool true)], args := [d] }
  | _ => none }
def fnExactDisjointRow : OpenClaim := { program := "ytkafibaoikmccaa", sum := "ed04620bc39d905af88d7a59619246b41773af56b533245904adeb71b757c418", func := "loop.example/g01538/laws.FnExactDisjoint", spec := "fnExactDisjoint", apart := false }
def FnExactDisjointSaid : Prop := fnExactDisjointRow.holds Try.pinned (OpenSpec.ofChange fnExactDisjointSpec)

/-- ITS FALSE NEIGHBOUR: 'it returns false'. Refute it at one input. -/
def fnExactDisjointWrong : ChangeSpec := { name := "fnExactDisjoint", fn := fun _ => fun
  | [d] => { results := [.lit (.bool false)], args := [d] }
  | _ => none }
def FnExactDisjointWrongFalsely : Prop := fnExactDisjointRow.holds Try.pinned (OpenSpec.ofChange fnExactDisjointWrong)

/-- 'laws.FnExactSubNew': WHATEVER THE INPUT: true; the input reads as it did. -/
def fnExactSubNewSpec : ChangeSpec := { name := "fnExactSubNew", fn := fun _ => fun
  | [d1, d2] => { results := [.lit (.bool true)], args := [d1, d2] }
  | _ => none }
def fnExactSubNewRow : OpenClaim := { program := "ytkafibaoikmccaa", sum := "ed04620bc39d905af88d7a59619246b41773af56b533245904adeb71b757c418", func := "loop.example/g01538/laws.FnExactSubNew", spec := "fnExactSubNew", apart := false }
def FnExactSubNewSaid : Prop := fnExactSubNewRow.holds Try.pinned (OpenSpec.ofChange fnExactSubNewSpec)

/-- ITS FALSE NEIGHBOUR: 'it returns false'. Refute it at one input. -/
def fnExactSubNewWrong : ChangeSpec := { name := "fnExactSubNew", fn := fun _ => fun
  | [d1, d2] => { results := [.lit (.bool false)], args := [d1, d2] }
  | _ => none }
def FnExactSubNewWrongFalsely : Prop := fnExactSubNewRow.holds Try.pinned (OpenSpec.ofChange fnExactSubNewWrong)

/-- 'laws.FnExactStepsOf': WHATEVER THE INPUT: true; the input reads as it did. -/
def fnExactStepsOfSpec : ChangeSpec := { name := "fnExactStepsOf", fn := fun _ => fun
  | [d1, d2] => { results := [.lit (.bool true)], args := [d1, d2] }
  | _ => none }
def fnExactStepsOfRow : OpenClaim := { program := "ytkafibaoikmccaa", sum := "ed04620bc39d905af88d7a59619246b41773af56b533245904adeb71b757c418", func := "loop.example/g01538/laws.FnExactStepsOf", spec := "fnExactStepsOf", apart := false }
def FnExactStepsOfSaid : Prop := fnExactStepsOfRow.holds Try.pinned (OpenSpec.ofChange fnExactStepsOfSpec)

/-- ITS FALSE NEIGHBOUR: 'it returns false'. Refute it at one input. -/
def fnExactStepsOfWrong : ChangeSpec := { name := "fnExactStepsOf", fn := fun _ => fun
  | [d1, d2] => { results := [.lit (.bool false)], args := [d1, d2] }
  | _ => none }
def FnExactStepsOfWrongFalsely : Prop := fnExactStepsOfRow.holds Try.pinned (OpenSpec.ofChange fnExactStepsOfWrong)

/-- 'laws.FnExactSubWord': WHATEVER THE INPUT: true; the input reads as it did. -/
def fnExactSubWordSpec : ChangeSpec := { name := "fnExactSubWord", fn := fun _ => fun
  | [d] => { results := [.lit (.bool true)], args := [d] }
  | _ => none }
def fnExactSubWordRow : OpenClaim := { program := "ytkafibaoikmccaa", sum := "ed04620bc39d905af88d7a59619246b41773af56b533245904adeb71b757c418", func := "loop.example/g01538/laws.FnExactSubWord", spec := "fnExactSubWord", apart := false }
def FnExactSubWordSaid : Prop := fnExactSubWordRow.holds Try.pinned (OpenSpec.ofChange fnExactSubWordSpec)

/-- ITS FALSE NEIGHBOUR: 'it returns false'. Refute it at one input. -/
def fnExactSubWordWrong : ChangeSpec := { name := "fnExactSubWord", fn := fun _ => fun
  | [d] => { results := [.lit (.bool false)], args := [d] }
  | _ => none }
def FnExactSubWordWrongFalsely : Prop := fnExactSubWordRow.holds Try.pinned (OpenSpec.ofChange fnExactSubWordWrong)

/-- 'laws.FnExactOpOk': WHATEVER THE INPUT: true; the input reads as it did. -/
def fnExactOpOkSpec : ChangeSpec := { name := "fnExactOpOk", fn := fun _ => fun
  | [d] => { results := [.lit (.bool true)], args := [d] }
  | _ => none }
def fnExactOpOkRow : OpenClaim := { program := "ytkafibaoikmccaa", sum := "ed04620bc39d905af88d7a59619246b41773af56b533245904adeb71b757c418", func := "loop.example/g01538/laws.FnExactOpOk", spec := "fnExactOpOk", apart := false }
def FnExactOpOkSaid : Prop := fnExactOpOkRow.holds Try.pinned (OpenSpec.ofChange fnExactOpOkSpec)

/-- ITS FALSE NEIGHBOUR: 'it returns false'. Refute it at one input. -/
def fnExactOpOkWrong : ChangeSpec := { name := "fnExactOpOk", fn := fun _ => fun
  | [d] => { results := [.lit (.bool false)], args := [d] }
  | _ => none }
def FnExactOpOkWrongFalsely : Prop := fnExactOpOkRow.holds Try.pinned (OpenSpec.ofChange fnExactOpOkWrong)

/-- 'laws.FnExactOpWord': WHATEVER THE INPUT: true; the input reads as it did. -/
def fnExactOpWordSpec : ChangeSpec := { name := "fnExactOpWord", fn := fun _ => fun
  | [d] => { results := [.lit (.bool true)], args := [d] }
  | _ => none }
def fnExactOpWordRow : OpenClaim := { program := "ytkafibaoikmccaa", sum := "ed04620bc39d905af88d7a59619246b41773af56b533245904adeb71b757c418", func := "loop.example/g01538/laws.FnExactOpWord", spec := "fnExactOpWord", apart := false }
def FnExactOpWordSaid : Prop := fnExactOpWordRow.holds Try.pinned (OpenSpec.ofChange fnExactOpWordSpec)

/-- ITS FALSE NEIGHBOUR: 'it returns false'. Refute it at one input. -/
def fnExactOpWordWrong : ChangeSpec := { name := "fnExactOpWord", fn := fun _ => fun
  | [d] => { results := [.lit (.bool false)], args := [d] }
  | _ => none }
def FnExactOpWordWrongFalsely : Prop := fnExactOpWordRow.holds Try.pinned (OpenSpec.ofChange fnExactOpWordWrong)

/-- 'laws.FnExactAmong': WHATEVER THE INPUT: true; the input reads as it did. -/
def fnExactAmongSpec : ChangeSpec := { name := "fnExactAmong", fn := fun _ => fun
  | [d1, d2] => { results := [.lit (.bool true)], args := [d1, d2] }
  | _ => none }
def fnExactAmongRow : OpenClaim := { program := "ytkafibaoikmccaa", sum := "ed04620bc39d905af88d7a59619246b41773af56b533245904adeb71b757c418", func := "loop.example/g01538/laws.FnExactAmong", spec := "fnExactAmong", apart := false }
def FnExactAmongSaid : Prop := fnExactAmongRow.holds Try.pinned (OpenSpec.ofChange fnExactAmongSpec)

/-- ITS FALSE NEIGHBOUR: 'it returns false'. Refute it at one input. -/
def fnExactAmongWrong : ChangeSpec := { name := "fnExactAmong", fn := fun _ => fun
  | [d1, d2] => { results := [.lit (.bool false)], args := [d1, d2] }
  | _ => none }
def FnExactAmongWrongFalsely : Prop := fnExactAmongRow.holds Try.pinned (OpenSpec.ofChange fnExactAmongWrong)

/-- 'laws.FnExactCellAt': WHATEVER THE INPUT: true; the input reads as it did. -/
def fnExactCellAtSpec : ChangeSpec := { name := "fnExactCellAt", fn := fun _ => fun
  | [d1, d2, d3] => { results := [.lit (.bool true)], args := [d1, d2, d3] }
  | _ => none }
def fnExactCellAtRow : OpenClaim := { program := "ytkafibaoikmccaa", sum := "ed04620bc39d905af88d7a59619246b41773af56b533245904adeb71b757c418", func := "loop.example/g01538/laws.FnExactCellAt", spec := "fnExactCellAt", apart := false }
def FnExactCellAtSaid : Prop := fnExactCellAtRow.holds Try.pinned (OpenSpec.ofChange fnExactCellAtSpec)

/-- ITS FALSE NEIGHBOUR: 'it returns false'. Refute it at one input. -/
def fnExactCellAtWrong : ChangeSpec := { name := "fnExactCellAt", fn := fun _ => fun
  | [d1, d2, d3] => { results := [.lit (.bool false)], args := [d1, d2, d3] }
  | _ => none }
def FnExactCellAtWrongFalsely : Prop := fnExactCellAtRow.holds Try.pinned (OpenSpec.ofChange fnExactCellAtWrong)

/-- 'laws.FnExactTruthOf': WHATEVER THE INPUT: true; the input reads as it did. -/
def fnExactTruthOfSpec : ChangeSpec := { name := "fnExactTruthOf", fn := fun _ => fun
  | [d] => { results := [.lit (.bool true)], args := [d] }
  | _ => none }
def fnExactTruthOfRow : OpenClaim := { program := "ytkafibaoikmccaa", sum := "ed04620bc39d905af88d7a59619246b41773af56b533245904adeb71b757c418", func := "loop.example/g01538/laws.FnExactTruthOf", spec := "fnExactTruthOf", apart := false }
def FnExactTruthOfSaid : Prop := fnExactTruthOfRow.holds Try.pinned (OpenSpec.ofChange fnExactTruthOfSpec)

/-- ITS FALSE NEIGHBOUR: 'it returns false'. Refute it at one input. -/
def fnExactTruthOfWrong : ChangeSpec := { name := "fnExactTruthOf", fn := fun _ => fun
  | [d] => { results := [.lit (.bool false)], args := [d] }
  | _ => none }
def FnExactTruthOfWrongFalsely : Prop := fnExactTruthOfRow.holds Try.pinned (OpenSpec.ofChange fnExactTruthOfWrong)

/-- 'laws.FnExactNodeOk': WHATEVER THE INPUT: true; the input reads as it did. -/
def fnExactNodeOkSpec : ChangeSpec := { name := "fnExactNodeOk", fn := fun _ => fun
  | [d] => { results := [.lit (.bool true)], args := [d] }
  | _ => none }
def fnExactNodeOkRow : OpenClaim := { program := "ytkafibaoikmccaa", sum := "ed04620bc39d905af88d7a59619246b41773af56b533245904adeb71b757c418", func := "loop.example/g01538/laws.FnExactNodeOk", spec := "fnExactNodeOk", apart := false }
def FnExactNodeOkSaid : Prop := fnExactNodeOkRow.holds Try.pinned (OpenSpec.ofChange fnExactNodeOkSpec)

/-- ITS FALSE NEIGHBOUR: 'it returns false'. Refute it at one input. -/
def fnExactNodeOkWrong : ChangeSpec := { name := "fnExactNodeOk", fn := fun _ => fun
  | [d] => { results := [.lit (.bool false)], args := [d] }
  | _ => none }
def FnExactNodeOkWrongFalsely : Prop := fnExactNodeOkRow.holds Try.pinned (OpenSpec.ofChange fnExactNodeOkWrong)

/-- 'laws.FnExactBktOf': WHATEVER THE INPUT: true; the input reads as it did. -/
def fnExactBktOfSpec : ChangeSpec := { name := "fnExactBktOf", fn := fun _ => fun
  | [d] => { results := [.lit (.bool true)], args := [d] }
  | _ => none }
def fnExactBktOfRow : OpenClaim := { program := "ytkafibaoikmccaa", sum := "ed04620bc39d905af88d7a59619246b41773af56b533245904adeb71b757c418", func := "loop.example/g01538/laws.FnExactBktOf", spec := "fnExactBktOf", apart := false }
def FnExactBktOfSaid : Prop := fnExactBktOfRow.holds Try.pinned (OpenSpec.ofChange fnExactBktOfSpec)

/-- ITS FALSE NEIGHBOUR: 'it returns false'. Refute it at one input. -/
def fnExactBktOfWrong : ChangeSpec := { name := "fnExactBktOf", fn := fun _ => fun
  | [d] => { results := [.lit (.bool false)], args := [d] }
  | _ => none }
def FnExactBktOfWrongFalsely : Prop := fnExactBktOfRow.holds Try.pinned (OpenSpec.ofChange fnExactBktOfWrong)

/-- 'laws.FnExactBktOk': WHATEVER THE INPUT: true; the input reads as it did. -/
def fnExactBktOkSpec : ChangeSpec := { name := "fnExactBktOk", fn := fun _ => fun
  | [d] => { results := [.lit (.bool true)], args := [d] }
  | _ => none }
def fnExactBktOkRow : OpenClaim := { program := "ytkafibaoikmccaa", sum := "ed04620bc39d905af88d7a59619246b41773af56b533245904adeb71b757c418", func := "loop.example/g01538/laws.FnExactBktOk", spec := "fnExactBktOk", apart := false }
def FnExactBktOkSaid : Prop := fnExactBktOkRow.holds Try.pinned (OpenSpec.ofChange fnExactBktOkSpec)

/-- ITS FALSE NEIGHBOUR: 'it returns false'. Refute it at one input. -/
def fnExactBktOkWrong : ChangeSpec := { name := "fnExactBktOk", fn := fun _ => fun
  | [d] => { results := [.lit (.bool false)], args := [d] }
  | _ => none }
def FnExactBktOkWrongFalsely : Prop := fnExactBktOkRow.holds Try.pinned (OpenSpec.ofChange fnExactBktOkWrong)

/- THE SECOND FORM. 'bulk': how many values and letters a reading holds, each counted each time it is reached (what is shared counts as often as it is met; a slice's spare places count too). A statement '..UptoSaid' is the law's where the arguments, and the package variables that the reading takes, are together of bulk at most 1048576: NARROWER than '..Said'. Prove '..Said' where nothing that the law and all that it calls make is longer than what came in: it says more and counts as full. Else prove '..UptoSaid'. A law counts once. -/
mutual
def uptoBulk {H : Type} : DataW H → Nat
  | .lit (.string bytes) => bytes.length + 1
  | .lit _ => 1
  | .nil => 1
  | .ptr d => uptoBulk d + 1
  | .slice elems spare => uptoBulkAll elems + uptoBulkAll spare + 1
  | .agg parts => uptoBulkAll parts + 1
  | .iface _ d => uptoBulk d + 1
  | .map entries => uptoBulkEntries entries + 1
  | .held _ => 1
def uptoBulkAll {H : Type} : List (DataW H) → Nat
  | [] => 0
  | d :: r => uptoBulk d + uptoBulkAll r
def uptoBulkEntries {H : Type} : List (Lit × DataW H) → Nat
  | [] => 0
  | x :: r => uptoBulkEntry x + uptoBulkEntries r
def uptoBulkEntry {H : Type} : Lit × DataW H → Nat
  | (.string bytes, d) => bytes.length + uptoBulk d + 1
  | (_, d) => uptoBulk d + 1
 end
def uptoSmall : (H : Type) → List (DataW H) → Bool := fun _ ds => decide (uptoBulkAll ds ≤ 1048576)
def OpenSpec.upto (s : _root_.Go.ChangeSpec) : _root_.Go.OpenSpec := { _root_.Go.OpenSpec.ofChange s with cond := some uptoSmall }

/-- 'laws.FnExactDisjoint', WHERE WHAT IT READS IS OF BULK AT MOST 1048576: true; the input reads as it did. -/
def fnExactDisjointUptoRow : OpenClaim := { program := "ytkafibaoikmccaa", sum := "ed04620bc39d905af88d7a59619246b41773af56b533245904adeb71b757c418", func := "loop.example/g01538/laws.FnExactDisjoint", spec := "fnExactDisjoint", apart := false, narrowed := true }
def FnExactDisjointUptoSaid : Prop := fnExactDisjointUptoRow.holds Try.pinned (OpenSpec.upto fnExactDisjointSpec)

/-- 'laws.FnExactSubNew', WHERE WHAT IT READS IS OF BULK AT MOST 1048576: true; the input reads as it did. -/
def fnExactSubNewUptoRow : OpenClaim := { program := "ytkafibaoikmccaa", sum := "ed04620bc39d905af88d7a59619246b41773af56b533245904adeb71b757c418", func := "loop.example/g01538/laws.FnExactSubNew", spec := "fnExactSubNew", apart := false, narrowed := true }
def FnExactSubNewUptoSaid : Prop := fnExactSubNewUptoRow.holds Try.pinned (OpenSpec.upto fnExactSubNewSpec)

/-- 'laws.FnExactStepsOf', WHERE WHAT IT READS IS OF BULK AT MOST 1048576: true; the input reads as it did. -/
def fnExactStepsOfUptoRow : OpenClaim := { program := "ytkafibaoikmccaa", sum := "ed04620bc39d905af88d7a59619246b41773af56b533245904adeb71b757c418", func := "loop.example/g01538/laws.FnExactStepsOf", spec := "fnExactStepsOf", apart := false, narrowed := true }
def FnExactStepsOfUptoSaid : Prop := fnExactStepsOfUptoRow.holds Try.pinned (OpenSpec.upto fnExactStepsOfSpec)

/-- 'laws.FnExactSubWord', WHERE WHAT IT READS IS OF BULK AT MOST 1048576: true; the input reads as it did. -/
def fnExactSubWordUptoRow : OpenClaim := { program := "ytkafibaoikmccaa", sum := "ed04620bc39d905af88d7a59619246b41773af56b533245904adeb71b757c418", func := "loop.example/g01538/laws.FnExactSubWord", spec := "fnExactSubWord", apart := false, narrowed := true }
def FnExactSubWordUptoSaid : Prop := fnExactSubWordUptoRow.holds Try.pinned (OpenSpec.upto fnExactSubWordSpec)

/-- 'laws.FnExactOpOk', WHERE WHAT IT READS IS OF BULK AT MOST 1048576: true; the input reads as it did. -/
def fnExactOpOkUptoRow : OpenClaim := { program := "ytkafibaoikmccaa", sum := "ed04620bc39d905af88d7a59619246b41773af56b533245904adeb71b757c418", func := "loop.example/g01538/laws.FnExactOpOk", spec := "fnExactOpOk", apart := false, narrowed := true }
def FnExactOpOkUptoSaid : Prop := fnExactOpOkUptoRow.holds Try.pinned (OpenSpec.upto fnExactOpOkSpec)

/-- 'laws.FnExactOpWord', WHERE WHAT IT READS IS OF BULK AT MOST 1048576: true; the input reads as it did. -/
def fnExactOpWordUptoRow : OpenClaim := { program := "ytkafibaoikmccaa", sum := "ed04620bc39d905af88d7a59619246b41773af56b533245904adeb71b757c418", func := "loop.example/g01538/laws.FnExactOpWord", spec := "fnExactOpWord", apart := false, narrowed := true }
def FnExactOpWordUptoSaid : Prop := fnExactOpWordUptoRow.holds Try.pinned (OpenSpec.upto fnExactOpWordSpec)

/-- 'laws.FnExactAmong', WHERE WHAT IT READS IS OF BULK AT MOST 1048576: true; the input reads as it did. -/
def fnExactAmongUptoRow : OpenClaim := { program := "ytkafibaoikmccaa", sum := "ed04620bc39d905af88d7a59619246b41773af56b533245904adeb71b757c418", func := "loop.example/g01538/laws.FnExactAmong", spec := "fnExactAmong", apart := false, narrowed := true }
def FnExactAmongUptoSaid : Prop := fnExactAmongUptoRow.holds Try.pinned (OpenSpec.upto fnExactAmongSpec)

/-- 'laws.FnExactCellAt', WHERE WHAT IT READS IS OF BULK AT MOST 1048576: true; the input reads as it did. -/
def fnExactCellAtUptoRow : OpenClaim := { program := "ytkafibaoikmccaa", sum := "ed04620bc39d905af88d7a59619246b41773af56b533245904adeb71b757c418", func := "loop.example/g01538/laws.FnExactCellAt", spec := "fnExactCellAt", apart := false, narrowed := true }
def FnExactCellAtUptoSaid : Prop := fnExactCellAtUptoRow.holds Try.pinned (OpenSpec.upto fnExactCellAtSpec)

/-- 'laws.FnExactTruthOf', WHERE WHAT IT READS IS OF BULK AT MOST 1048576: true; the input reads as it did. -/
def fnExactTruthOfUptoRow : OpenClaim := { program := "ytkafibaoikmccaa", sum := "ed04620bc39d905af88d7a59619246b41773af56b533245904adeb71b757c418", func := "loop.example/g01538/laws.FnExactTruthOf", spec := "fnExactTruthOf", apart := false, narrowed := true }
def FnExactTruthOfUptoSaid : Prop := fnExactTruthOfUptoRow.holds Try.pinned (OpenSpec.upto fnExactTruthOfSpec)

/-- 'laws.FnExactNodeOk', WHERE WHAT IT READS IS OF BULK AT MOST 1048576: true; the input reads as it did. -/
def fnExactNodeOkUptoRow : OpenClaim := { program := "ytkafibaoikmccaa", sum := "ed04620bc39d905af88d7a59619246b41773af56b533245904adeb71b757c418", func := "loop.example/g01538/laws.FnExactNodeOk", spec := "fnExactNodeOk", apart := false, narrowed := true }
def FnExactNodeOkUptoSaid : Prop := fnExactNodeOkUptoRow.holds Try.pinned (OpenSpec.upto fnExactNodeOkSpec)

/-- 'laws.FnExactBktOf', WHERE WHAT IT READS IS OF BULK AT MOST 1048576: true; the input reads as it did. -/
def fnExactBktOfUptoRow : OpenClaim := { program := "ytkafibaoikmccaa", sum := "ed04620bc39d905af88d7a59619246b41773af56b533245904adeb71b757c418", func := "loop.example/g01538/laws.FnExactBktOf", spec := "fnExactBktOf", apart := false, narrowed := true }
def FnExactBktOfUptoSaid : Prop := fnExactBktOfUptoRow.holds Try.pinned (OpenSpec.upto fnExactBktOfSpec)

/-- 'laws.FnExactBktOk', WHERE WHAT IT READS IS OF BULK AT MOST 1048576: true; the input reads as it did. -/
def fnExactBktOkUptoRow : OpenClaim := { program := "ytkafibaoikmccaa", sum := "ed04620bc39d905af88d7a59619246b41773af56b533245904adeb71b757c418", func := "loop.example/g01538/laws.FnExactBktOk", spec := "fnExactBktOk", apart := false, narrowed := true }
def FnExactBktOkUptoSaid : Prop := fnExactBktOkUptoRow.holds Try.pinned (OpenSpec.upto fnExactBktOkSpec)

end Rows
end Go.Proofs.Ytkafibaoikmccaa
