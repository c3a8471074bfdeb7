/-
  NARROWER THAN 'FOR EVERY INPUT', by the rows' own cells (each row's printed sentence says how): FnExactClassOf: laid · FnExactStrideOf: laid · FnExactPerPage: laid · FnExactWaste: laid · FnSpots: laid · FnExactGenAt: laid · FnExactStartOf: laid · FnExactRangeOf: laid.
  DERIVED. THE GIVEN ROWS OF THIS SEAT. 8 by the template 'for every input the law returns true; each argument reads behind the call as it read before'; 0 by the template 'total and deterministic' (their statements: YthnihgnboelipabDoorTotals.lean).
  GIVEN WITH THE SEED: the statements are not yours to turn. If you find one false, say at which input.
  Laid BY PROGRAM, IN A SANDBOX (cutbox-rows.mjs): the forced cells as the released guide's own fill.sh prints them over the translation dddf2452a317445a… (all of the seat's roots in one cut). By AI agents, Wed Nov 11 2026. No macro, syntax, notation, axiom, sorry.
-/
import Derived.Test.YthnihgnboelipabDoorChecked
import GoSem.Claim
import GoSem.ClaimJoined
import GoSem.ClaimMapViews
import Derived.JoinedTies
import Derived.KernelRfl
namespace Go.Proofs.YthnihgnboelipabDoor
/- THE CELL 'sum', in the pinned program and in every row, IS THE sha256 OF THE DUMP (.gsa) THAT YthnihgnboelipabDoorProg.lean LOADS. Nothing in Lean hashes anything: it is a label: what it is worth is what the hold of that sum in a sandbox is worth. -/
noncomputable def Tryd.pinned : Pinned := { name := "ythnihgnboelipabdoor", sum := "dddf2452a317445abf87ae17e1933891c32a5c6b7d7606e832b3848a688f6840", checked := Tryd.checked }
namespace Rows
def none {H : Type} : Left H := { results := [], args := [] }

/- WHAT THE LISTED PACKAGE-LEVEL VARIABLES READ AS WHEN THE CALL BEGINS. Each datum BY PROGRAM (the guide's laid-datum.mjs) off the statement by which the dump's own 'gosem.cut.vars' lays the variable. In a bare row this is a premise. The card (YthnihgnboelipabDoorCards.lean) ties it to the program's text. -/
def laid_loop_example_g01538_impl_slotSizes {H : Type} : DataW H := .agg [.lit (.int .i64 8), .lit (.int .i64 16), .lit (.int .i64 40)]

/-- 'laws.FnExactClassOf': WHATEVER THE INPUT: true; the input reads as it did. -/
def fnExactClassOfSpec : ChangeSpec := { name := "fnExactClassOf", vars := ["loop.example/g01538/impl.slotSizes"], fn := fun _ => fun
  | [d, g1] => { results := [.lit (.bool true)], args := [d], vars := [g1] }
  | _ => none }
def fnExactClassOfRow : OpenClaim := { program := "ythnihgnboelipabdoor", sum := "dddf2452a317445abf87ae17e1933891c32a5c6b7d7606e832b3848a688f6840", func := "loop.example/g01538/laws.FnExactClassOf", spec := "fnExactClassOf", named := ["loop.example/g01538/impl.slotSizes"], apart := false, laid := [("loop.example/g01538/impl.slotSizes", laid_loop_example_g01538_impl_slotSizes)] }
def FnExactClassOfSaid : Prop := fnExactClassOfRow.holds Tryd.pinned (OpenSpec.ofChange fnExactClassOfSpec)

/-- ITS FALSE NEIGHBOUR: 'it returns false'. Refute it at one input. -/
def fnExactClassOfWrong : ChangeSpec := { name := "fnExactClassOf", vars := ["loop.example/g01538/impl.slotSizes"], fn := fun _ => fun
  | [d, g1] => { results := [.lit (.bool false)], args := [d], vars := [g1] }
  | _ => none }
def FnExactClassOfWrongFalsely : Prop := fnExactClassOfRow.holds Tryd.pinned (OpenSpec.ofChange fnExactClassOfWrong)

/-- 'laws.FnExactStrideOf': WHATEVER THE INPUT: true; the input reads as it did. -/
def fnExactStrideOfSpec : ChangeSpec := { name := "fnExactStrideOf", vars := ["loop.example/g01538/impl.slotSizes"], fn := fun _ => fun
  | [d, g1] => { results := [.lit (.bool true)], args := [d], vars := [g1] }
  | _ => none }
def fnExactStrideOfRow : OpenClaim := { program := "ythnihgnboelipabdoor", sum := "dddf2452a317445abf87ae17e1933891c32a5c6b7d7606e832b3848a688f6840", func := "loop.example/g01538/laws.FnExactStrideOf", spec := "fnExactStrideOf", named := ["loop.example/g01538/impl.slotSizes"], apart := false, laid := [("loop.example/g01538/impl.slotSizes", laid_loop_example_g01538_impl_slotSizes)] }
def FnExactStrideOfSaid : Prop := fnExactStrideOfRow.holds Tryd.pinned (OpenSpec.ofChange fnExactStrideOfSpec)

/-- ITS FALSE NEIGHBOUR: 'it returns false'. Refute it at one input. -/
def fnExactStrideOfWrong : ChangeSpec := { name := "fnExactStrideOf", vars := ["loop.example/g01538/impl.slotSizes"], fn := fun _ => fun
  | [d, g1] => { results := [.lit (.bool false)], args := [d], vars := [g1] }
  | _ => none }
def FnExactStrideOfWrongFalsely : Prop := fnExactStrideOfRow.holds Tryd.pinned (OpenSpec.ofChange fnExactStrideOfWrong)

/-- 'laws.FnExactPerPage': WHATEVER THE INPUT: true; the input reads as it did. -/
def fnExactPerPageSpec : ChangeSpec := { name := "fnExactPerPage", vars := ["loop.example/g01538/impl.slotSizes"], fn := fun _ => fun
  | [d, g1] => { results := [.lit (.bool true)], args := [d], vars := [g1] }
  | _ => none }
def fnExactPerPageRow : OpenClaim := { program := "ythnihgnboelipabdoor", sum := "dddf2452a317445abf87ae17e1933891c32a5c6b7d7606e832b3848a688f6840", func := "loop.example/g01538/laws.FnExactPerPage", spec := "fnExactPerPage", named := ["loop.example/g01538/impl.slotSizes"], apart := false, laid := [("loop.example/g01538/impl.slotSizes", laid_loop_example_g01538_impl_slotSizes)] }
def FnExactPerPageSaid : Prop := fnExactPerPageRow.holds Tryd.pinned (OpenSpec.ofChange fnExactPerPageSpec)

/-- ITS FALSE NEIGHBOUR: 'it returns false'. Refute it at one input. -/
def fnExactPerPageWrong : ChangeSpec := { name := "fnExactPerPage", vars := ["loop.example/g01538/impl.slotSizes"], fn := fun _ => fun
  | [d, g1] => { results := [.lit (.bool false)], args := [d], vars := [g1] }
  | _ => none }
def FnExactPerPageWrongFalsely : Prop := fnExactPerPageRow.holds Tryd.pinned (OpenSpec.ofChange fnExactPerPageWrong)

/-- 'laws.FnExactWaste': WHATEVER THE INPUT: true; the input reads as it did. -/
def fnExactWasteSpec : ChangeSpec := { name := "fnExactWaste", vars := ["loop.example/g01538/impl.slotSizes"], fn := fun _ => fun
  | [d, g1] => { results := [.lit (.bool true)], args := [d], vars := [g1] }
  | _ => none }
def fnExactWasteRow : OpenClaim := { program := "ythnihgnboelipabdoor", sum := "dddf2452a317445abf87ae17e1933891c32a5c6b7d7606e832b3848a688f6840", func := "loop.example/g01538/laws.FnExactWaste", spec := "fnExactWaste", named := ["loop.example/g01538/impl.slotSizes"], apart := false, laid := [("loop.example/g01538/impl.slotSizes", laid_loop_example_g01538_impl_slotSizes)] }
def FnExactWasteSaid : Prop := fnExactWasteRow.holds Tryd.pinned (OpenSpec.ofChange fnExactWasteSpec)

/-- ITS FALSE NEIGHBOUR: 'it returns false'. Refute it at one input. -/
def fnExactWasteWrong : ChangeSpec := { name := "fnExactWaste", vars := ["loop.example/g01538/impl.slotSizes"], fn := fun _ => fun
  | [d, g1] => { results := [.lit (.bool false)], args := [d], vars := [g1] }
  | _ => none }
def FnExactWasteWrongFalsely : Prop := fnExactWasteRow.holds Tryd.pinned (OpenSpec.ofChange fnExactWasteWrong)

/-- 'laws.FnSpots': WHATEVER THE INPUT: true; the input reads as it did. -/
def fnSpotsSpec : ChangeSpec := { name := "fnSpots", vars := ["loop.example/g01538/impl.slotSizes"], fn := fun _ => fun
  | [d, g1] => { results := [.lit (.bool true)], args := [d], vars := [g1] }
  | _ => none }
def fnSpotsRow : OpenClaim := { program := "ythnihgnboelipabdoor", sum := "dddf2452a317445abf87ae17e1933891c32a5c6b7d7606e832b3848a688f6840", func := "loop.example/g01538/laws.FnSpots", spec := "fnSpots", named := ["loop.example/g01538/impl.slotSizes"], apart := false, laid := [("loop.example/g01538/impl.slotSizes", laid_loop_example_g01538_impl_slotSizes)] }
def FnSpotsSaid : Prop := fnSpotsRow.holds Tryd.pinned (OpenSpec.ofChange fnSpotsSpec)

/-- ITS FALSE NEIGHBOUR: 'it returns false'. Refute it at one input. -/
def fnSpotsWrong : ChangeSpec := { name := "fnSpots", vars := ["loop.example/g01538/impl.slotSizes"], fn := fun _ => fun
  | [d, g1] => { results := [.lit (.bool false)], args := [d], vars := [g1] }
  | _ => none }
def FnSpotsWrongFalsely : Prop := fnSpotsRow.holds Tryd.pinned (OpenSpec.ofChange fnSpotsWrong)

/-- 'laws.FnExactGenAt': WHATEVER THE INPUT: true; the input reads as it did. -/
def fnExactGenAtSpec : ChangeSpec := { name := "fnExactGenAt", vars := ["loop.example/g01538/impl.slotSizes"], fn := fun _ => fun
  | [d1, d2, g1] => { results := [.lit (.bool true)], args := [d1, d2], vars := [g1] }
  | _ => none }
def fnExactGenAtRow : OpenClaim := { program := "ythnihgnboelipabdoor", sum := "dddf2452a317445abf87ae17e1933891c32a5c6b7d7606e832b3848a688f6840", func := "loop.example/g01538/laws.FnExactGenAt", spec := "fnExactGenAt", named := ["loop.example/g01538/impl.slotSizes"], apart := false, laid := [("loop.example/g01538/impl.slotSizes", laid_loop_example_g01538_impl_slotSizes)] }
def FnExactGenAtSaid : Prop := fnExactGenAtRow.holds Tryd.pinned (OpenSpec.ofChange fnExactGenAtSpec)

/-- ITS FALSE NEIGHBOUR: 'it returns false'. Refute it at one input. -/
def fnExactGenAtWrong : ChangeSpec := { name := "fnExactGenAt", vars := ["loop.example/g01538/impl.slotSizes"], fn := fun _ => fun
  | [d1, d2, g1] => { results := [.lit (.bool false)], args := [d1, d2], vars := [g1] }
  | _ => none }
def FnExactGenAtWrongFalsely : Prop := fnExactGenAtRow.holds Tryd.pinned (OpenSpec.ofChange fnExactGenAtWrong)

/-- 'laws.FnExactStartOf': WHATEVER THE INPUT: true; the input reads as it did. -/
def fnExactStartOfSpec : ChangeSpec := { name := "fnExactStartOf", vars := ["loop.example/g01538/impl.slotSizes"], fn := fun _ => fun
  | [d1, d2, g1] => { results := [.lit (.bool true)], args := [d1, d2], vars := [g1] }
  | _ => none }
def fnExactStartOfRow : OpenClaim := { program := "ythnihgnboelipabdoor", sum := "dddf2452a317445abf87ae17e1933891c32a5c6b7d7606e832b3848a688f6840", func := "loop.example/g01538/laws.FnExactStartOf", spec := "fnExactStartOf", named := ["loop.example/g01538/impl.slotSizes"], apart := false, laid := [("loop.example/g01538/impl.slotSizes", laid_loop_example_g01538_impl_slotSizes)] }
def FnExactStartOfSaid : Prop := fnExactStartOfRow.holds Tryd.pinned (OpenSpec.ofChange fnExactStartOfSpec)

/-- ITS FALSE NEIGHBOUR: 'it returns false'. Refute it at one input. -/
def fnExactStartOfWrong : ChangeSpec := { name := "fnExactStartOf", vars := ["loop.example/g01538/impl.slotSizes"], fn := fun _ => fun
  | [d1, d2, g1] => { results := [.lit (.bool false)], args := [d1, d2], vars := [g1] }
  | _ => none }
def FnExactStartOfWrongFalsely : Prop := fnExactStartOfRow.holds Tryd.pinned (OpenSpec.ofChange fnExactStartOfWrong)

/-- 'laws.FnExactRangeOf': WHATEVER THE INPUT: true; the input reads as it did. -/
def fnExactRangeOfSpec : ChangeSpec := { name := "fnExactRangeOf", vars := ["loop.example/g01538/impl.slotSizes"], fn := fun _ => fun
  | [d1, d2, g1] => { results := [.lit (.bool true)], args := [d1, d2], vars := [g1] }
  | _ => none }
def fnExactRangeOfRow : OpenClaim := { program := "ythnihgnboelipabdoor", sum := "dddf2452a317445abf87ae17e1933891c32a5c6b7d7606e832b3848a688f6840", func := "loop.example/g01538/laws.FnExactRangeOf", spec := "fnExactRangeOf", named := ["loop.example/g01538/impl.slotSizes"], apart := false, laid := [("loop.example/g01538/impl.slotSizes", laid_loop_example_g01538_impl_slotSizes)] }
def FnExactRangeOfSaid : Prop := fnExactRangeOfRow.holds Tryd.pinned (OpenSpec.ofChange fnExactRangeOfSpec)

/-- ITS FALSE NEIGHBOUR: 'it returns false'. Refute it at one input. -/
def fnExactRangeOfWrong : ChangeSpec := { name := "fnExactRangeOf", vars := ["loop.example/g01538/impl.slotSizes"], fn := fun _ => fun
  | [d1, d2, g1] => { results := [.lit (.bool false)], args := [d1, d2], vars := [g1] }
  | _ => none }
def FnExactRangeOfWrongFalsely : Prop := fnExactRangeOfRow.holds Tryd.pinned (OpenSpec.ofChange fnExactRangeOfWrong)

/- THE SECOND FORM. 'bulk': how many values and letters a reading holds, each counted each time it is reached (what is shared counts as often as it is met; a slice's spare places count too). A statement '..UptoSaid' is the law's where the arguments, and the package variables that the reading takes, are together of bulk at most 1048576: NARROWER than '..Said'. Prove '..Said' where nothing that the law and all that it calls make is longer than what came in: it says more and counts as full. Else prove '..UptoSaid'. A law counts once. -/
mutual
def uptoBulk {H : Type} : DataW H → Nat
  | .lit (.string bytes) => bytes.length + 1
  | .lit _ => 1
  | .nil => 1
  | .ptr d => uptoBulk d + 1
  | .slice elems spare => uptoBulkAll elems + uptoBulkAll spare + 1
  | .agg parts => uptoBulkAll parts + 1
  | .iface _ d => uptoBulk d + 1
  | .map entries => uptoBulkEntries entries + 1
  | .held _ => 1
def uptoBulkAll {H : Type} : List (DataW H) → Nat
  | [] => 0
  | d :: r => uptoBulk d + uptoBulkAll r
def uptoBulkEntries {H : Type} : List (Lit × DataW H) → Nat
  | [] => 0
  | x :: r => uptoBulkEntry x + uptoBulkEntries r
def uptoBulkEntry {H : Type} : Lit × DataW H → Nat
  | (.string bytes, d) => bytes.length + uptoBulk d + 1
  | (_, d) => uptoBulk d + 1
 end
def uptoSmall : (H : Type) → List (DataW H) → Bool := fun _ ds => decide (uptoBulkAll ds ≤ 1048576)
def OpenSpec.upto (s : _root_.Go.ChangeSpec) : _root_.Go.OpenSpec := { _root_.Go.OpenSpec.ofChange s with cond := some uptoSmall }

/-- 'laws.FnExactClassOf', WHERE WHAT IT READS IS OF BULK AT MOST 1048576: true; the input reads as it did. -/
def fnExactClassOfUptoRow : OpenClaim := { program := "ythnihgnboelipabdoor", sum := "dddf2452a317445abf87ae17e1933891c32a5c6b7d7606e832b3848a688f6840", func := "loop.example/g01538/laws.FnExactClassOf", spec := "fnExactClassOf", named := ["loop.example/g01538/impl.slotSizes"], apart := false, laid := [("loop.example/g01538/impl.slotSizes", laid_loop_example_g01538_impl_slotSizes)], narrowed := true }
def FnExactClassOfUptoSaid : Prop := fnExactClassOfUptoRow.holds Tryd.pinned (OpenSpec.upto fnExactClassOfSpec)

/-- 'laws.FnExactStrideOf', WHERE WHAT IT READS IS OF BULK AT MOST 1048576: true; the input reads as it did. -/
def fnExactStrideOfUptoRow : OpenClaim := { program := "ythnihgnboelipabdoor", sum := "dddf2452a317445abf87ae17e1933891c32a5c6b7d7606e832b3848a688f6840", func := "loop.example/g01538/laws.FnExactStrideOf", spec := "fnExactStrideOf", named := ["loop.example/g01538/impl.slotSizes"], apart := false, laid := [("loop.example/g01538/impl.slotSizes", laid_loop_example_g01538_impl_slotSizes)], narrowed := true }
def FnExactStrideOfUptoSaid : Prop := fnExactStrideOfUptoRow.holds Tryd.pinned (OpenSpec.upto fnExactStrideOfSpec)

/-- 'laws.FnExactPerPage', WHERE WHAT IT READS IS OF BULK AT MOST 1048576: true; the input reads as it did. -/
def fnExactPerPageUptoRow : OpenClaim := { program := "ythnihgnboelipabdoor", sum := "dddf2452a317445abf87ae17e1933891c32a5c6b7d7606e832b3848a688f6840", func := "loop.example/g01538/laws.FnExactPerPage", spec := "fnExactPerPage", named := ["loop.example/g01538/impl.slotSizes"], apart := false, laid := [("loop.example/g01538/impl.slotSizes", laid_loop_example_g01538_impl_slotSizes)], narrowed := true }
def FnExactPerPageUptoSaid : Prop := fnExactPerPageUptoRow.holds Tryd.pinned (OpenSpec.upto fnExactPerPageSpec)

/-- 'laws.FnExactWaste', WHERE WHAT IT READS IS OF BULK AT MOST 1048576: true; the input reads as it did. -/
def fnExactWasteUptoRow : OpenClaim := { program := "ythnihgnboelipabdoor", sum := "dddf2452a317445abf87ae17e1933891c32a5c6b7d7606e832b3848a688f6840", func := "loop.example/g01538/laws.FnExactWaste", spec := "fnExactWaste", named := ["loop.example/g01538/impl.slotSizes"], apart := false, laid := [("loop.example/g01538/impl.slotSizes", laid_loop_example_g01538_impl_slotSizes)], narrowed := true }
def FnExactWasteUptoSaid : Prop := fnExactWasteUptoRow.holds Tryd.pinned (OpenSpec.upto fnExactWasteSpec)

/-- 'laws.FnSpots', WHERE WHAT IT READS IS OF BULK AT MOST 1048576: true; the input reads as it did. -/
def fnSpotsUptoRow : OpenClaim := { program := "ythnihgnboelipabdoor", sum := "dddf2452a317445abf87ae17e1933891c32a5c6b7d7606e832b3848a688f6840", func := "loop.example/g01538/laws.FnSpots", spec := "fnSpots", named := ["loop.example/g01538/impl.slotSizes"], apart := false, laid := [("loop.example/g01538/impl.slotSizes", laid_loop_example_g01538_impl_slotSizes)], narrowed := true }
def FnSpotsUptoSaid : Prop := fnSpotsUptoRow.holds Tryd.pinned (OpenSpec.upto fnSpotsSpec)

/-- 'laws.FnExactGenAt', WHERE WHAT IT READS IS OF BULK AT MOST 1048576: true; the input reads as it did. -/
def fnExactGenAtUptoRow : OpenClaim := { program := "ythnihgnboelipabdoor", sum := "dddf2452a317445abf87ae17e1933891c32a5c6b7d7606e832b3848a688f6840", func := "loop.example/g01538/laws.FnExactGenAt", spec := "fnExactGenAt", named := ["loop.example/g01538/impl.slotSizes"], apart := false, laid := [("loop.example/g01538/impl.slotSizes", laid_loop_example_g01538_impl_slotSizes)], narrowed := true }
def FnExactGenAtUptoSaid : Prop := fnExactGenAtUptoRow.holds Tryd.pinned (OpenSpec.upto fnExactGenAtSpec)

/-- 'laws.FnExactStartOf', WHERE WHAT IT READS IS OF BULK AT MOST 1048576: true; the input reads as it did. -/
def fnExactStartOfUptoRow : OpenClaim := { program := "ythnihgnboelipabdoor", sum := "dddf2452a317445abf87ae17e1933891c32a5c6b7d7606e832b3848a688f6840", func := "loop.example/g01538/laws.FnExactStartOf", spec := "fnExactStartOf", named := ["loop.example/g01538/impl.slotSizes"], apart := false, laid := [("loop.example/g01538/impl.slotSizes", laid_loop_example_g01538_impl_slotSizes)], narrowed := true }
def FnExactStartOfUptoSaid : Prop := fnExactStartOfUptoRow.holds Tryd.pinned (OpenSpec.upto fnExactStartOfSpec)

/-- 'laws.FnExactRangeOf', WHERE WHAT IT READS IS OF BULK AT MOST 1048576: true; the input reads as it did. -/
def fnExactRangeOfUptoRow : OpenClaim := { program := "ythnihgnboelipabdoor", sum := "dddf2452a317445abf87ae17e1933891c32a5c6b7d7606e832b3848a688f6840", func := "loop.example/g01538/laws.FnExactRangeOf", spec := "fnExactRangeOf", named := ["loop.example/g01538/impl.slotSizes"], apart := false, laid := [("loop.example/g01538/impl.slotSizes", laid_loop_example_g01538_impl_slotSizes)], narrowed := true }
def FnExactRangeOfUptoSaid : Prop := fnExactRangeOfUptoRow.holds Tryd.pinned (OpenSpec.upto fnExactRangeOfSpec)

end Rows
end Go.Proofs.YthnihgnboelipabDoor
