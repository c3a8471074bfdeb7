/- For every heap of at most 1048576 numbers the two HeapOk answer alike and leave it as it was, so the law returns true (the table of slot sizes reads as the program lays it); of a larger one it returns true at once. -/
import Derived.Test.YtbfkdbbgbdihdabDoorRows
import Derived.WalkKit
import Derived.ProofKit
import Derived.OpenShut
import Derived.ShutString
import Derived.ChangeOld
import Derived.Below
import Derived.ChangeArms
import Derived.Test.YtbfkdbbgbdihdabDoorFrame
import Derived.Test.YtbfkdbbgbdihdabDoorTie
import Derived.Test.YtbfkdbbgbdihdabDoorCards
import Derived.LaidMore
import Derived.Lay
import Derived.SevenTiedAt
import Derived.Stop.Joined
import Derived.OpenVars
import Derived.Test.YtbfkdbbgbdihdabDoorTL
import Derived.Test.YtbfkdbbgbdihdabDoorHK
namespace Go.Proofs.YtbfkdbbgbdihdabDoor.fnExactHeapOk
open Go.Proofs.YtbfkdbbgbdihdabDoor Go.Tr
open Go.ChangeShapes Go.WideShapes Go.ChangeAt Go.RowKit
set_option linter.unusedVariables false
set_option linter.unusedSimpArgs false

set_option maxRecDepth 100000 in
set_option maxHeartbeats 4000000 in
theorem law_run (e0x n0x : Nat) (row0x : Nat → Nat → C) (hn0x : n0x ≤ 9223372036854775807) (h0x : ∀ i r d, i < n0x → ([.i] : List Dt)[r]? = some d → DtOk d (row0x i r)) (e0y n0y : Nat) (row0y : Nat → Nat → C) (hn0y : n0y ≤ 9223372036854775807) (h0y : ∀ i r d, i < n0y → ([.i] : List Dt)[r]? = some d → DtOk d (row0y i r)) :
    RunP Tryd.prog hT 3 [.agg [.c (.sl .fro e0x 1 n0x row0x), .c (.sl .fro e0y 1 n0y row0y)]] [] fun outs ext => outs = [.one (.lit (.bool true))] ∧ ext = [] := by
  obtain ⟨b, lb, pb, sb⟩ := ints_of (e := e0x) hn0x h0x
  obtain ⟨c, lc, pc, sc⟩ := ints_of (e := e0y) hn0y h0y
  have h := HeapOk_law b c (by omega) (by omega)
  exact RunP.args (by exact ⟨⟨sb, sc, trivial⟩, trivial⟩) h.run

set_option maxRecDepth 100000 in
theorem dsOk0 : TyDs Tryd.prog 24 [.sl [.i], .sl [.i]] := (TyDs.struct Tryd.underlying24 (FsDs.cons (TyDs.slice Tryd.underlying22 (TyDs.int Tryd.underlying3) (by kernel_rfl) (by decide)) rfl (by kernel_rfl) (FsDs.cons (TyDs.slice Tryd.underlying22 (TyDs.int Tryd.underlying3) (by kernel_rfl) (by decide)) rfl (by kernel_rfl) FsDs.nil)) (by kernel_rfl))
theorem door_met (os : Os) (args : Array Value) : laidMetH Tryd.prog Rows.fnExactHeapOkRow.laid ((World.doorLaid Tryd.prog 400 os).forCall (fun _ _ => 0) ⟨#[], args, []⟩).memory :=
  laidMetH_of_parts3 (fuel := 8) (laidMet_of_run' 8 (by kernel_rfl) (by kernel_rfl)) (by kernel_rfl) (by kernel_rfl)

set_option maxRecDepth 100000 in
theorem lifted (os : Os) (started : os.Started) (H : Type) (enc : TypeId × Value → H) :
    ReturnsInHanded {} Tryd.checked os 3 .any (fun w args => (Rows.fnExactHeapOkSpec.pre enc Tryd.prog Tryd.f3 [] false w args ∧ laidMetH Tryd.prog Rows.fnExactHeapOkRow.laid w) ∧ sizedMet enc Tryd.prog Tryd.f3 (OpenSpec.ofChange Rows.fnExactHeapOkSpec) false w args) (Rows.fnExactHeapOkSpec.post enc Tryd.prog Tryd.f3 false true false false) := by
  refine returnsInHanded_of_change_and (C := Tryd.checked) (X := fun w _ => laidMetH Tryd.prog Rows.fnExactHeapOkRow.laid w) (fun _ _ _ hh h => h.of_heap hh) own started (by kernel_rfl) Tryd.func3
    (ChangeSpec.witness_shaped (enc := enc) (C := Tryd.checked) (os := os) (X := fun w _ => laidMetH Tryd.prog Rows.fnExactHeapOkRow.laid w) false (World.doorLaid Tryd.prog 400 os) #[.agg #[.slice none 0 0, .slice none 0 0]] 8 rfl (World.shaped_of_RefB (by kernel_rfl) (by kernel_rfl)) (by kernel_rfl) (by kernel_rfl) (by kernel_rfl) (door_met os _)) ?_
  intro W base args ds gs before hval0 hW hcnd _ hL _
  have hval : ∀ (j : Nat) t v, Tryd.f3.params[j]? = some t → args[j]? = some v → Value.okWide Tryd.prog W .any base t v := hval0
  have hW' := hW
  obtain ⟨p, q, hA0, hV, rfl, hfz, hnd⟩ := hW
  have hA : DataW.TrodAll enc Tryd.prog W 0 (fun _ => true) true Tryd.f3.params.toList args.toList ds p := hA0
  rw [Tryd.params3] at hA hval
  obtain ⟨v0, vs0, d0, ds0, p0, q0, hargs, rfl, rfl, h0, r0⟩ := trodAll_cons hA
  obtain ⟨rfl, rfl, rfl⟩ := trodAll_nil r0
  obtain rfl : args = #[v0] := by cases args; simp_all
  obtain ⟨gv0, rfl⟩ : ∃ gv0, gs = [gv0] := by
    match gs, vars_len hV with
    | [gv0], _ => exact ⟨gv0, rfl⟩
  have k0 := h0
  have lt0 : ∀ x ∈ p0, x.block < W.heap.size := by obtain ⟨m, hm⟩ := k0; exact DataW.trod_lt m _ _ _ hm
  have tr0 := arg_tree h0 dsOk0
  obtain ⟨cs0, rfl, sz0⟩ := okWide_struct Tryd.underlying24 (hval 0 24 v0 rfl rfl)
  obtain ⟨u0x, c0x, ce0x, ok0x, cr0x⟩ := tr0 0 _ rfl
  obtain ⟨e0x, n0x, row0x, rfl, hn0x, h0x⟩ := ok0x.slice
  obtain ⟨u0y, c0y, ce0y, ok0y, cr0y⟩ := tr0 1 _ rfl
  obtain ⟨e0y, n0y, row0y, rfl, hn0y, h0y⟩ := ok0y.slice
  clear hA0 hval0
  have hw := RunP.law (W := W) (cargs := #[.agg cs0]) (law_run e0x n0x row0x hn0x h0x e0y n0y row0y hn0y h0y) (hT_of (tab_of_laid hL)) rfl (fun i x hx => by
    rcases i with _ | i
    · injection hx with hx; subst hx; exact ⟨_, rfl, ag_agg (W := W) (l := [.sl .fro e0x 1 n0x row0x, .sl .fro e0y 1 n0y row0y]) (by rw [sz0]; kernel_rfl) (fun j c hj => by
      rcases j with _ | _ | j
      · injection hj with hj; subst hj; exact ⟨_, ce0x, cr0x⟩
      · injection hj with hj; subst hj; exact ⟨_, ce0y, cr0y⟩
      · simp at hj)⟩
    · simp at hx)
  refine hw.mono fun e W' ⟨he, bel⟩ => ?_
  subst he
  exact ⟨_, rfl, _, _, _, [], _, _, hW', trodAll_mk1 (shut_bool Tryd.underlying4 _), (trodAll_cons_mk (Below.trod laidOut (by kernel_rfl) (of_decide_eq_true (by kernel_rfl)) k0 bel lt0) trodAll_mk0), Below.trodVars laidOut bel (by kernel_rfl) hV, bel.frame _, fun h => by cases h⟩

theorem over : Rows.fnExactHeapOkRow.holds Tryd.pinned (OpenSpec.ofChange Rows.fnExactHeapOkSpec) :=
  OpenClaim.holds_of_wide 3 Tryd.f3 rfl rfl rfl rfl rfl rfl rfl ⟨rfl, rfl, rfl, rfl, rfl⟩ rfl rfl rfl rfl rfl (by kernel_rfl) Tryd.func3 (by kernel_rfl)
    (of_decide_eq_true (by kernel_rfl)) (by unfold Func.isWrapper; first | (rw [if_pos (by decide +kernel)]; kernel_rfl) | (rw [if_neg (by decide +kernel)]; exact ⟨rfl, rfl⟩))
    (fun os started H enc _ => lifted os started H enc)

theorem proved : Rows.FnExactHeapOkCardSaid :=
  Claim7.holds_tied_plain_at .later [] [.data] true (true, "8927ecece521812bac76983b11f9c5c91fd5aacad30b29123e2597d38731ccda") false over (fun _ h => by cases h) (by kernel_rfl) (fun _ h => by cases h) fnExactHeapOk_row_tie rfl ⟨rfl, rfl⟩ (by kernel_rfl) rfl
    (fun f fn hf hfn => by
      obtain rfl : f = 3 := Option.some.inj ((show Tryd.prog.funcNamed "loop.example/g01538/laws.FnExactHeapOk" = some 3 by kernel_rfl).symm.trans hf) |>.symm
      obtain rfl : fn = Tryd.f3 := (Option.some.inj (Tryd.func3.symm.trans hfn)).symm
      exact ⟨by kernel_rfl, fun j t ht => by
        rw [Tryd.params3] at ht
        have hm : t ∈ [24] := by simpa using Array.mem_of_getElem? ht
        have hall : ([24].all fun u => !Tryd.prog.wantsStandIn u) = true := by kernel_rfl
        exact (show Tryd.prog.wantsStandIn t = false by simpa using List.all_eq_true.1 hall t hm)⟩)
    (by kernel_rfl)
end Go.Proofs.YtbfkdbbgbdihdabDoor.fnExactHeapOk
