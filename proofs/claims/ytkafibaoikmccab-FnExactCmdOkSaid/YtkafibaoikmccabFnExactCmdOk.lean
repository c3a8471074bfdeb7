/- The two CmdOk answer alike on every command, so the law returns true. -/
import Derived.Test.YtkafibaoikmccabRows
import Derived.WalkKit
import Derived.ProofKit
import Derived.OpenShut
import Derived.ShutString
import Derived.ChangeOld
import Derived.Below
import Derived.ChangeArms
import Derived.Test.YtkafibaoikmccabFrame
import Derived.Test.YtkafibaoikmccabWCm
namespace Go.Proofs.Ytkafibaoikmccab.fnExactCmdOk
open Go.Proofs.Ytkafibaoikmccab Go.Tr
open Go.ChangeShapes Go.WideShapes Go.ChangeAt Go.RowKit
set_option linter.unusedVariables false
set_option linter.unusedSimpArgs false

set_option maxRecDepth 100000 in
set_option maxHeartbeats 4000000 in
theorem law_run (a0x : Int) (w0x : -9223372036854775808 ≤ a0x ∧ a0x ≤ 9223372036854775807) (a0y : Int) (w0y : -9223372036854775808 ≤ a0y ∧ a0y ≤ 9223372036854775807) (a0z : Int) (w0z : -9223372036854775808 ≤ a0z ∧ a0z ≤ 9223372036854775807) :
    Run Try.prog 3 [.agg [.c (.lit (.int .i64 a0x)), .c (.lit (.int .i64 a0y)), .c (.lit (.int .i64 a0z))]] [] fun outs ext => outs = [.one (.lit (.bool true))] ∧ ext = [] := by
  exact (CmdOk_law (a0x, a0y, a0z)).run

set_option maxRecDepth 100000 in
theorem dsOk0 : TyDs Try.prog 23 [.i, .i, .i] := (TyDs.struct Try.underlying23 (FsDs.cons (TyDs.int Try.underlying3) rfl (by kernel_rfl) (FsDs.cons (TyDs.int Try.underlying3) rfl (by kernel_rfl) (FsDs.cons (TyDs.int Try.underlying3) rfl (by kernel_rfl) FsDs.nil))) (by kernel_rfl))
set_option maxRecDepth 100000 in
theorem lifted (os : Os) (started : os.Started) (H : Type) (enc : TypeId × Value → H) :
    ReturnsInHanded {} Try.checked os 3 .any (Rows.fnExactCmdOkSpec.pre6 enc Try.prog Try.f3 Rows.fnExactCmdOkRow.domain false) (Rows.fnExactCmdOkSpec.post enc Try.prog Try.f3 false true false false) := by
  refine returnsInHanded_of_change (C := Try.checked) own started (by kernel_rfl) Try.func3
    (ChangeSpec.witness6 (enc := enc) (C := Try.checked) false ⟨#[], #[.agg #[.int .i64 0, .int .i64 0, .int .i64 0]], []⟩ 8 (by kernel_rfl) (by kernel_rfl) (by kernel_rfl) (by kernel_rfl)) ?_
  intro W base args ds gs before hval0 hW hcnd _
  have hval : ∀ (j : Nat) t v, Try.f3.params[j]? = some t → args[j]? = some v → Value.okWide Try.prog W .any base t v := hval0
  have hW' := hW
  obtain ⟨p, q, hA0, hV, rfl, hfz, hnd⟩ := hW
  have hA : DataW.TrodAll enc Try.prog W 0 (fun _ => true) true Try.f3.params.toList args.toList ds p := hA0
  rw [Try.params3] at hA hval
  obtain ⟨v0, vs0, d0, ds0, p0, q0, hargs, rfl, rfl, h0, r0⟩ := trodAll_cons hA
  obtain ⟨rfl, rfl, rfl⟩ := trodAll_nil r0
  obtain rfl : args = #[v0] := by cases args; simp_all
  obtain ⟨rfl, rfl⟩ := trodVars_none hV
  have k0 := h0
  have lt0 : ∀ x ∈ p0, x.block < W.heap.size := by obtain ⟨m, hm⟩ := k0; exact DataW.trod_lt m _ _ _ hm
  have tr0 := arg_tree h0 dsOk0
  obtain ⟨cs0, rfl, sz0⟩ := okWide_struct Try.underlying23 (hval 0 23 v0 rfl rfl)
  obtain ⟨u0x, c0x, ce0x, ok0x, cr0x⟩ := tr0 0 _ rfl
  obtain ⟨a0x, rfl, w0x⟩ := ok0x.int
  obtain ⟨u0y, c0y, ce0y, ok0y, cr0y⟩ := tr0 1 _ rfl
  obtain ⟨a0y, rfl, w0y⟩ := ok0y.int
  obtain ⟨u0z, c0z, ce0z, ok0z, cr0z⟩ := tr0 2 _ rfl
  obtain ⟨a0z, rfl, w0z⟩ := ok0z.int
  clear hA0 hval0
  have hw := Run.law (W := W) (cargs := #[.agg cs0]) (law_run a0x w0x a0y w0y a0z w0z) rfl (fun i x hx => by
    rcases i with _ | i
    · injection hx with hx; subst hx; exact ⟨_, rfl, ag_agg (W := W) (l := [.lit (.int .i64 a0x), .lit (.int .i64 a0y), .lit (.int .i64 a0z)]) (by rw [sz0]; kernel_rfl) (fun j c hj => by
      rcases j with _ | _ | _ | j
      · injection hj with hj; subst hj; exact ⟨_, ce0x, cr0x⟩
      · injection hj with hj; subst hj; exact ⟨_, ce0y, cr0y⟩
      · injection hj with hj; subst hj; exact ⟨_, ce0z, cr0z⟩
      · simp at hj)⟩
    · simp at hx)
  refine hw.mono fun e W' ⟨he, bel⟩ => ?_
  subst he
  exact ⟨_, rfl, _, _, _, [], _, [], hW', trodAll_mk1 (shut_bool Try.underlying4 _), (trodAll_cons_mk (Below.trod laidOut (by kernel_rfl) (of_decide_eq_true (by kernel_rfl)) k0 bel lt0) trodAll_mk0), rfl, bel.frame _, fun h => by cases h⟩

theorem over : Rows.fnExactCmdOkRow.holds Try.pinned (OpenSpec.ofChange Rows.fnExactCmdOkSpec) :=
  OpenClaim.holds_of_wide 3 Try.f3 rfl rfl rfl rfl rfl rfl rfl ⟨rfl, rfl, rfl, rfl, rfl⟩ rfl rfl rfl rfl rfl (by kernel_rfl) Try.func3 (by kernel_rfl)
    (of_decide_eq_true (by kernel_rfl)) (by unfold Func.isWrapper; first | (rw [if_pos (by decide +kernel)]; kernel_rfl) | (rw [if_neg (by decide +kernel)]; exact ⟨rfl, rfl⟩))
    (fun os started H enc _ => lifted os started H enc)

theorem proved : Rows.FnExactCmdOkSaid := over
end Go.Proofs.Ytkafibaoikmccab.fnExactCmdOk
