/- The two OpOk answer alike on every operation, so the law returns true. -/
import Derived.Test.YtkafibaoikmccaaRows
import Derived.WalkKit
import Derived.ProofKit
import Derived.OpenShut
import Derived.ShutString
import Derived.ChangeOld
import Derived.Below
import Derived.ChangeArms
import Derived.Test.YtkafibaoikmccaaFrame
import Derived.Test.YtkafibaoikmccaaWOk
namespace Go.Proofs.Ytkafibaoikmccaa.fnExactOpOk
open Go.Proofs.Ytkafibaoikmccaa Go.Tr
open Go.ChangeShapes Go.WideShapes Go.ChangeAt Go.RowKit
set_option linter.unusedVariables false
set_option linter.unusedSimpArgs false

set_option maxRecDepth 100000 in
set_option maxHeartbeats 4000000 in
theorem law_run (a0x : Int) (w0x : -9223372036854775808 ≤ a0x ∧ a0x ≤ 9223372036854775807) (a0y : Int) (w0y : -9223372036854775808 ≤ a0y ∧ a0y ≤ 9223372036854775807) (a0z : Int) (w0z : -9223372036854775808 ≤ a0z ∧ a0z ≤ 9223372036854775807) (a0u : Int) (w0u : -9223372036854775808 ≤ a0u ∧ a0u ≤ 9223372036854775807) :
    Run Try.prog 7 [.agg [.c (.lit (.int .i64 a0x)), .c (.lit (.int .i64 a0y)), .c (.lit (.int .i64 a0z)), .c (.lit (.int .i64 a0u))]] [] fun outs ext => outs = [.one (.lit (.bool true))] ∧ ext = [] := by
  exact (OpOk_law (a0x, a0y, a0z, a0u)).run

set_option maxRecDepth 100000 in
theorem dsOk0 : TyDs Try.prog 38 [.i, .i, .i, .i] := (TyDs.struct Try.underlying38 (FsDs.cons (TyDs.int Try.underlying3) rfl (by kernel_rfl) (FsDs.cons (TyDs.int Try.underlying3) rfl (by kernel_rfl) (FsDs.cons (TyDs.int Try.underlying3) rfl (by kernel_rfl) (FsDs.cons (TyDs.int Try.underlying3) rfl (by kernel_rfl) FsDs.nil)))) (by kernel_rfl))
set_option maxRecDepth 100000 in
theorem lifted (os : Os) (started : os.Started) (H : Type) (enc : TypeId × Value → H) :
    ReturnsInHanded {} Try.checked os 7 .any (Rows.fnExactOpOkSpec.pre6 enc Try.prog Try.f7 Rows.fnExactOpOkRow.domain false) (Rows.fnExactOpOkSpec.post enc Try.prog Try.f7 false true false false) := by
  refine returnsInHanded_of_change (C := Try.checked) own started (by kernel_rfl) Try.func7
    (ChangeSpec.witness6 (enc := enc) (C := Try.checked) false ⟨#[], #[.agg #[.int .i64 0, .int .i64 0, .int .i64 0, .int .i64 0]], []⟩ 8 (by kernel_rfl) (by kernel_rfl) (by kernel_rfl) (by kernel_rfl)) ?_
  intro W base args ds gs before hval0 hW hcnd _
  have hval : ∀ (j : Nat) t v, Try.f7.params[j]? = some t → args[j]? = some v → Value.okWide Try.prog W .any base t v := hval0
  have hW' := hW
  obtain ⟨p, q, hA0, hV, rfl, hfz, hnd⟩ := hW
  have hA : DataW.TrodAll enc Try.prog W 0 (fun _ => true) true Try.f7.params.toList args.toList ds p := hA0
  rw [Try.params7] at hA hval
  obtain ⟨v0, vs0, d0, ds0, p0, q0, hargs, rfl, rfl, h0, r0⟩ := trodAll_cons hA
  obtain ⟨rfl, rfl, rfl⟩ := trodAll_nil r0
  obtain rfl : args = #[v0] := by cases args; simp_all
  obtain ⟨rfl, rfl⟩ := trodVars_none hV
  have k0 := h0
  have lt0 : ∀ x ∈ p0, x.block < W.heap.size := by obtain ⟨m, hm⟩ := k0; exact DataW.trod_lt m _ _ _ hm
  have tr0 := arg_tree h0 dsOk0
  obtain ⟨cs0, rfl, sz0⟩ := okWide_struct Try.underlying38 (hval 0 38 v0 rfl rfl)
  obtain ⟨u0x, c0x, ce0x, ok0x, cr0x⟩ := tr0 0 _ rfl
  obtain ⟨a0x, rfl, w0x⟩ := ok0x.int
  obtain ⟨u0y, c0y, ce0y, ok0y, cr0y⟩ := tr0 1 _ rfl
  obtain ⟨a0y, rfl, w0y⟩ := ok0y.int
  obtain ⟨u0z, c0z, ce0z, ok0z, cr0z⟩ := tr0 2 _ rfl
  obtain ⟨a0z, rfl, w0z⟩ := ok0z.int
  obtain ⟨u0u, c0u, ce0u, ok0u, cr0u⟩ := tr0 3 _ rfl
  obtain ⟨a0u, rfl, w0u⟩ := ok0u.int
  clear hA0 hval0
  have hw := Run.law (W := W) (cargs := #[.agg cs0]) (law_run a0x w0x a0y w0y a0z w0z a0u w0u) rfl (fun i x hx => by
    rcases i with _ | i
    · injection hx with hx; subst hx; exact ⟨_, rfl, ag_agg (W := W) (l := [.lit (.int .i64 a0x), .lit (.int .i64 a0y), .lit (.int .i64 a0z), .lit (.int .i64 a0u)]) (by rw [sz0]; kernel_rfl) (fun j c hj => by
      rcases j with _ | _ | _ | _ | j
      · injection hj with hj; subst hj; exact ⟨_, ce0x, cr0x⟩
      · injection hj with hj; subst hj; exact ⟨_, ce0y, cr0y⟩
      · injection hj with hj; subst hj; exact ⟨_, ce0z, cr0z⟩
      · injection hj with hj; subst hj; exact ⟨_, ce0u, cr0u⟩
      · simp at hj)⟩
    · simp at hx)
  refine hw.mono fun e W' ⟨he, bel⟩ => ?_
  subst he
  exact ⟨_, rfl, _, _, _, [], _, [], hW', trodAll_mk1 (shut_bool Try.underlying4 _), (trodAll_cons_mk (Below.trod laidOut (by kernel_rfl) (of_decide_eq_true (by kernel_rfl)) k0 bel lt0) trodAll_mk0), rfl, bel.frame _, fun h => by cases h⟩

theorem over : Rows.fnExactOpOkRow.holds Try.pinned (OpenSpec.ofChange Rows.fnExactOpOkSpec) :=
  OpenClaim.holds_of_wide 7 Try.f7 rfl rfl rfl rfl rfl rfl rfl ⟨rfl, rfl, rfl, rfl, rfl⟩ rfl rfl rfl rfl rfl (by kernel_rfl) Try.func7 (by kernel_rfl)
    (of_decide_eq_true (by kernel_rfl)) (by unfold Func.isWrapper; first | (rw [if_pos (by decide +kernel)]; kernel_rfl) | (rw [if_neg (by decide +kernel)]; exact ⟨rfl, rfl⟩))
    (fun os started H enc _ => lifted os started H enc)

theorem proved : Rows.FnExactOpOkSaid := over
end Go.Proofs.Ytkafibaoikmccaa.fnExactOpOk
