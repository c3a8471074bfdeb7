/- The two MapPut answer alike on the same arguments, write into none of them and own what they answer, so the law returns true; where the arguments are beyond the law's size it returns true at once. -/
import Derived.Test.YthfcpaplnifhiaaRows
import Derived.WalkKit
import Derived.ProofKit
import Derived.OpenShut
import Derived.ShutString
import Derived.ChangeOld
import Derived.Below
import Derived.ChangeArms
import Derived.Test.YthfcpaplnifhiaaFrame
import Derived.Test.YthfcpaplnifhiaaZWQMp
namespace Go.Proofs.Ythfcpaplnifhiaa.fnExactMapPut
open Go.Proofs.Ythfcpaplnifhiaa Go.Tr
open Go.ChangeShapes Go.WideShapes Go.ChangeAt Go.RowKit
set_option linter.unusedVariables false
set_option linter.unusedSimpArgs false

set_option maxRecDepth 100000 in
set_option maxHeartbeats 4000000 in
theorem law_run (e0 n0 : Nat) (row0 : Nat → Nat → C) (hn0 : n0 ≤ 9223372036854775807) (h0 : ∀ i r d, i < n0 → ([.i, .i] : List Dt)[r]? = some d → DtOk d (row0 i r)) (a1 : Int) (w1 : -9223372036854775808 ≤ a1 ∧ a1 ≤ 9223372036854775807) (a2 : Int) (w2 : -9223372036854775808 ≤ a2 ∧ a2 ≤ 9223372036854775807) :
    Run Try.prog 3 [.one (.c (.sl .fro e0 2 n0 row0)), .one (.c (.lit (.int .i64 a1))), .one (.c (.lit (.int .i64 a2)))] [] fun outs ext => outs = [.one (.lit (.bool true))] ∧ ext = [] := by
  obtain ⟨g0, lg0, pg0, sg0⟩ := KVs_of (e := e0) (e' := 0) hn0 h0
  have h := MapPut_law g0 a1 a2 (by omega)
  exact Run.args (by exact ⟨sg0, rfl, rfl, trivial⟩) h.run

set_option maxRecDepth 100000 in
theorem dsOk0 : TyDs Try.prog 22 [.sl [.i, .i]] := (TyDs.slice Try.underlying22 (TyDs.struct Try.underlying122 (FsDs.cons (TyDs.int Try.underlying3) rfl (by kernel_rfl) (FsDs.cons (TyDs.int Try.underlying3) rfl (by kernel_rfl) FsDs.nil)) (by kernel_rfl)) (by kernel_rfl) (by decide))
set_option maxRecDepth 100000 in
theorem lifted (os : Os) (started : os.Started) (H : Type) (enc : TypeId × Value → H) :
    ReturnsInHanded {} Try.checked os 3 .any (Rows.fnExactMapPutSpec.pre6 enc Try.prog Try.f3 Rows.fnExactMapPutRow.domain false) (Rows.fnExactMapPutSpec.post enc Try.prog Try.f3 false true false false) := by
  refine returnsInHanded_of_change (C := Try.checked) own started (by kernel_rfl) Try.func3
    (ChangeSpec.witness6 (enc := enc) (C := Try.checked) false ⟨#[], #[.slice none 0 0, .int .i64 0, .int .i64 0], []⟩ 8 (by kernel_rfl) (by kernel_rfl) (by kernel_rfl) (by kernel_rfl)) ?_
  intro W base args ds gs before hval0 hW hcnd _
  have hval : ∀ (j : Nat) t v, Try.f3.params[j]? = some t → args[j]? = some v → Value.okWide Try.prog W .any base t v := hval0
  have hW' := hW
  obtain ⟨p, q, hA0, hV, rfl, hfz, hnd⟩ := hW
  have hA : DataW.TrodAll enc Try.prog W 0 (fun _ => true) true Try.f3.params.toList args.toList ds p := hA0
  rw [Try.params3] at hA hval
  obtain ⟨v0, vs0, d0, ds0, p0, q0, hargs, rfl, rfl, h0, r0⟩ := trodAll_cons hA
  obtain ⟨v1, vs1, d1, ds1, p1, q1, rfl, rfl, rfl, h1, r1⟩ := trodAll_cons r0
  obtain ⟨v2, vs2, d2, ds2, p2, q2, rfl, rfl, rfl, h2, r2⟩ := trodAll_cons r1
  obtain ⟨rfl, rfl, rfl⟩ := trodAll_nil r2
  obtain rfl : args = #[v0, v1, v2] := by cases args; simp_all
  obtain ⟨rfl, rfl⟩ := trodVars_none hV
  have k0 := h0
  have lt0 : ∀ x ∈ p0, x.block < W.heap.size := by obtain ⟨m, hm⟩ := k0; exact DataW.trod_lt m _ _ _ hm
  have tr0 := arg_tree h0 dsOk0
  obtain ⟨A0, len0, cap0, rfl⟩ := okWide_slice Try.underlying22 (hval 0 22 v0 rfl rfl)
  obtain ⟨u0, c0, ce0, ok0, cr0⟩ := tr0 0 _ rfl
  obtain ⟨e0, n0, row0, rfl, hn0, h0⟩ := ok0.slice
  obtain ⟨a1, rfl, rfl, rfl, u1⟩ := open_int Try.underlying3 (hval 1 3 v1 rfl rfl) h1
  have w1 := wf_in u1
  obtain ⟨a2, rfl, rfl, rfl, u2⟩ := open_int Try.underlying3 (hval 2 3 v2 rfl rfl) h2
  have w2 := wf_in u2
  clear hA0 hval0
  have hw := Run.law (W := W) (cargs := #[.slice A0 len0 cap0, .int .i64 a1, .int .i64 a2]) (law_run e0 n0 row0 hn0 h0 a1 w1 a2 w2) rfl (fun i x hx => by
    rcases i with _ | _ | _ | i
    · injection hx with hx; subst hx; exact ⟨_, rfl, (by have e := Option.some.inj ce0; rw [show (Value.slice A0 len0 cap0) = u0 from e]; exact TreeAt.aa ⟨.sl hn0 h0, cr0⟩ (fun _ => ⟨none, 0⟩) 0 0)⟩
    · injection hx with hx; subst hx; exact ⟨_, rfl, ⟨rfl, rfl⟩⟩
    · injection hx with hx; subst hx; exact ⟨_, rfl, ⟨rfl, rfl⟩⟩
    · simp at hx)
  refine hw.mono fun e W' ⟨he, bel⟩ => ?_
  subst he
  exact ⟨_, rfl, _, _, _, [], _, [], hW', trodAll_mk1 (shut_bool Try.underlying4 _), (trodAll_cons_mk (Below.trod laidOut (by kernel_rfl) (of_decide_eq_true (by kernel_rfl)) k0 bel lt0) (trodAll_cons_mk (shut_int Try.underlying3 u1) (trodAll_cons_mk (shut_int Try.underlying3 u2) trodAll_mk0))), rfl, bel.frame _, fun h => by cases h⟩

theorem over : Rows.fnExactMapPutRow.holds Try.pinned (OpenSpec.ofChange Rows.fnExactMapPutSpec) :=
  OpenClaim.holds_of_wide 3 Try.f3 rfl rfl rfl rfl rfl rfl rfl ⟨rfl, rfl, rfl, rfl, rfl⟩ rfl rfl rfl rfl rfl (by kernel_rfl) Try.func3 (by kernel_rfl)
    (of_decide_eq_true (by kernel_rfl)) (by unfold Func.isWrapper; first | (rw [if_pos (by decide +kernel)]; kernel_rfl) | (rw [if_neg (by decide +kernel)]; exact ⟨rfl, rfl⟩))
    (fun os started H enc _ => lifted os started H enc)

theorem proved : Rows.FnExactMapPutSaid := over
end Go.Proofs.Ythfcpaplnifhiaa.fnExactMapPut
