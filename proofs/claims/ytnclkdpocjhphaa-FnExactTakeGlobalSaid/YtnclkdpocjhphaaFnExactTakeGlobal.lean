/- For all lists of bounded size and all classes the two TakeGlobal give the same lists, in fresh blocks, and the same slot, and leave the lists as they were, so the law returns true; of larger ones it returns true at once. -/
import Derived.Test.YtnclkdpocjhphaaRows
import Derived.WalkKit
import Derived.ProofKit
import Derived.OpenShut
import Derived.ShutString
import Derived.ChangeOld
import Derived.Below
import Derived.ChangeArms
import Derived.Test.YtnclkdpocjhphaaFrame
import Derived.Test.YtnclkdpocjhphaaZNW4
namespace Go.Proofs.Ytnclkdpocjhphaa.fnExactTakeGlobal
open Go.Proofs.Ytnclkdpocjhphaa Go.Tr
open Go.ChangeShapes Go.WideShapes Go.ChangeAt Go.RowKit
set_option linter.unusedVariables false
set_option linter.unusedSimpArgs false

set_option maxRecDepth 100000 in
set_option maxHeartbeats 4000000 in
theorem law_run (e0x n0x : Nat) (row0x : Nat → Nat → C) (hn0x : n0x ≤ 9223372036854775807) (h0x : ∀ i r d, i < n0x → ([.sl [.i]] : List Dt)[r]? = some d → DtOk d (row0x i r)) (e0y n0y : Nat) (row0y : Nat → Nat → C) (hn0y : n0y ≤ 9223372036854775807) (h0y : ∀ i r d, i < n0y → ([.sl [.i]] : List Dt)[r]? = some d → DtOk d (row0y i r)) (a1 : Int) (w1 : -9223372036854775808 ≤ a1 ∧ a1 ≤ 9223372036854775807) :
    Run Try.prog 4 [.agg [.c (.sl .fro e0x 1 n0x row0x), .c (.sl .fro e0y 1 n0y row0y)], .one (.c (.lit (.int .i64 a1)))] [] fun outs ext => outs = [.one (.lit (.bool true))] ∧ ext = [] := by
  obtain ⟨g, lg, pg, sg⟩ := lists_of (e := e0x) (e' := 0) hn0x h0x
  obtain ⟨o, lo, po, so⟩ := lists_of (e := e0y) (e' := 0) hn0y h0y
  have h := TakeGlobal_law g o a1 (by omega) (by omega) (getD_le fun x hx => (pg x hx).1) (getD_le fun x hx => (po x hx).1)
  exact Run.args (by exact ⟨⟨sg, so, trivial⟩, rfl, trivial⟩) h.run

set_option maxRecDepth 100000 in
theorem dsOk0 : TyDs Try.prog 24 [.sl [.sl [.i]], .sl [.sl [.i]]] := (TyDs.struct Try.underlying24 (FsDs.cons (TyDs.slice Try.underlying22 (TyDs.struct Try.underlying198 (FsDs.cons (TyDs.slice Try.underlying40 (TyDs.int Try.underlying3) (by kernel_rfl) (by decide)) rfl (by kernel_rfl) FsDs.nil) (by kernel_rfl)) (by kernel_rfl) (by decide)) rfl (by kernel_rfl) (FsDs.cons (TyDs.slice Try.underlying22 (TyDs.struct Try.underlying198 (FsDs.cons (TyDs.slice Try.underlying40 (TyDs.int Try.underlying3) (by kernel_rfl) (by decide)) rfl (by kernel_rfl) FsDs.nil) (by kernel_rfl)) (by kernel_rfl) (by decide)) rfl (by kernel_rfl) FsDs.nil)) (by kernel_rfl))
set_option maxRecDepth 100000 in
theorem lifted (os : Os) (started : os.Started) (H : Type) (enc : TypeId × Value → H) :
    ReturnsInHanded {} Try.checked os 4 .any (Rows.fnExactTakeGlobalSpec.pre6 enc Try.prog Try.f4 Rows.fnExactTakeGlobalRow.domain false) (Rows.fnExactTakeGlobalSpec.post enc Try.prog Try.f4 false true false false) := by
  refine returnsInHanded_of_change (C := Try.checked) own started (by kernel_rfl) Try.func4
    (ChangeSpec.witness6 (enc := enc) (C := Try.checked) false ⟨#[], #[.agg #[.slice none 0 0, .slice none 0 0], .int .i64 0], []⟩ 8 (by kernel_rfl) (by kernel_rfl) (by kernel_rfl) (by kernel_rfl)) ?_
  intro W base args ds gs before hval0 hW hcnd _
  have hval : ∀ (j : Nat) t v, Try.f4.params[j]? = some t → args[j]? = some v → Value.okWide Try.prog W .any base t v := hval0
  have hW' := hW
  obtain ⟨p, q, hA0, hV, rfl, hfz, hnd⟩ := hW
  have hA : DataW.TrodAll enc Try.prog W 0 (fun _ => true) true Try.f4.params.toList args.toList ds p := hA0
  rw [Try.params4] at hA hval
  obtain ⟨v0, vs0, d0, ds0, p0, q0, hargs, rfl, rfl, h0, r0⟩ := trodAll_cons hA
  obtain ⟨v1, vs1, d1, ds1, p1, q1, rfl, rfl, rfl, h1, r1⟩ := trodAll_cons r0
  obtain ⟨rfl, rfl, rfl⟩ := trodAll_nil r1
  obtain rfl : args = #[v0, v1] := by cases args; simp_all
  obtain ⟨rfl, rfl⟩ := trodVars_none hV
  have k0 := h0
  have lt0 : ∀ x ∈ p0, x.block < W.heap.size := by obtain ⟨m, hm⟩ := k0; exact DataW.trod_lt m _ _ _ hm
  have tr0 := arg_tree h0 dsOk0
  obtain ⟨cs0, rfl, sz0⟩ := okWide_struct Try.underlying24 (hval 0 24 v0 rfl rfl)
  obtain ⟨u0x, c0x, ce0x, ok0x, cr0x⟩ := tr0 0 _ rfl
  obtain ⟨e0x, n0x, row0x, rfl, hn0x, h0x⟩ := ok0x.slice
  obtain ⟨u0y, c0y, ce0y, ok0y, cr0y⟩ := tr0 1 _ rfl
  obtain ⟨e0y, n0y, row0y, rfl, hn0y, h0y⟩ := ok0y.slice
  obtain ⟨a1, rfl, rfl, rfl, u1⟩ := open_int Try.underlying3 (hval 1 3 v1 rfl rfl) h1
  have w1 := wf_in u1
  clear hA0 hval0
  have hw := Run.law (W := W) (cargs := #[.agg cs0, .int .i64 a1]) (law_run e0x n0x row0x hn0x h0x e0y n0y row0y hn0y h0y a1 w1) rfl (fun i x hx => by
    rcases i with _ | _ | i
    · injection hx with hx; subst hx; exact ⟨_, rfl, ag_agg (W := W) (l := [.sl .fro e0x 1 n0x row0x, .sl .fro e0y 1 n0y row0y]) (by rw [sz0]; kernel_rfl) (fun j c hj => by
      rcases j with _ | _ | j
      · injection hj with hj; subst hj; exact ⟨_, ce0x, cr0x⟩
      · injection hj with hj; subst hj; exact ⟨_, ce0y, cr0y⟩
      · simp at hj)⟩
    · injection hx with hx; subst hx; exact ⟨_, rfl, ⟨rfl, rfl⟩⟩
    · simp at hx)
  refine hw.mono fun e W' ⟨he, bel⟩ => ?_
  subst he
  exact ⟨_, rfl, _, _, _, [], _, [], hW', trodAll_mk1 (shut_bool Try.underlying4 _), (trodAll_cons_mk (Below.trod laidOut (by kernel_rfl) (of_decide_eq_true (by kernel_rfl)) k0 bel lt0) (trodAll_cons_mk (shut_int Try.underlying3 u1) trodAll_mk0)), rfl, bel.frame _, fun h => by cases h⟩

theorem over : Rows.fnExactTakeGlobalRow.holds Try.pinned (OpenSpec.ofChange Rows.fnExactTakeGlobalSpec) :=
  OpenClaim.holds_of_wide 4 Try.f4 rfl rfl rfl rfl rfl rfl rfl ⟨rfl, rfl, rfl, rfl, rfl⟩ rfl rfl rfl rfl rfl (by kernel_rfl) Try.func4 (by kernel_rfl)
    (of_decide_eq_true (by kernel_rfl)) (by unfold Func.isWrapper; first | (rw [if_pos (by decide +kernel)]; kernel_rfl) | (rw [if_neg (by decide +kernel)]; exact ⟨rfl, rfl⟩))
    (fun os started H enc _ => lifted os started H enc)

theorem proved : Rows.FnExactTakeGlobalSaid := over
end Go.Proofs.Ytnclkdpocjhphaa.fnExactTakeGlobal
