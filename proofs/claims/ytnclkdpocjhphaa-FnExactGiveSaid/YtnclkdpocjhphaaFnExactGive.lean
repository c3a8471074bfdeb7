/- For all lists of bounded size and all numbers the two Give give the same lists, in fresh blocks, and the same truth value, and leave the lists as they were, so the law returns true; of larger ones it returns true at once. -/
import Derived.Test.YtnclkdpocjhphaaRows
import Derived.WalkKit
import Derived.ProofKit
import Derived.OpenShut
import Derived.ShutString
import Derived.ChangeOld
import Derived.Below
import Derived.ChangeArms
import Derived.Test.YtnclkdpocjhphaaFrame
import Derived.Test.YtnclkdpocjhphaaZLXGive
namespace Go.Proofs.Ytnclkdpocjhphaa.fnExactGive
open Go.Proofs.Ytnclkdpocjhphaa Go.Tr
open Go.ChangeShapes Go.WideShapes Go.ChangeAt Go.RowKit
set_option linter.unusedVariables false
set_option linter.unusedSimpArgs false

set_option maxRecDepth 100000 in
set_option maxHeartbeats 4000000 in
theorem law_run (e0x n0x : Nat) (row0x : Nat → Nat → C) (hn0x : n0x ≤ 9223372036854775807) (h0x : ∀ i r d, i < n0x → ([.sl [.i]] : List Dt)[r]? = some d → DtOk d (row0x i r)) (e0y n0y : Nat) (row0y : Nat → Nat → C) (hn0y : n0y ≤ 9223372036854775807) (h0y : ∀ i r d, i < n0y → ([.sl [.i]] : List Dt)[r]? = some d → DtOk d (row0y i r)) (a1 : Int) (w1 : -9223372036854775808 ≤ a1 ∧ a1 ≤ 9223372036854775807) (a2 : Int) (w2 : -9223372036854775808 ≤ a2 ∧ a2 ≤ 9223372036854775807) (a3 : Int) (w3 : -9223372036854775808 ≤ a3 ∧ a3 ≤ 9223372036854775807) :
    Run Try.prog 5 [.agg [.c (.sl .fro e0x 1 n0x row0x), .c (.sl .fro e0y 1 n0y row0y)], .one (.c (.lit (.int .i64 a1))), .one (.c (.lit (.int .i64 a2))), .one (.c (.lit (.int .i64 a3)))] [] fun outs ext => outs = [.one (.lit (.bool true))] ∧ ext = [] := by
  obtain ⟨g, lg, pg, sg⟩ := lists_of (e := e0x) (e' := 0) hn0x h0x
  obtain ⟨o, lo, po, so⟩ := lists_of (e := e0y) (e' := 0) hn0y h0y
  have h := Give_law g o a1 a2 a3 (by omega) (by omega) (getD_le fun x hx => (pg x hx).1) (getD_le fun x hx => (po x hx).1)
  exact Run.args (by exact ⟨⟨sg, so, trivial⟩, rfl, rfl, rfl, trivial⟩) h.run

set_option maxRecDepth 100000 in
theorem dsOk0 : TyDs Try.prog 24 [.sl [.sl [.i]], .sl [.sl [.i]]] := (TyDs.struct Try.underlying24 (FsDs.cons (TyDs.slice Try.underlying22 (TyDs.struct Try.underlying198 (FsDs.cons (TyDs.slice Try.underlying40 (TyDs.int Try.underlying3) (by kernel_rfl) (by decide)) rfl (by kernel_rfl) FsDs.nil) (by kernel_rfl)) (by kernel_rfl) (by decide)) rfl (by kernel_rfl) (FsDs.cons (TyDs.slice Try.underlying22 (TyDs.struct Try.underlying198 (FsDs.cons (TyDs.slice Try.underlying40 (TyDs.int Try.underlying3) (by kernel_rfl) (by decide)) rfl (by kernel_rfl) FsDs.nil) (by kernel_rfl)) (by kernel_rfl) (by decide)) rfl (by kernel_rfl) FsDs.nil)) (by kernel_rfl))
set_option maxRecDepth 100000 in
theorem lifted (os : Os) (started : os.Started) (H : Type) (enc : TypeId × Value → H) :
    ReturnsInHanded {} Try.checked os 5 .any (Rows.fnExactGiveSpec.pre6 enc Try.prog Try.f5 Rows.fnExactGiveRow.domain false) (Rows.fnExactGiveSpec.post enc Try.prog Try.f5 false true false false) := by
  refine returnsInHanded_of_change (C := Try.checked) own started (by kernel_rfl) Try.func5
    (ChangeSpec.witness6 (enc := enc) (C := Try.checked) false ⟨#[], #[.agg #[.slice none 0 0, .slice none 0 0], .int .i64 0, .int .i64 0, .int .i64 0], []⟩ 8 (by kernel_rfl) (by kernel_rfl) (by kernel_rfl) (by kernel_rfl)) ?_
  intro W base args ds gs before hval0 hW hcnd _
  have hval : ∀ (j : Nat) t v, Try.f5.params[j]? = some t → args[j]? = some v → Value.okWide Try.prog W .any base t v := hval0
  have hW' := hW
  obtain ⟨p, q, hA0, hV, rfl, hfz, hnd⟩ := hW
  have hA : DataW.TrodAll enc Try.prog W 0 (fun _ => true) true Try.f5.params.toList args.toList ds p := hA0
  rw [Try.params5] at hA hval
  obtain ⟨v0, vs0, d0, ds0, p0, q0, hargs, rfl, rfl, h0, r0⟩ := trodAll_cons hA
  obtain ⟨v1, vs1, d1, ds1, p1, q1, rfl, rfl, rfl, h1, r1⟩ := trodAll_cons r0
  obtain ⟨v2, vs2, d2, ds2, p2, q2, rfl, rfl, rfl, h2, r2⟩ := trodAll_cons r1
  obtain ⟨v3, vs3, d3, ds3, p3, q3, rfl, rfl, rfl, h3, r3⟩ := trodAll_cons r2
  obtain ⟨rfl, rfl, rfl⟩ := trodAll_nil r3
  obtain rfl : args = #[v0, v1, v2, v3] := by cases args; simp_all
  obtain ⟨rfl, rfl⟩ := trodVars_none hV
  have k0 := h0
  have lt0 : ∀ x ∈ p0, x.block < W.heap.size := by obtain ⟨m, hm⟩ := k0; exact DataW.trod_lt m _ _ _ hm
  have tr0 := arg_tree h0 dsOk0
  obtain ⟨cs0, rfl, sz0⟩ := okWide_struct Try.underlying24 (hval 0 24 v0 rfl rfl)
  obtain ⟨u0x, c0x, ce0x, ok0x, cr0x⟩ := tr0 0 _ rfl
  obtain ⟨e0x, n0x, row0x, rfl, hn0x, h0x⟩ := ok0x.slice
  obtain ⟨u0y, c0y, ce0y, ok0y, cr0y⟩ := tr0 1 _ rfl
  obtain ⟨e0y, n0y, row0y, rfl, hn0y, h0y⟩ := ok0y.slice
  obtain ⟨a1, rfl, rfl, rfl, u1⟩ := open_int Try.underlying3 (hval 1 3 v1 rfl rfl) h1
  have w1 := wf_in u1
  obtain ⟨a2, rfl, rfl, rfl, u2⟩ := open_int Try.underlying3 (hval 2 3 v2 rfl rfl) h2
  have w2 := wf_in u2
  obtain ⟨a3, rfl, rfl, rfl, u3⟩ := open_int Try.underlying3 (hval 3 3 v3 rfl rfl) h3
  have w3 := wf_in u3
  clear hA0 hval0
  have hw := Run.law (W := W) (cargs := #[.agg cs0, .int .i64 a1, .int .i64 a2, .int .i64 a3]) (law_run e0x n0x row0x hn0x h0x e0y n0y row0y hn0y h0y a1 w1 a2 w2 a3 w3) rfl (fun i x hx => by
    rcases i with _ | _ | _ | _ | i
    · injection hx with hx; subst hx; exact ⟨_, rfl, ag_agg (W := W) (l := [.sl .fro e0x 1 n0x row0x, .sl .fro e0y 1 n0y row0y]) (by rw [sz0]; kernel_rfl) (fun j c hj => by
      rcases j with _ | _ | j
      · injection hj with hj; subst hj; exact ⟨_, ce0x, cr0x⟩
      · injection hj with hj; subst hj; exact ⟨_, ce0y, cr0y⟩
      · simp at hj)⟩
    · injection hx with hx; subst hx; exact ⟨_, rfl, ⟨rfl, rfl⟩⟩
    · injection hx with hx; subst hx; exact ⟨_, rfl, ⟨rfl, rfl⟩⟩
    · injection hx with hx; subst hx; exact ⟨_, rfl, ⟨rfl, rfl⟩⟩
    · simp at hx)
  refine hw.mono fun e W' ⟨he, bel⟩ => ?_
  subst he
  exact ⟨_, rfl, _, _, _, [], _, [], hW', trodAll_mk1 (shut_bool Try.underlying4 _), (trodAll_cons_mk (Below.trod laidOut (by kernel_rfl) (of_decide_eq_true (by kernel_rfl)) k0 bel lt0) (trodAll_cons_mk (shut_int Try.underlying3 u1) (trodAll_cons_mk (shut_int Try.underlying3 u2) (trodAll_cons_mk (shut_int Try.underlying3 u3) trodAll_mk0)))), rfl, bel.frame _, fun h => by cases h⟩

theorem over : Rows.fnExactGiveRow.holds Try.pinned (OpenSpec.ofChange Rows.fnExactGiveSpec) :=
  OpenClaim.holds_of_wide 5 Try.f5 rfl rfl rfl rfl rfl rfl rfl ⟨rfl, rfl, rfl, rfl, rfl⟩ rfl rfl rfl rfl rfl (by kernel_rfl) Try.func5 (by kernel_rfl)
    (of_decide_eq_true (by kernel_rfl)) (by unfold Func.isWrapper; first | (rw [if_pos (by decide +kernel)]; kernel_rfl) | (rw [if_neg (by decide +kernel)]; exact ⟨rfl, rfl⟩))
    (fun os started H enc _ => lifted os started H enc)

theorem proved : Rows.FnExactGiveSaid := over
end Go.Proofs.Ytnclkdpocjhphaa.fnExactGive
