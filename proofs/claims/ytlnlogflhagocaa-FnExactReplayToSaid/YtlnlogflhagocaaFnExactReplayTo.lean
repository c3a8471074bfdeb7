/- The two ReplayTo give the same map, in fresh memory, for the same events and number, write into none of them, so the law returns true; where the events are beyond the law's size it returns true at once. -/
import Derived.Test.YtlnlogflhagocaaRows
import Derived.WalkKit
import Derived.ProofKit
import Derived.OpenShut
import Derived.ShutString
import Derived.ChangeOld
import Derived.Below
import Derived.ChangeArms
import Derived.Test.YtlnlogflhagocaaFrame
import Derived.Test.YtlnlogflhagocaaZRLXayTo
namespace Go.Proofs.Ytlnlogflhagocaa.fnExactReplayTo
open Go.Proofs.Ytlnlogflhagocaa Go.Tr
open Go.ChangeShapes Go.WideShapes Go.ChangeAt Go.RowKit
set_option linter.unusedVariables false
set_option linter.unusedSimpArgs false

set_option maxRecDepth 100000 in
set_option maxHeartbeats 4000000 in
theorem law_run (e0 n0 : Nat) (row0 : Nat → Nat → C) (hn0 : n0 ≤ 9223372036854775807) (h0 : ∀ i r d, i < n0 → ([.i, .i, .i, .i, .sl [.i, .i, .i], .sl [.b, .i]] : List Dt)[r]? = some d → DtOk d (row0 i r)) (a1 : Int) (w1 : -9223372036854775808 ≤ a1 ∧ a1 ≤ 9223372036854775807) :
    Run Try.prog 10 [.one (.c (.sl .fro e0 6 n0 row0)), .one (.c (.lit (.int .i64 a1)))] [] fun outs ext => outs = [.one (.lit (.bool true))] ∧ ext = [] := by
  obtain ⟨g, lg, pg, sg⟩ := TEvs_of (e := e0) (e' := 0) hn0 h0
  have h := ReplayTo_law g a1 (by omega) (fun i => by
    by_cases hi : i < g.length
    · have : g.getD i zTEv = g[i] := by simp [List.getD, hi]
      rw [this]; exact pg _ (List.getElem_mem hi)
    · simp [List.getD, hi])
  exact Run.args (by exact ⟨sg, rfl, trivial⟩) h.run

set_option maxRecDepth 100000 in
theorem dsOk0 : TyDs Try.prog 80 [.sl [.i, .i, .i, .i, .sl [.i, .i, .i], .sl [.b, .i]]] := (TyDs.slice Try.underlying80 (TyDs.struct Try.underlying170 (FsDs.cons (TyDs.int Try.underlying3) rfl (by kernel_rfl) (FsDs.cons (TyDs.int Try.underlying3) rfl (by kernel_rfl) (FsDs.cons (TyDs.int Try.underlying3) rfl (by kernel_rfl) (FsDs.cons (TyDs.int Try.underlying3) rfl (by kernel_rfl) (FsDs.cons (TyDs.slice Try.underlying167 (TyDs.struct Try.underlying298 (FsDs.cons (TyDs.int Try.underlying3) rfl (by kernel_rfl) (FsDs.cons (TyDs.int Try.underlying3) rfl (by kernel_rfl) (FsDs.cons (TyDs.int Try.underlying3) rfl (by kernel_rfl) FsDs.nil))) (by kernel_rfl)) (by kernel_rfl) (by decide)) rfl (by kernel_rfl) (FsDs.cons (TyDs.slice Try.underlying168 (TyDs.struct Try.underlying300 (FsDs.cons (TyDs.bool Try.underlying4) rfl (by kernel_rfl) (FsDs.cons (TyDs.int Try.underlying3) rfl (by kernel_rfl) FsDs.nil)) (by kernel_rfl)) (by kernel_rfl) (by decide)) rfl (by kernel_rfl) FsDs.nil)))))) (by kernel_rfl)) (by kernel_rfl) (by decide))
set_option maxRecDepth 100000 in
theorem lifted (os : Os) (started : os.Started) (H : Type) (enc : TypeId × Value → H) :
    ReturnsInHanded {} Try.checked os 10 .any (Rows.fnExactReplayToSpec.pre6 enc Try.prog Try.f10 Rows.fnExactReplayToRow.domain false) (Rows.fnExactReplayToSpec.post enc Try.prog Try.f10 false true false false) := by
  refine returnsInHanded_of_change (C := Try.checked) own started (by kernel_rfl) Try.func10
    (ChangeSpec.witness6 (enc := enc) (C := Try.checked) false ⟨#[], #[.slice none 0 0, .int .i64 0], []⟩ 8 (by kernel_rfl) (by kernel_rfl) (by kernel_rfl) (by kernel_rfl)) ?_
  intro W base args ds gs before hval0 hW hcnd _
  have hval : ∀ (j : Nat) t v, Try.f10.params[j]? = some t → args[j]? = some v → Value.okWide Try.prog W .any base t v := hval0
  have hW' := hW
  obtain ⟨p, q, hA0, hV, rfl, hfz, hnd⟩ := hW
  have hA : DataW.TrodAll enc Try.prog W 0 (fun _ => true) true Try.f10.params.toList args.toList ds p := hA0
  rw [Try.params10] at hA hval
  obtain ⟨v0, vs0, d0, ds0, p0, q0, hargs, rfl, rfl, h0, r0⟩ := trodAll_cons hA
  obtain ⟨v1, vs1, d1, ds1, p1, q1, rfl, rfl, rfl, h1, r1⟩ := trodAll_cons r0
  obtain ⟨rfl, rfl, rfl⟩ := trodAll_nil r1
  obtain rfl : args = #[v0, v1] := by cases args; simp_all
  obtain ⟨rfl, rfl⟩ := trodVars_none hV
  have k0 := h0
  have lt0 : ∀ x ∈ p0, x.block < W.heap.size := by obtain ⟨m, hm⟩ := k0; exact DataW.trod_lt m _ _ _ hm
  have tr0 := arg_tree h0 dsOk0
  obtain ⟨A0, len0, cap0, rfl⟩ := okWide_slice Try.underlying80 (hval 0 80 v0 rfl rfl)
  obtain ⟨u0, c0, ce0, ok0, cr0⟩ := tr0 0 _ rfl
  obtain ⟨e0, n0, row0, rfl, hn0, h0⟩ := ok0.slice
  obtain ⟨a1, rfl, rfl, rfl, u1⟩ := open_int Try.underlying3 (hval 1 3 v1 rfl rfl) h1
  have w1 := wf_in u1
  clear hA0 hval0
  have hw := Run.law (W := W) (cargs := #[.slice A0 len0 cap0, .int .i64 a1]) (law_run e0 n0 row0 hn0 h0 a1 w1) rfl (fun i x hx => by
    rcases i with _ | _ | i
    · injection hx with hx; subst hx; exact ⟨_, rfl, (by have e := Option.some.inj ce0; rw [show (Value.slice A0 len0 cap0) = u0 from e]; exact TreeAt.aa ⟨.sl hn0 h0, cr0⟩ (fun _ => ⟨none, 0⟩) 0 0)⟩
    · injection hx with hx; subst hx; exact ⟨_, rfl, ⟨rfl, rfl⟩⟩
    · simp at hx)
  refine hw.mono fun e W' ⟨he, bel⟩ => ?_
  subst he
  exact ⟨_, rfl, _, _, _, [], _, [], hW', trodAll_mk1 (shut_bool Try.underlying4 _), (trodAll_cons_mk (Below.trod laidOut (by kernel_rfl) (of_decide_eq_true (by kernel_rfl)) k0 bel lt0) (trodAll_cons_mk (shut_int Try.underlying3 u1) trodAll_mk0)), rfl, bel.frame _, fun h => by cases h⟩

theorem jf_wf : Rows.fnExactReplayToRow.wf (OpenSpec.ofChange Rows.fnExactReplayToSpec) = true := by kernel_rfl
theorem jf_lo : laidOutB Try.prog = true := by kernel_rfl
theorem jf_mr : mapsRowed Try.prog = true := by kernel_rfl
theorem jf_ip : (Rows.fnExactReplayToRow.inPlace == Try.prog.inPlace 10) = true := by kernel_rfl
theorem jf_uf : (Rows.fnExactReplayToRow.unfollowed == Try.prog.unfollowed 10) = true := by kernel_rfl
theorem jf_rc : (Rows.fnExactReplayToRow.recurses == Try.prog.recurses 10) = true := by kernel_rfl
theorem jf_vn : (Rows.fnExactReplayToRow.named == Try.prog.varsNamed 10) = true := by kernel_rfl
theorem jf_pk : (Rows.fnExactReplayToRow.plainKeys == Try.prog.plainKeys) = true := by kernel_rfl
theorem jf_named : Try.prog.funcNamed "loop.example/g01538/laws.FnExactReplayTo" = some 10 := by kernel_rfl
theorem jf_all : joinedFacts Try.prog 10 Try.f10 Rows.fnExactReplayToSpec Rows.fnExactReplayToRow = true := by
  unfold joinedFacts
  simp only [Bool.and_eq_true]
  repeat' apply And.intro
  all_goals first | with_reducible exact jf_wf | with_reducible exact jf_lo | with_reducible exact jf_mr | with_reducible exact jf_ip | with_reducible exact jf_uf | with_reducible exact jf_rc | with_reducible exact jf_vn | with_reducible exact jf_pk | kernel_rfl

theorem over : Rows.fnExactReplayToRow.holds Try.pinned (OpenSpec.ofChange Rows.fnExactReplayToSpec) :=
  OpenClaim.holds_of_wide 10 Try.f10 rfl rfl rfl rfl rfl rfl rfl ⟨rfl, rfl, rfl, rfl, rfl⟩ rfl rfl rfl rfl rfl jf_named Try.func10 jf_all
    (of_decide_eq_true (by kernel_rfl)) (by unfold Func.isWrapper; first | (rw [if_pos (by decide +kernel)]; kernel_rfl) | (rw [if_neg (by decide +kernel)]; exact ⟨rfl, rfl⟩))
    (fun os started H enc _ => lifted os started H enc)

theorem proved : Rows.FnExactReplayToSaid := over
end Go.Proofs.Ytlnlogflhagocaa.fnExactReplayTo
