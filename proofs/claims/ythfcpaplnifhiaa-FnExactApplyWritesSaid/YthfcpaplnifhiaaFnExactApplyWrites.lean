/- The two ApplyWrites answer alike on the same arguments, write into none of them and own what they answer, so the law returns true; where the arguments are beyond the law's size it returns true at once. -/
import Derived.Test.YthfcpaplnifhiaaRows
import Derived.WalkKit
import Derived.ProofKit
import Derived.OpenShut
import Derived.ShutString
import Derived.ChangeOld
import Derived.Below
import Derived.ChangeArms
import Derived.Test.YthfcpaplnifhiaaFrame
import Derived.Test.YthfcpaplnifhiaaZCXites
namespace Go.Proofs.Ythfcpaplnifhiaa.fnExactApplyWrites
open Go.Proofs.Ythfcpaplnifhiaa Go.Tr
open Go.ChangeShapes Go.WideShapes Go.ChangeAt Go.RowKit
set_option linter.unusedVariables false
set_option linter.unusedSimpArgs false

set_option maxRecDepth 100000 in
set_option maxHeartbeats 4000000 in
theorem law_run (e0 n0 : Nat) (row0 : Nat → Nat → C) (hn0 : n0 ≤ 9223372036854775807) (h0 : ∀ i r d, i < n0 → ([.i, .i] : List Dt)[r]? = some d → DtOk d (row0 i r)) (e1 n1 : Nat) (row1 : Nat → Nat → C) (hn1 : n1 ≤ 9223372036854775807) (h1 : ∀ i r d, i < n1 → ([.i, .b, .i] : List Dt)[r]? = some d → DtOk d (row1 i r)) :
    Run Try.prog 7 [.one (.c (.sl .fro e0 2 n0 row0)), .one (.c (.sl .fro e1 3 n1 row1))] [] fun outs ext => outs = [.one (.lit (.bool true))] ∧ ext = [] := by
  obtain ⟨g0, lg0, pg0, sg0⟩ := KVs_of (e := e0) (e' := 0) hn0 h0
  obtain ⟨g1, lg1, pg1, sg1⟩ := Writes_of (e := e1) (e' := 0) hn1 h1
  have h := ApplyWrites_law g0 g1 (by omega) (by omega)
  exact Run.args (by exact ⟨sg0, sg1, trivial⟩) h.run

set_option maxRecDepth 100000 in
theorem dsOk0 : TyDs Try.prog 22 [.sl [.i, .i]] := (TyDs.slice Try.underlying22 (TyDs.struct Try.underlying122 (FsDs.cons (TyDs.int Try.underlying3) rfl (by kernel_rfl) (FsDs.cons (TyDs.int Try.underlying3) rfl (by kernel_rfl) FsDs.nil)) (by kernel_rfl)) (by kernel_rfl) (by decide))
set_option maxRecDepth 100000 in
theorem dsOk1 : TyDs Try.prog 30 [.sl [.i, .b, .i]] := (TyDs.slice Try.underlying30 (TyDs.struct Try.underlying32 (FsDs.cons (TyDs.int Try.underlying3) rfl (by kernel_rfl) (FsDs.cons (TyDs.bool Try.underlying4) rfl (by kernel_rfl) (FsDs.cons (TyDs.int Try.underlying3) rfl (by kernel_rfl) FsDs.nil))) (by kernel_rfl)) (by kernel_rfl) (by decide))
set_option maxRecDepth 100000 in
theorem lifted (os : Os) (started : os.Started) (H : Type) (enc : TypeId × Value → H) :
    ReturnsInHanded {} Try.checked os 7 .any (Rows.fnExactApplyWritesSpec.pre6 enc Try.prog Try.f7 Rows.fnExactApplyWritesRow.domain false) (Rows.fnExactApplyWritesSpec.post enc Try.prog Try.f7 false true false false) := by
  refine returnsInHanded_of_change (C := Try.checked) own started (by kernel_rfl) Try.func7
    (ChangeSpec.witness6 (enc := enc) (C := Try.checked) false ⟨#[], #[.slice none 0 0, .slice none 0 0], []⟩ 8 (by kernel_rfl) (by kernel_rfl) (by kernel_rfl) (by kernel_rfl)) ?_
  intro W base args ds gs before hval0 hW hcnd _
  have hval : ∀ (j : Nat) t v, Try.f7.params[j]? = some t → args[j]? = some v → Value.okWide Try.prog W .any base t v := hval0
  have hW' := hW
  obtain ⟨p, q, hA0, hV, rfl, hfz, hnd⟩ := hW
  have hA : DataW.TrodAll enc Try.prog W 0 (fun _ => true) true Try.f7.params.toList args.toList ds p := hA0
  rw [Try.params7] at hA hval
  obtain ⟨v0, vs0, d0, ds0, p0, q0, hargs, rfl, rfl, h0, r0⟩ := trodAll_cons hA
  obtain ⟨v1, vs1, d1, ds1, p1, q1, rfl, rfl, rfl, h1, r1⟩ := trodAll_cons r0
  obtain ⟨rfl, rfl, rfl⟩ := trodAll_nil r1
  obtain rfl : args = #[v0, v1] := by cases args; simp_all
  obtain ⟨rfl, rfl⟩ := trodVars_none hV
  have k0 := h0
  have lt0 : ∀ x ∈ p0, x.block < W.heap.size := by obtain ⟨m, hm⟩ := k0; exact DataW.trod_lt m _ _ _ hm
  have tr0 := arg_tree h0 dsOk0
  obtain ⟨A0, len0, cap0, rfl⟩ := okWide_slice Try.underlying22 (hval 0 22 v0 rfl rfl)
  obtain ⟨u0, c0, ce0, ok0, cr0⟩ := tr0 0 _ rfl
  obtain ⟨e0, n0, row0, rfl, hn0, h0⟩ := ok0.slice
  have k1 := h1
  have lt1 : ∀ x ∈ p1, x.block < W.heap.size := by obtain ⟨m, hm⟩ := k1; exact DataW.trod_lt m _ _ _ hm
  have tr1 := arg_tree h1 dsOk1
  obtain ⟨A1, len1, cap1, rfl⟩ := okWide_slice Try.underlying30 (hval 1 30 v1 rfl rfl)
  obtain ⟨u1, c1, ce1, ok1, cr1⟩ := tr1 0 _ rfl
  obtain ⟨e1, n1, row1, rfl, hn1, h1⟩ := ok1.slice
  clear hA0 hval0
  have hw := Run.law (W := W) (cargs := #[.slice A0 len0 cap0, .slice A1 len1 cap1]) (law_run e0 n0 row0 hn0 h0 e1 n1 row1 hn1 h1) rfl (fun i x hx => by
    rcases i with _ | _ | i
    · injection hx with hx; subst hx; exact ⟨_, rfl, (by have e := Option.some.inj ce0; rw [show (Value.slice A0 len0 cap0) = u0 from e]; exact TreeAt.aa ⟨.sl hn0 h0, cr0⟩ (fun _ => ⟨none, 0⟩) 0 0)⟩
    · injection hx with hx; subst hx; exact ⟨_, rfl, (by have e := Option.some.inj ce1; rw [show (Value.slice A1 len1 cap1) = u1 from e]; exact TreeAt.aa ⟨.sl hn1 h1, cr1⟩ (fun _ => ⟨none, 0⟩) 1 0)⟩
    · simp at hx)
  refine hw.mono fun e W' ⟨he, bel⟩ => ?_
  subst he
  exact ⟨_, rfl, _, _, _, [], _, [], hW', trodAll_mk1 (shut_bool Try.underlying4 _), (trodAll_cons_mk (Below.trod laidOut (by kernel_rfl) (of_decide_eq_true (by kernel_rfl)) k0 bel lt0) (trodAll_cons_mk (Below.trod laidOut (by kernel_rfl) (of_decide_eq_true (by kernel_rfl)) k1 bel lt1) trodAll_mk0)), rfl, bel.frame _, fun h => by cases h⟩

theorem over : Rows.fnExactApplyWritesRow.holds Try.pinned (OpenSpec.ofChange Rows.fnExactApplyWritesSpec) :=
  OpenClaim.holds_of_wide 7 Try.f7 rfl rfl rfl rfl rfl rfl rfl ⟨rfl, rfl, rfl, rfl, rfl⟩ rfl rfl rfl rfl rfl (by kernel_rfl) Try.func7 (by kernel_rfl)
    (of_decide_eq_true (by kernel_rfl)) (by unfold Func.isWrapper; first | (rw [if_pos (by decide +kernel)]; kernel_rfl) | (rw [if_neg (by decide +kernel)]; exact ⟨rfl, rfl⟩))
    (fun os started H enc _ => lifted os started H enc)

theorem proved : Rows.FnExactApplyWritesSaid := over
end Go.Proofs.Ythfcpaplnifhiaa.fnExactApplyWrites
