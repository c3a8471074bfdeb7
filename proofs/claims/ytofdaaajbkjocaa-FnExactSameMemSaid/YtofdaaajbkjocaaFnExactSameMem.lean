/- The two SameMem answer alike on the same memories, and leave them as they were, so the law returns true. -/
import Derived.Test.YtofdaaajbkjocaaRows
import Derived.WalkKit
import Derived.ProofKit
import Derived.OpenShut
import Derived.ShutString
import Derived.ChangeOld
import Derived.Below
import Derived.ChangeArms
import Derived.Test.YtofdaaajbkjocaaFrame
import Derived.Test.YtofdaaajbkjocaaME
namespace Go.Proofs.Ytofdaaajbkjocaa.fnExactSameMem
open Go.Proofs.Ytofdaaajbkjocaa Go.Tr
open Go.ChangeShapes Go.WideShapes Go.ChangeAt Go.RowKit
set_option linter.unusedVariables false
set_option linter.unusedSimpArgs false

set_option maxRecDepth 100000 in
set_option maxHeartbeats 4000000 in
theorem law_run (e0x n0x : Nat) (row0x : Nat → Nat → C) (hn0x : n0x ≤ 9223372036854775807) (h0x : ∀ i r d, i < n0x → ([.i] : List Dt)[r]? = some d → DtOk d (row0x i r)) (e0y n0y : Nat) (row0y : Nat → Nat → C) (hn0y : n0y ≤ 9223372036854775807) (h0y : ∀ i r d, i < n0y → ([.i] : List Dt)[r]? = some d → DtOk d (row0y i r)) (e0z n0z : Nat) (row0z : Nat → Nat → C) (hn0z : n0z ≤ 9223372036854775807) (h0z : ∀ i r d, i < n0z → ([.sl [.i]] : List Dt)[r]? = some d → DtOk d (row0z i r)) (e0u n0u : Nat) (row0u : Nat → Nat → C) (hn0u : n0u ≤ 9223372036854775807) (h0u : ∀ i r d, i < n0u → ([.sl [.i]] : List Dt)[r]? = some d → DtOk d (row0u i r)) (e1x n1x : Nat) (row1x : Nat → Nat → C) (hn1x : n1x ≤ 9223372036854775807) (h1x : ∀ i r d, i < n1x → ([.i] : List Dt)[r]? = some d → DtOk d (row1x i r)) (e1y n1y : Nat) (row1y : Nat → Nat → C) (hn1y : n1y ≤ 9223372036854775807) (h1y : ∀ i r d, i < n1y → ([.i] : List Dt)[r]? = some d → DtOk d (row1y i r)) (e1z n1z : Nat) (row1z : Nat → Nat → C) (hn1z : n1z ≤ 9223372036854775807) (h1z : ∀ i r d, i < n1z → ([.sl [.i]] : List Dt)[r]? = some d → DtOk d (row1z i r)) (e1u n1u : Nat) (row1u : Nat → Nat → C) (hn1u : n1u ≤ 9223372036854775807) (h1u : ∀ i r d, i < n1u → ([.sl [.i]] : List Dt)[r]? = some d → DtOk d (row1u i r)) :
    Run Try.prog 3 [.agg [.c (.sl .fro e0x 1 n0x row0x), .c (.sl .fro e0y 1 n0y row0y), .c (.sl .fro e0z 1 n0z row0z), .c (.sl .fro e0u 1 n0u row0u)], .agg [.c (.sl .fro e1x 1 n1x row1x), .c (.sl .fro e1y 1 n1y row1y), .c (.sl .fro e1z 1 n1z row1z), .c (.sl .fro e1u 1 n1u row1u)]] [] fun outs ext => outs = [.one (.lit (.bool true))] ∧ ext = [] := by
  obtain ⟨b, lb, pb, sb⟩ := ints_of (e := e0x) hn0x h0x
  obtain ⟨c, lc, pc, sc⟩ := ints_of (e := e0y) hn0y h0y
  obtain ⟨g, lg, pg, sg⟩ := lists_of (e := e0z) (e' := 0) hn0z h0z
  obtain ⟨o, lo, po, so⟩ := lists_of (e := e0u) (e' := 0) hn0u h0u
  obtain ⟨b', lb', pb', sb'⟩ := ints_of (e := e1x) hn1x h1x
  obtain ⟨c', lc', pc', sc'⟩ := ints_of (e := e1y) hn1y h1y
  obtain ⟨g', lg', pg', sg'⟩ := lists_of (e := e1z) (e' := 0) hn1z h1z
  obtain ⟨o', lo', po', so'⟩ := lists_of (e := e1u) (e' := 0) hn1u h1u
  have h := SameMem_law b c g o b' c' g' o' ⟨by omega, by omega, by omega, by omega, getD_le fun x hx => (pg x hx).1, getD_le fun x hx => (po x hx).1⟩ ⟨by omega, by omega, by omega, by omega, getD_le fun x hx => (pg' x hx).1, getD_le fun x hx => (po' x hx).1⟩
  exact Run.args (by exact ⟨⟨sb, sc, sg, so, trivial⟩, ⟨sb', sc', sg', so', trivial⟩, trivial⟩) h.run

set_option maxRecDepth 100000 in
theorem dsOk0 : TyDs Try.prog 29 [.sl [.i], .sl [.i], .sl [.sl [.i]], .sl [.sl [.i]]] := (TyDs.struct Try.underlying29 (FsDs.cons (TyDs.struct Try.underlying24 (FsDs.cons (TyDs.slice Try.underlying22 (TyDs.int Try.underlying3) (by kernel_rfl) (by decide)) rfl (by kernel_rfl) (FsDs.cons (TyDs.slice Try.underlying22 (TyDs.int Try.underlying3) (by kernel_rfl) (by decide)) rfl (by kernel_rfl) FsDs.nil)) (by kernel_rfl)) rfl (by kernel_rfl) (FsDs.cons (TyDs.struct Try.underlying27 (FsDs.cons (TyDs.slice Try.underlying25 (TyDs.struct Try.underlying101 (FsDs.cons (TyDs.slice Try.underlying22 (TyDs.int Try.underlying3) (by kernel_rfl) (by decide)) rfl (by kernel_rfl) FsDs.nil) (by kernel_rfl)) (by kernel_rfl) (by decide)) rfl (by kernel_rfl) (FsDs.cons (TyDs.slice Try.underlying25 (TyDs.struct Try.underlying101 (FsDs.cons (TyDs.slice Try.underlying22 (TyDs.int Try.underlying3) (by kernel_rfl) (by decide)) rfl (by kernel_rfl) FsDs.nil) (by kernel_rfl)) (by kernel_rfl) (by decide)) rfl (by kernel_rfl) FsDs.nil)) (by kernel_rfl)) rfl (by kernel_rfl) FsDs.nil)) (by kernel_rfl))
set_option maxRecDepth 100000 in
theorem dsOk1 : TyDs Try.prog 29 [.sl [.i], .sl [.i], .sl [.sl [.i]], .sl [.sl [.i]]] := (TyDs.struct Try.underlying29 (FsDs.cons (TyDs.struct Try.underlying24 (FsDs.cons (TyDs.slice Try.underlying22 (TyDs.int Try.underlying3) (by kernel_rfl) (by decide)) rfl (by kernel_rfl) (FsDs.cons (TyDs.slice Try.underlying22 (TyDs.int Try.underlying3) (by kernel_rfl) (by decide)) rfl (by kernel_rfl) FsDs.nil)) (by kernel_rfl)) rfl (by kernel_rfl) (FsDs.cons (TyDs.struct Try.underlying27 (FsDs.cons (TyDs.slice Try.underlying25 (TyDs.struct Try.underlying101 (FsDs.cons (TyDs.slice Try.underlying22 (TyDs.int Try.underlying3) (by kernel_rfl) (by decide)) rfl (by kernel_rfl) FsDs.nil) (by kernel_rfl)) (by kernel_rfl) (by decide)) rfl (by kernel_rfl) (FsDs.cons (TyDs.slice Try.underlying25 (TyDs.struct Try.underlying101 (FsDs.cons (TyDs.slice Try.underlying22 (TyDs.int Try.underlying3) (by kernel_rfl) (by decide)) rfl (by kernel_rfl) FsDs.nil) (by kernel_rfl)) (by kernel_rfl) (by decide)) rfl (by kernel_rfl) FsDs.nil)) (by kernel_rfl)) rfl (by kernel_rfl) FsDs.nil)) (by kernel_rfl))
set_option maxRecDepth 100000 in
theorem lifted (os : Os) (started : os.Started) (H : Type) (enc : TypeId × Value → H) :
    ReturnsInHanded {} Try.checked os 3 .any (Rows.fnExactSameMemSpec.pre6 enc Try.prog Try.f3 Rows.fnExactSameMemRow.domain false) (Rows.fnExactSameMemSpec.post enc Try.prog Try.f3 false true false false) := by
  refine returnsInHanded_of_change (C := Try.checked) own started (by kernel_rfl) Try.func3
    (ChangeSpec.witness6 (enc := enc) (C := Try.checked) false ⟨#[], #[.agg #[.slice none 0 0, .slice none 0 0, .slice none 0 0, .slice none 0 0], .agg #[.slice none 0 0, .slice none 0 0, .slice none 0 0, .slice none 0 0]], []⟩ 8 (by kernel_rfl) (by kernel_rfl) (by kernel_rfl) (by kernel_rfl)) ?_
  intro W base args ds gs before hval0 hW hcnd _
  have hval : ∀ (j : Nat) t v, Try.f3.params[j]? = some t → args[j]? = some v → Value.okWide Try.prog W .any base t v := hval0
  have hW' := hW
  obtain ⟨p, q, hA0, hV, rfl, hfz, hnd⟩ := hW
  have hA : DataW.TrodAll enc Try.prog W 0 (fun _ => true) true Try.f3.params.toList args.toList ds p := hA0
  rw [Try.params3] at hA hval
  obtain ⟨v0, vs0, d0, ds0, p0, q0, hargs, rfl, rfl, h0, r0⟩ := trodAll_cons hA
  obtain ⟨v1, vs1, d1, ds1, p1, q1, rfl, rfl, rfl, h1, r1⟩ := trodAll_cons r0
  obtain ⟨rfl, rfl, rfl⟩ := trodAll_nil r1
  obtain rfl : args = #[v0, v1] := by cases args; simp_all
  obtain ⟨rfl, rfl⟩ := trodVars_none hV
  have k0 := h0
  have lt0 : ∀ x ∈ p0, x.block < W.heap.size := by obtain ⟨m, hm⟩ := k0; exact DataW.trod_lt m _ _ _ hm
  have tr0 := arg_tree h0 dsOk0
  obtain ⟨cs0, rfl, sz0⟩ := okWide_struct Try.underlying29 (hval 0 29 v0 rfl rfl)
  obtain ⟨u0x, c0x, ce0x, ok0x, cr0x⟩ := tr0 0 _ rfl
  obtain ⟨e0x, n0x, row0x, rfl, hn0x, h0x⟩ := ok0x.slice
  obtain ⟨u0y, c0y, ce0y, ok0y, cr0y⟩ := tr0 1 _ rfl
  obtain ⟨e0y, n0y, row0y, rfl, hn0y, h0y⟩ := ok0y.slice
  obtain ⟨u0z, c0z, ce0z, ok0z, cr0z⟩ := tr0 2 _ rfl
  obtain ⟨e0z, n0z, row0z, rfl, hn0z, h0z⟩ := ok0z.slice
  obtain ⟨u0u, c0u, ce0u, ok0u, cr0u⟩ := tr0 3 _ rfl
  obtain ⟨e0u, n0u, row0u, rfl, hn0u, h0u⟩ := ok0u.slice
  have k1 := h1
  have lt1 : ∀ x ∈ p1, x.block < W.heap.size := by obtain ⟨m, hm⟩ := k1; exact DataW.trod_lt m _ _ _ hm
  have tr1 := arg_tree h1 dsOk1
  obtain ⟨cs1, rfl, sz1⟩ := okWide_struct Try.underlying29 (hval 1 29 v1 rfl rfl)
  obtain ⟨u1x, c1x, ce1x, ok1x, cr1x⟩ := tr1 0 _ rfl
  obtain ⟨e1x, n1x, row1x, rfl, hn1x, h1x⟩ := ok1x.slice
  obtain ⟨u1y, c1y, ce1y, ok1y, cr1y⟩ := tr1 1 _ rfl
  obtain ⟨e1y, n1y, row1y, rfl, hn1y, h1y⟩ := ok1y.slice
  obtain ⟨u1z, c1z, ce1z, ok1z, cr1z⟩ := tr1 2 _ rfl
  obtain ⟨e1z, n1z, row1z, rfl, hn1z, h1z⟩ := ok1z.slice
  obtain ⟨u1u, c1u, ce1u, ok1u, cr1u⟩ := tr1 3 _ rfl
  obtain ⟨e1u, n1u, row1u, rfl, hn1u, h1u⟩ := ok1u.slice
  clear hA0 hval0
  have hw := Run.law (W := W) (cargs := #[.agg cs0, .agg cs1]) (law_run e0x n0x row0x hn0x h0x e0y n0y row0y hn0y h0y e0z n0z row0z hn0z h0z e0u n0u row0u hn0u h0u e1x n1x row1x hn1x h1x e1y n1y row1y hn1y h1y e1z n1z row1z hn1z h1z e1u n1u row1u hn1u h1u) rfl (fun i x hx => by
    rcases i with _ | _ | i
    · injection hx with hx; subst hx; exact ⟨_, rfl, ag_agg (W := W) (l := [.sl .fro e0x 1 n0x row0x, .sl .fro e0y 1 n0y row0y, .sl .fro e0z 1 n0z row0z, .sl .fro e0u 1 n0u row0u]) (by rw [sz0]; kernel_rfl) (fun j c hj => by
      rcases j with _ | _ | _ | _ | j
      · injection hj with hj; subst hj; exact ⟨_, ce0x, cr0x⟩
      · injection hj with hj; subst hj; exact ⟨_, ce0y, cr0y⟩
      · injection hj with hj; subst hj; exact ⟨_, ce0z, cr0z⟩
      · injection hj with hj; subst hj; exact ⟨_, ce0u, cr0u⟩
      · simp at hj)⟩
    · injection hx with hx; subst hx; exact ⟨_, rfl, ag_agg (W := W) (l := [.sl .fro e1x 1 n1x row1x, .sl .fro e1y 1 n1y row1y, .sl .fro e1z 1 n1z row1z, .sl .fro e1u 1 n1u row1u]) (by rw [sz1]; kernel_rfl) (fun j c hj => by
      rcases j with _ | _ | _ | _ | j
      · injection hj with hj; subst hj; exact ⟨_, ce1x, cr1x⟩
      · injection hj with hj; subst hj; exact ⟨_, ce1y, cr1y⟩
      · injection hj with hj; subst hj; exact ⟨_, ce1z, cr1z⟩
      · injection hj with hj; subst hj; exact ⟨_, ce1u, cr1u⟩
      · simp at hj)⟩
    · simp at hx)
  refine hw.mono fun e W' ⟨he, bel⟩ => ?_
  subst he
  exact ⟨_, rfl, _, _, _, [], _, [], hW', trodAll_mk1 (shut_bool Try.underlying4 _), (trodAll_cons_mk (Below.trod laidOut (by kernel_rfl) (of_decide_eq_true (by kernel_rfl)) k0 bel lt0) (trodAll_cons_mk (Below.trod laidOut (by kernel_rfl) (of_decide_eq_true (by kernel_rfl)) k1 bel lt1) trodAll_mk0)), rfl, bel.frame _, fun h => by cases h⟩

theorem over : Rows.fnExactSameMemRow.holds Try.pinned (OpenSpec.ofChange Rows.fnExactSameMemSpec) :=
  OpenClaim.holds_of_wide 3 Try.f3 rfl rfl rfl rfl rfl rfl rfl ⟨rfl, rfl, rfl, rfl, rfl⟩ rfl rfl rfl rfl rfl (by kernel_rfl) Try.func3 (by kernel_rfl)
    (of_decide_eq_true (by kernel_rfl)) (by unfold Func.isWrapper; first | (rw [if_pos (by decide +kernel)]; kernel_rfl) | (rw [if_neg (by decide +kernel)]; exact ⟨rfl, rfl⟩))
    (fun os started H enc _ => lifted os started H enc)

theorem proved : Rows.FnExactSameMemSaid := over
end Go.Proofs.Ytofdaaajbkjocaa.fnExactSameMem
