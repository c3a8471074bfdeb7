/- For every shelf of bounded size the two Idle answer alike and leave the shelf as it was, so the law returns true; of a larger one it returns true at once. -/
import Derived.Test.YtlnlogflhagocaaRows
import Derived.WalkKit
import Derived.ProofKit
import Derived.OpenShut
import Derived.ShutString
import Derived.ChangeOld
import Derived.Below
import Derived.ChangeArms
import Derived.Test.YtlnlogflhagocaaFrame
import Derived.Test.YtlnlogflhagocaaZSD
namespace Go.Proofs.Ytlnlogflhagocaa.fnExactIdle
open Go.Proofs.Ytlnlogflhagocaa Go.Tr
open Go.ChangeShapes Go.WideShapes Go.ChangeAt Go.RowKit
set_option linter.unusedVariables false
set_option linter.unusedSimpArgs false

set_option maxRecDepth 100000 in
set_option maxHeartbeats 4000000 in
theorem law_run (e0x n0x : Nat) (row0x : Nat → Nat → C) (hn0x : n0x ≤ 9223372036854775807) (h0x : ∀ i r d, i < n0x → ([.i] : List Dt)[r]? = some d → DtOk d (row0x i r)) (e0y n0y : Nat) (row0y : Nat → Nat → C) (hn0y : n0y ≤ 9223372036854775807) (h0y : ∀ i r d, i < n0y → ([.i] : List Dt)[r]? = some d → DtOk d (row0y i r)) (e0z n0z : Nat) (row0z : Nat → Nat → C) (hn0z : n0z ≤ 9223372036854775807) (h0z : ∀ i r d, i < n0z → ([.sl [.i]] : List Dt)[r]? = some d → DtOk d (row0z i r)) (e0u n0u : Nat) (row0u : Nat → Nat → C) (hn0u : n0u ≤ 9223372036854775807) (h0u : ∀ i r d, i < n0u → ([.sl [.i]] : List Dt)[r]? = some d → DtOk d (row0u i r)) (a0v : Int) (w0v : -9223372036854775808 ≤ a0v ∧ a0v ≤ 9223372036854775807) (e0r n0r : Nat) (row0r : Nat → Nat → C) (hn0r : n0r ≤ 9223372036854775807) (h0r : ∀ i r d, i < n0r → ([.b, .i, .b, .i] : List Dt)[r]? = some d → DtOk d (row0r i r)) (e0s n0s : Nat) (row0s : Nat → Nat → C) (hn0s : n0s ≤ 9223372036854775807) (h0s : ∀ i r d, i < n0s → ([.sl [.i, .i]] : List Dt)[r]? = some d → DtOk d (row0s i r)) (e0t n0t : Nat) (row0t : Nat → Nat → C) (hn0t : n0t ≤ 9223372036854775807) (h0t : ∀ i r d, i < n0t → ([.i] : List Dt)[r]? = some d → DtOk d (row0t i r)) (e0k n0k : Nat) (row0k : Nat → Nat → C) (hn0k : n0k ≤ 9223372036854775807) (h0k : ∀ i r d, i < n0k → ([.i] : List Dt)[r]? = some d → DtOk d (row0k i r)) (e0l n0l : Nat) (row0l : Nat → Nat → C) (hn0l : n0l ≤ 9223372036854775807) (h0l : ∀ i r d, i < n0l → ([.b, .i, .i, .i, .i, .i, .i, .i, .i, .i, .i, .i, .i, .i, .i, .i, .b, .i, .i, .i, .i] : List Dt)[r]? = some d → DtOk d (row0l i r)) (e0m n0m : Nat) (row0m : Nat → Nat → C) (hn0m : n0m ≤ 9223372036854775807) (h0m : ∀ i r d, i < n0m → ([.sl [.i, .i, .i, .i]] : List Dt)[r]? = some d → DtOk d (row0m i r)) (e0n n0n : Nat) (row0n : Nat → Nat → C) (hn0n : n0n ≤ 9223372036854775807) (h0n : ∀ i r d, i < n0n → ([.i, .i, .i, .i, .i, .i, .i] : List Dt)[r]? = some d → DtOk d (row0n i r)) (a0o : Int) (w0o : -9223372036854775808 ≤ a0o ∧ a0o ≤ 9223372036854775807) :
    Run Try.prog 3 [.agg [.c (.sl .fro e0x 1 n0x row0x), .c (.sl .fro e0y 1 n0y row0y), .c (.sl .fro e0z 1 n0z row0z), .c (.sl .fro e0u 1 n0u row0u), .c (.lit (.int .i64 a0v)), .c (.sl .fro e0r 4 n0r row0r), .c (.sl .fro e0s 1 n0s row0s), .c (.sl .fro e0t 1 n0t row0t), .c (.sl .fro e0k 1 n0k row0k), .c (.sl .fro e0l 21 n0l row0l), .c (.sl .fro e0m 1 n0m row0m), .c (.sl .fro e0n 7 n0n row0n), .c (.lit (.int .i64 a0o))]] [] fun outs ext => outs = [.one (.lit (.bool true))] ∧ ext = [] := by
  obtain ⟨b, lb, pb, sb⟩ := ints_of (e := e0x) hn0x h0x
  obtain ⟨c, lc, pc, sc⟩ := ints_of (e := e0y) hn0y h0y
  obtain ⟨g, lg, pg, sg⟩ := lists_of (e := e0z) (e' := 0) hn0z h0z
  obtain ⟨o, lo, po, so⟩ := lists_of (e := e0u) (e' := 0) hn0u h0u
  obtain ⟨t, lt, pt, st⟩ := Pins_of (e := e0r) (e' := 0) hn0r h0r
  obtain ⟨l, ll, pl, sl⟩ := llists_of (e := e0s) (e' := 0) (e2 := 0) hn0s h0s
  obtain ⟨z, lz, pz, sz⟩ := ints_of (e := e0t) hn0t h0t
  obtain ⟨k, lk, pk, sk⟩ := ints_of (e := e0k) hn0k h0k
  obtain ⟨j, lj, pj, sj⟩ := Jobs_of (e := e0l) (e' := 0) hn0l h0l
  obtain ⟨w, lw, pw, sw⟩ := queues_of (e := e0m) (e' := 0) (e2 := 0) hn0m h0m
  obtain ⟨v, lv, pv, sv⟩ := Evs_of (e := e0n) (e' := 0) hn0n h0n
  have h := Idle_law b c g o a0v t l z k j w v a0o ⟨⟨⟨by omega, by omega, by omega, by omega, getD_le fun x hx => (pg x hx).1, getD_le fun x hx => (po x hx).1⟩, by omega, by omega, getD_leR fun x hx => (pl x hx).1, by omega⟩, by omega, by omega, by omega, getD_leR fun x hx => pw x hx, by omega⟩
  exact Run.args (by exact ⟨⟨sb, sc, sg, so, rfl, st, sl, sz, sk, sj, sw, sv, rfl, trivial⟩, trivial⟩) h.run

set_option maxRecDepth 100000 in
theorem dsOk0 : TyDs Try.prog 40 [.sl [.i], .sl [.i], .sl [.sl [.i]], .sl [.sl [.i]], .i, .sl [.b, .i, .b, .i], .sl [.sl [.i, .i]], .sl [.i], .sl [.i], .sl [.b, .i, .i, .i, .i, .i, .i, .i, .i, .i, .i, .i, .i, .i, .i, .i, .b, .i, .i, .i, .i], .sl [.sl [.i, .i, .i, .i]], .sl [.i, .i, .i, .i, .i, .i, .i], .i] := (TyDs.struct Try.underlying40 (FsDs.cons (TyDs.struct Try.underlying35 (FsDs.cons (TyDs.struct Try.underlying29 (FsDs.cons (TyDs.struct Try.underlying24 (FsDs.cons (TyDs.slice Try.underlying22 (TyDs.int Try.underlying3) (by kernel_rfl) (by decide)) rfl (by kernel_rfl) (FsDs.cons (TyDs.slice Try.underlying22 (TyDs.int Try.underlying3) (by kernel_rfl) (by decide)) rfl (by kernel_rfl) FsDs.nil)) (by kernel_rfl)) rfl (by kernel_rfl) (FsDs.cons (TyDs.struct Try.underlying27 (FsDs.cons (TyDs.slice Try.underlying25 (TyDs.struct Try.underlying340 (FsDs.cons (TyDs.slice Try.underlying22 (TyDs.int Try.underlying3) (by kernel_rfl) (by decide)) rfl (by kernel_rfl) FsDs.nil) (by kernel_rfl)) (by kernel_rfl) (by decide)) rfl (by kernel_rfl) (FsDs.cons (TyDs.slice Try.underlying25 (TyDs.struct Try.underlying340 (FsDs.cons (TyDs.slice Try.underlying22 (TyDs.int Try.underlying3) (by kernel_rfl) (by decide)) rfl (by kernel_rfl) FsDs.nil) (by kernel_rfl)) (by kernel_rfl) (by decide)) rfl (by kernel_rfl) FsDs.nil)) (by kernel_rfl)) rfl (by kernel_rfl) FsDs.nil)) (by kernel_rfl)) rfl (by kernel_rfl) (FsDs.cons (TyDs.struct Try.underlying32 (FsDs.cons (TyDs.int Try.underlying3) rfl (by kernel_rfl) (FsDs.cons (TyDs.slice Try.underlying30 (TyDs.struct Try.underlying312 (FsDs.cons (TyDs.bool Try.underlying4) rfl (by kernel_rfl) (FsDs.cons (TyDs.int Try.underlying3) rfl (by kernel_rfl) (FsDs.cons (TyDs.bool Try.underlying4) rfl (by kernel_rfl) (FsDs.cons (TyDs.int Try.underlying3) rfl (by kernel_rfl) FsDs.nil)))) (by kernel_rfl)) (by kernel_rfl) (by decide)) rfl (by kernel_rfl) FsDs.nil)) (by kernel_rfl)) rfl (by kernel_rfl) (FsDs.cons (TyDs.slice Try.underlying33 (TyDs.struct Try.underlying256 (FsDs.cons (TyDs.slice Try.underlying254 (TyDs.struct Try.underlying343 (FsDs.cons (TyDs.int Try.underlying3) rfl (by kernel_rfl) (FsDs.cons (TyDs.int Try.underlying3) rfl (by kernel_rfl) FsDs.nil)) (by kernel_rfl)) (by kernel_rfl) (by decide)) rfl (by kernel_rfl) FsDs.nil) (by kernel_rfl)) (by kernel_rfl) (by decide)) rfl (by kernel_rfl) (FsDs.cons (TyDs.slice Try.underlying22 (TyDs.int Try.underlying3) (by kernel_rfl) (by decide)) rfl (by kernel_rfl) FsDs.nil)))) (by kernel_rfl)) rfl (by kernel_rfl) (FsDs.cons (TyDs.slice Try.underlying22 (TyDs.int Try.underlying3) (by kernel_rfl) (by decide)) rfl (by kernel_rfl) (FsDs.cons (TyDs.slice Try.underlying36 (TyDs.struct Try.underlying193 (FsDs.cons (TyDs.bool Try.underlying4) rfl (by kernel_rfl) (FsDs.cons (TyDs.struct Try.underlying190 (FsDs.cons (TyDs.int Try.underlying3) rfl (by kernel_rfl) (FsDs.cons (TyDs.int Try.underlying3) rfl (by kernel_rfl) (FsDs.cons (TyDs.int Try.underlying3) rfl (by kernel_rfl) (FsDs.cons (TyDs.int Try.underlying3) rfl (by kernel_rfl) FsDs.nil)))) (by kernel_rfl)) rfl (by kernel_rfl) (FsDs.cons (TyDs.int Try.underlying3) rfl (by kernel_rfl) (FsDs.cons (TyDs.int Try.underlying3) rfl (by kernel_rfl) (FsDs.cons (TyDs.struct Try.underlying191 (FsDs.cons (TyDs.int Try.underlying3) rfl (by kernel_rfl) (FsDs.cons (TyDs.int Try.underlying3) rfl (by kernel_rfl) (FsDs.cons (TyDs.int Try.underlying3) rfl (by kernel_rfl) (FsDs.cons (TyDs.int Try.underlying3) rfl (by kernel_rfl) (FsDs.cons (TyDs.int Try.underlying3) rfl (by kernel_rfl) (FsDs.cons (TyDs.int Try.underlying3) rfl (by kernel_rfl) (FsDs.cons (TyDs.int Try.underlying3) rfl (by kernel_rfl) (FsDs.cons (TyDs.int Try.underlying3) rfl (by kernel_rfl) (FsDs.cons (TyDs.int Try.underlying3) rfl (by kernel_rfl) (FsDs.cons (TyDs.bool Try.underlying4) rfl (by kernel_rfl) FsDs.nil)))))))))) (by kernel_rfl)) rfl (by kernel_rfl) (FsDs.cons (TyDs.int Try.underlying3) rfl (by kernel_rfl) (FsDs.cons (TyDs.int Try.underlying3) rfl (by kernel_rfl) (FsDs.cons (TyDs.int Try.underlying3) rfl (by kernel_rfl) (FsDs.cons (TyDs.int Try.underlying3) rfl (by kernel_rfl) FsDs.nil))))))))) (by kernel_rfl)) (by kernel_rfl) (by decide)) rfl (by kernel_rfl) (FsDs.cons (TyDs.slice Try.underlying37 (TyDs.struct Try.underlying131 (FsDs.cons (TyDs.slice Try.underlying129 (TyDs.struct Try.underlying190 (FsDs.cons (TyDs.int Try.underlying3) rfl (by kernel_rfl) (FsDs.cons (TyDs.int Try.underlying3) rfl (by kernel_rfl) (FsDs.cons (TyDs.int Try.underlying3) rfl (by kernel_rfl) (FsDs.cons (TyDs.int Try.underlying3) rfl (by kernel_rfl) FsDs.nil)))) (by kernel_rfl)) (by kernel_rfl) (by decide)) rfl (by kernel_rfl) FsDs.nil) (by kernel_rfl)) (by kernel_rfl) (by decide)) rfl (by kernel_rfl) (FsDs.cons (TyDs.slice Try.underlying38 (TyDs.struct Try.underlying195 (FsDs.cons (TyDs.int Try.underlying3) rfl (by kernel_rfl) (FsDs.cons (TyDs.int Try.underlying3) rfl (by kernel_rfl) (FsDs.cons (TyDs.int Try.underlying3) rfl (by kernel_rfl) (FsDs.cons (TyDs.int Try.underlying3) rfl (by kernel_rfl) (FsDs.cons (TyDs.int Try.underlying3) rfl (by kernel_rfl) (FsDs.cons (TyDs.int Try.underlying3) rfl (by kernel_rfl) (FsDs.cons (TyDs.int Try.underlying3) rfl (by kernel_rfl) FsDs.nil))))))) (by kernel_rfl)) (by kernel_rfl) (by decide)) rfl (by kernel_rfl) (FsDs.cons (TyDs.int Try.underlying3) rfl (by kernel_rfl) FsDs.nil)))))) (by kernel_rfl))
set_option maxRecDepth 100000 in
theorem lifted (os : Os) (started : os.Started) (H : Type) (enc : TypeId × Value → H) :
    ReturnsInHanded {} Try.checked os 3 .any (Rows.fnExactIdleSpec.pre6 enc Try.prog Try.f3 Rows.fnExactIdleRow.domain false) (Rows.fnExactIdleSpec.post enc Try.prog Try.f3 false true false false) := by
  refine returnsInHanded_of_change (C := Try.checked) own started (by kernel_rfl) Try.func3
    (ChangeSpec.witness6 (enc := enc) (C := Try.checked) false ⟨#[], #[.agg #[.slice none 0 0, .slice none 0 0, .slice none 0 0, .slice none 0 0, .int .i64 0, .slice none 0 0, .slice none 0 0, .slice none 0 0, .slice none 0 0, .slice none 0 0, .slice none 0 0, .slice none 0 0, .int .i64 0]], []⟩ 8 (by kernel_rfl) (by kernel_rfl) (by kernel_rfl) (by kernel_rfl)) ?_
  intro W base args ds gs before hval0 hW hcnd _
  have hval : ∀ (j : Nat) t v, Try.f3.params[j]? = some t → args[j]? = some v → Value.okWide Try.prog W .any base t v := hval0
  have hW' := hW
  obtain ⟨p, q, hA0, hV, rfl, hfz, hnd⟩ := hW
  have hA : DataW.TrodAll enc Try.prog W 0 (fun _ => true) true Try.f3.params.toList args.toList ds p := hA0
  rw [Try.params3] at hA hval
  obtain ⟨v0, vs0, d0, ds0, p0, q0, hargs, rfl, rfl, h0, r0⟩ := trodAll_cons hA
  obtain ⟨rfl, rfl, rfl⟩ := trodAll_nil r0
  obtain rfl : args = #[v0] := by cases args; simp_all
  obtain ⟨rfl, rfl⟩ := trodVars_none hV
  have k0 := h0
  have lt0 : ∀ x ∈ p0, x.block < W.heap.size := by obtain ⟨m, hm⟩ := k0; exact DataW.trod_lt m _ _ _ hm
  have tr0 := arg_tree h0 dsOk0
  obtain ⟨cs0, rfl, sz0⟩ := okWide_struct Try.underlying40 (hval 0 40 v0 rfl rfl)
  obtain ⟨u0x, c0x, ce0x, ok0x, cr0x⟩ := tr0 0 _ rfl
  obtain ⟨e0x, n0x, row0x, rfl, hn0x, h0x⟩ := ok0x.slice
  obtain ⟨u0y, c0y, ce0y, ok0y, cr0y⟩ := tr0 1 _ rfl
  obtain ⟨e0y, n0y, row0y, rfl, hn0y, h0y⟩ := ok0y.slice
  obtain ⟨u0z, c0z, ce0z, ok0z, cr0z⟩ := tr0 2 _ rfl
  obtain ⟨e0z, n0z, row0z, rfl, hn0z, h0z⟩ := ok0z.slice
  obtain ⟨u0u, c0u, ce0u, ok0u, cr0u⟩ := tr0 3 _ rfl
  obtain ⟨e0u, n0u, row0u, rfl, hn0u, h0u⟩ := ok0u.slice
  obtain ⟨u0v, c0v, ce0v, ok0v, cr0v⟩ := tr0 4 _ rfl
  obtain ⟨a0v, rfl, w0v⟩ := ok0v.int
  obtain ⟨u0r, c0r, ce0r, ok0r, cr0r⟩ := tr0 5 _ rfl
  obtain ⟨e0r, n0r, row0r, rfl, hn0r, h0r⟩ := ok0r.slice
  obtain ⟨u0s, c0s, ce0s, ok0s, cr0s⟩ := tr0 6 _ rfl
  obtain ⟨e0s, n0s, row0s, rfl, hn0s, h0s⟩ := ok0s.slice
  obtain ⟨u0t, c0t, ce0t, ok0t, cr0t⟩ := tr0 7 _ rfl
  obtain ⟨e0t, n0t, row0t, rfl, hn0t, h0t⟩ := ok0t.slice
  obtain ⟨u0k, c0k, ce0k, ok0k, cr0k⟩ := tr0 8 _ rfl
  obtain ⟨e0k, n0k, row0k, rfl, hn0k, h0k⟩ := ok0k.slice
  obtain ⟨u0l, c0l, ce0l, ok0l, cr0l⟩ := tr0 9 _ rfl
  obtain ⟨e0l, n0l, row0l, rfl, hn0l, h0l⟩ := ok0l.slice
  obtain ⟨u0m, c0m, ce0m, ok0m, cr0m⟩ := tr0 10 _ rfl
  obtain ⟨e0m, n0m, row0m, rfl, hn0m, h0m⟩ := ok0m.slice
  obtain ⟨u0n, c0n, ce0n, ok0n, cr0n⟩ := tr0 11 _ rfl
  obtain ⟨e0n, n0n, row0n, rfl, hn0n, h0n⟩ := ok0n.slice
  obtain ⟨u0o, c0o, ce0o, ok0o, cr0o⟩ := tr0 12 _ rfl
  obtain ⟨a0o, rfl, w0o⟩ := ok0o.int
  clear hA0 hval0
  have hw := Run.law (W := W) (cargs := #[.agg cs0]) (law_run e0x n0x row0x hn0x h0x e0y n0y row0y hn0y h0y e0z n0z row0z hn0z h0z e0u n0u row0u hn0u h0u a0v w0v e0r n0r row0r hn0r h0r e0s n0s row0s hn0s h0s e0t n0t row0t hn0t h0t e0k n0k row0k hn0k h0k e0l n0l row0l hn0l h0l e0m n0m row0m hn0m h0m e0n n0n row0n hn0n h0n a0o w0o) rfl (fun i x hx => by
    rcases i with _ | i
    · injection hx with hx; subst hx; exact ⟨_, rfl, ag_agg (W := W) (l := [.sl .fro e0x 1 n0x row0x, .sl .fro e0y 1 n0y row0y, .sl .fro e0z 1 n0z row0z, .sl .fro e0u 1 n0u row0u, .lit (.int .i64 a0v), .sl .fro e0r 4 n0r row0r, .sl .fro e0s 1 n0s row0s, .sl .fro e0t 1 n0t row0t, .sl .fro e0k 1 n0k row0k, .sl .fro e0l 21 n0l row0l, .sl .fro e0m 1 n0m row0m, .sl .fro e0n 7 n0n row0n, .lit (.int .i64 a0o)]) (by rw [sz0]; kernel_rfl) (fun j c hj => by
      rcases j with _ | _ | _ | _ | _ | _ | _ | _ | _ | _ | _ | _ | _ | j
      · injection hj with hj; subst hj; exact ⟨_, ce0x, cr0x⟩
      · injection hj with hj; subst hj; exact ⟨_, ce0y, cr0y⟩
      · injection hj with hj; subst hj; exact ⟨_, ce0z, cr0z⟩
      · injection hj with hj; subst hj; exact ⟨_, ce0u, cr0u⟩
      · injection hj with hj; subst hj; exact ⟨_, ce0v, cr0v⟩
      · injection hj with hj; subst hj; exact ⟨_, ce0r, cr0r⟩
      · injection hj with hj; subst hj; exact ⟨_, ce0s, cr0s⟩
      · injection hj with hj; subst hj; exact ⟨_, ce0t, cr0t⟩
      · injection hj with hj; subst hj; exact ⟨_, ce0k, cr0k⟩
      · injection hj with hj; subst hj; exact ⟨_, ce0l, cr0l⟩
      · injection hj with hj; subst hj; exact ⟨_, ce0m, cr0m⟩
      · injection hj with hj; subst hj; exact ⟨_, ce0n, cr0n⟩
      · injection hj with hj; subst hj; exact ⟨_, ce0o, cr0o⟩
      · simp at hj)⟩
    · simp at hx)
  refine hw.mono fun e W' ⟨he, bel⟩ => ?_
  subst he
  exact ⟨_, rfl, _, _, _, [], _, [], hW', trodAll_mk1 (shut_bool Try.underlying4 _), (trodAll_cons_mk (Below.trod laidOut (by kernel_rfl) (of_decide_eq_true (by kernel_rfl)) k0 bel lt0) trodAll_mk0), rfl, bel.frame _, fun h => by cases h⟩

theorem jf_wf : Rows.fnExactIdleRow.wf (OpenSpec.ofChange Rows.fnExactIdleSpec) = true := by kernel_rfl
theorem jf_lo : laidOutB Try.prog = true := by kernel_rfl
theorem jf_mr : mapsRowed Try.prog = true := by kernel_rfl
theorem jf_ip : (Rows.fnExactIdleRow.inPlace == Try.prog.inPlace 3) = true := by kernel_rfl
theorem jf_uf : (Rows.fnExactIdleRow.unfollowed == Try.prog.unfollowed 3) = true := by kernel_rfl
theorem jf_rc : (Rows.fnExactIdleRow.recurses == Try.prog.recurses 3) = true := by kernel_rfl
theorem jf_vn : (Rows.fnExactIdleRow.named == Try.prog.varsNamed 3) = true := by kernel_rfl
theorem jf_pk : (Rows.fnExactIdleRow.plainKeys == Try.prog.plainKeys) = true := by kernel_rfl
theorem jf_named : Try.prog.funcNamed "loop.example/g01538/laws.FnExactIdle" = some 3 := by kernel_rfl
theorem jf_all : joinedFacts Try.prog 3 Try.f3 Rows.fnExactIdleSpec Rows.fnExactIdleRow = true := by
  unfold joinedFacts
  simp only [Bool.and_eq_true]
  repeat' apply And.intro
  all_goals first | with_reducible exact jf_wf | with_reducible exact jf_lo | with_reducible exact jf_mr | with_reducible exact jf_ip | with_reducible exact jf_uf | with_reducible exact jf_rc | with_reducible exact jf_vn | with_reducible exact jf_pk | kernel_rfl

theorem over : Rows.fnExactIdleRow.holds Try.pinned (OpenSpec.ofChange Rows.fnExactIdleSpec) :=
  OpenClaim.holds_of_wide 3 Try.f3 rfl rfl rfl rfl rfl rfl rfl ⟨rfl, rfl, rfl, rfl, rfl⟩ rfl rfl rfl rfl rfl jf_named Try.func3 jf_all
    (of_decide_eq_true (by kernel_rfl)) (by unfold Func.isWrapper; first | (rw [if_pos (by decide +kernel)]; kernel_rfl) | (rw [if_neg (by decide +kernel)]; exact ⟨rfl, rfl⟩))
    (fun os started H enc _ => lifted os started H enc)

theorem proved : Rows.FnExactIdleSaid := over
end Go.Proofs.Ytlnlogflhagocaa.fnExactIdle
