/- For every base of bounded size, every number, place and width the two RawLoad give the same number and code and leave the base as it was, so the law returns true (the table of slot sizes reads as the program lays it); of a larger one it returns true at once. -/
import Derived.Test.YtpmhkpmkmbkjbaaDoorRows
import Derived.WalkKit
import Derived.ProofKit
import Derived.OpenShut
import Derived.ShutString
import Derived.ChangeOld
import Derived.Below
import Derived.ChangeArms
import Derived.Test.YtpmhkpmkmbkjbaaDoorFrame
import Derived.Test.YtpmhkpmkmbkjbaaDoorTie
import Derived.Test.YtpmhkpmkmbkjbaaDoorCards
import Derived.LaidMore
import Derived.Lay
import Derived.SevenTiedAt
import Derived.Stop.Joined
import Derived.OpenVars
import Derived.Test.YtpmhkpmkmbkjbaaDoorZP
import Derived.Test.YtpmhkpmkmbkjbaaDoorZNR2
namespace Go.Proofs.YtpmhkpmkmbkjbaaDoor.fnExactRawLoad
open Go.Proofs.YtpmhkpmkmbkjbaaDoor Go.Tr
open Go.ChangeShapes Go.WideShapes Go.ChangeAt Go.RowKit
set_option linter.unusedVariables false
set_option linter.unusedSimpArgs false

set_option maxRecDepth 100000 in
set_option maxHeartbeats 4000000 in
theorem law_run (e0x n0x : Nat) (row0x : Nat → Nat → C) (hn0x : n0x ≤ 9223372036854775807) (h0x : ∀ i r d, i < n0x → ([.i] : List Dt)[r]? = some d → DtOk d (row0x i r)) (e0y n0y : Nat) (row0y : Nat → Nat → C) (hn0y : n0y ≤ 9223372036854775807) (h0y : ∀ i r d, i < n0y → ([.i] : List Dt)[r]? = some d → DtOk d (row0y i r)) (e0z n0z : Nat) (row0z : Nat → Nat → C) (hn0z : n0z ≤ 9223372036854775807) (h0z : ∀ i r d, i < n0z → ([.sl [.i]] : List Dt)[r]? = some d → DtOk d (row0z i r)) (e0u n0u : Nat) (row0u : Nat → Nat → C) (hn0u : n0u ≤ 9223372036854775807) (h0u : ∀ i r d, i < n0u → ([.sl [.i]] : List Dt)[r]? = some d → DtOk d (row0u i r)) (a0v : Int) (w0v : -9223372036854775808 ≤ a0v ∧ a0v ≤ 9223372036854775807) (e0r n0r : Nat) (row0r : Nat → Nat → C) (hn0r : n0r ≤ 9223372036854775807) (h0r : ∀ i r d, i < n0r → ([.b, .i, .b, .i] : List Dt)[r]? = some d → DtOk d (row0r i r)) (e0s n0s : Nat) (row0s : Nat → Nat → C) (hn0s : n0s ≤ 9223372036854775807) (h0s : ∀ i r d, i < n0s → ([.sl [.i, .i]] : List Dt)[r]? = some d → DtOk d (row0s i r)) (e0t n0t : Nat) (row0t : Nat → Nat → C) (hn0t : n0t ≤ 9223372036854775807) (h0t : ∀ i r d, i < n0t → ([.i] : List Dt)[r]? = some d → DtOk d (row0t i r)) (a1 : Int) (w1 : -9223372036854775808 ≤ a1 ∧ a1 ≤ 9223372036854775807) (a2 : Int) (w2 : -9223372036854775808 ≤ a2 ∧ a2 ≤ 9223372036854775807) (a3 : Int) (w3 : -9223372036854775808 ≤ a3 ∧ a3 ≤ 9223372036854775807) :
    RunP Tryd.prog hT 6 [.agg [.c (.sl .fro e0x 1 n0x row0x), .c (.sl .fro e0y 1 n0y row0y), .c (.sl .fro e0z 1 n0z row0z), .c (.sl .fro e0u 1 n0u row0u), .c (.lit (.int .i64 a0v)), .c (.sl .fro e0r 4 n0r row0r), .c (.sl .fro e0s 1 n0s row0s), .c (.sl .fro e0t 1 n0t row0t)], .one (.c (.lit (.int .i64 a1))), .one (.c (.lit (.int .i64 a2))), .one (.c (.lit (.int .i64 a3)))] [] fun outs ext => outs = [.one (.lit (.bool true))] ∧ ext = [] := by
  obtain ⟨b, lb, pb, sb⟩ := ints_of (e := e0x) hn0x h0x
  obtain ⟨c, lc, pc, sc⟩ := ints_of (e := e0y) hn0y h0y
  obtain ⟨g, lg, pg, sg⟩ := lists_of (e := e0z) (e' := 0) hn0z h0z
  obtain ⟨o, lo, po, so⟩ := lists_of (e := e0u) (e' := 0) hn0u h0u
  obtain ⟨t, lt, pt, st⟩ := Pins_of (e := e0r) (e' := 0) hn0r h0r
  obtain ⟨l, ll, pl, sl⟩ := llists_of (e := e0s) (e' := 0) (e2 := 0) hn0s h0s
  obtain ⟨z, lz, pz, sz⟩ := ints_of (e := e0t) hn0t h0t
  have h := RawLoad_law b c g o a0v t l z a1 a2 a3 ⟨⟨by omega, by omega, by omega, by omega, getD_le fun x hx => (pg x hx).1, getD_le fun x hx => (po x hx).1⟩, by omega, by omega, getD_leR fun x hx => (pl x hx).1, by omega⟩ w1.2 w2
  exact RunP.args (by exact ⟨⟨sb, sc, sg, so, rfl, st, sl, sz, trivial⟩, rfl, rfl, rfl, trivial⟩) h.run

set_option maxRecDepth 100000 in
theorem dsOk0 : TyDs Tryd.prog 62 [.sl [.i], .sl [.i], .sl [.sl [.i]], .sl [.sl [.i]], .i, .sl [.b, .i, .b, .i], .sl [.sl [.i, .i]], .sl [.i]] := (TyDs.struct Tryd.underlying62 (FsDs.cons (TyDs.struct Tryd.underlying42 (FsDs.cons (TyDs.struct Tryd.underlying24 (FsDs.cons (TyDs.slice Tryd.underlying22 (TyDs.int Tryd.underlying3) (by kernel_rfl) (by decide)) rfl (by kernel_rfl) (FsDs.cons (TyDs.slice Tryd.underlying22 (TyDs.int Tryd.underlying3) (by kernel_rfl) (by decide)) rfl (by kernel_rfl) FsDs.nil)) (by kernel_rfl)) rfl (by kernel_rfl) (FsDs.cons (TyDs.struct Tryd.underlying40 (FsDs.cons (TyDs.slice Tryd.underlying38 (TyDs.struct Tryd.underlying128 (FsDs.cons (TyDs.slice Tryd.underlying22 (TyDs.int Tryd.underlying3) (by kernel_rfl) (by decide)) rfl (by kernel_rfl) FsDs.nil) (by kernel_rfl)) (by kernel_rfl) (by decide)) rfl (by kernel_rfl) (FsDs.cons (TyDs.slice Tryd.underlying38 (TyDs.struct Tryd.underlying128 (FsDs.cons (TyDs.slice Tryd.underlying22 (TyDs.int Tryd.underlying3) (by kernel_rfl) (by decide)) rfl (by kernel_rfl) FsDs.nil) (by kernel_rfl)) (by kernel_rfl) (by decide)) rfl (by kernel_rfl) FsDs.nil)) (by kernel_rfl)) rfl (by kernel_rfl) FsDs.nil)) (by kernel_rfl)) rfl (by kernel_rfl) (FsDs.cons (TyDs.struct Tryd.underlying59 (FsDs.cons (TyDs.int Tryd.underlying3) rfl (by kernel_rfl) (FsDs.cons (TyDs.slice Tryd.underlying57 (TyDs.struct Tryd.underlying137 (FsDs.cons (TyDs.bool Tryd.underlying4) rfl (by kernel_rfl) (FsDs.cons (TyDs.int Tryd.underlying3) rfl (by kernel_rfl) (FsDs.cons (TyDs.bool Tryd.underlying4) rfl (by kernel_rfl) (FsDs.cons (TyDs.int Tryd.underlying3) rfl (by kernel_rfl) FsDs.nil)))) (by kernel_rfl)) (by kernel_rfl) (by decide)) rfl (by kernel_rfl) FsDs.nil)) (by kernel_rfl)) rfl (by kernel_rfl) (FsDs.cons (TyDs.slice Tryd.underlying60 (TyDs.struct Tryd.underlying116 (FsDs.cons (TyDs.slice Tryd.underlying114 (TyDs.struct Tryd.underlying146 (FsDs.cons (TyDs.int Tryd.underlying3) rfl (by kernel_rfl) (FsDs.cons (TyDs.int Tryd.underlying3) rfl (by kernel_rfl) FsDs.nil)) (by kernel_rfl)) (by kernel_rfl) (by decide)) rfl (by kernel_rfl) FsDs.nil) (by kernel_rfl)) (by kernel_rfl) (by decide)) rfl (by kernel_rfl) (FsDs.cons (TyDs.slice Tryd.underlying22 (TyDs.int Tryd.underlying3) (by kernel_rfl) (by decide)) rfl (by kernel_rfl) FsDs.nil)))) (by kernel_rfl))
theorem door_met (os : Os) (args : Array Value) : laidMetH Tryd.prog Rows.fnExactRawLoadRow.laid ((World.doorLaid Tryd.prog 400 os).forCall (fun _ _ => 0) ⟨#[], args, []⟩).memory :=
  laidMetH_of_parts3 (fuel := 8) (laidMet_of_run' 8 (by kernel_rfl) (by kernel_rfl)) (by kernel_rfl) (by kernel_rfl)

set_option maxRecDepth 100000 in
theorem lifted (os : Os) (started : os.Started) (H : Type) (enc : TypeId × Value → H) :
    ReturnsInHanded {} Tryd.checked os 6 .any (fun w args => (Rows.fnExactRawLoadSpec.pre enc Tryd.prog Tryd.f6 [] false w args ∧ laidMetH Tryd.prog Rows.fnExactRawLoadRow.laid w) ∧ sizedMet enc Tryd.prog Tryd.f6 (OpenSpec.ofChange Rows.fnExactRawLoadSpec) false w args) (Rows.fnExactRawLoadSpec.post enc Tryd.prog Tryd.f6 false true false false) := by
  refine returnsInHanded_of_change_and (C := Tryd.checked) (X := fun w _ => laidMetH Tryd.prog Rows.fnExactRawLoadRow.laid w) (fun _ _ _ hh h => h.of_heap hh) own started (by kernel_rfl) Tryd.func6
    (ChangeSpec.witness_shaped (enc := enc) (C := Tryd.checked) (os := os) (X := fun w _ => laidMetH Tryd.prog Rows.fnExactRawLoadRow.laid w) false (World.doorLaid Tryd.prog 400 os) #[.agg #[.slice none 0 0, .slice none 0 0, .slice none 0 0, .slice none 0 0, .int .i64 0, .slice none 0 0, .slice none 0 0, .slice none 0 0], .int .i64 0, .int .i64 0, .int .i64 0] 8 rfl (World.shaped_of_RefB (by kernel_rfl) (by kernel_rfl)) (by kernel_rfl) (by kernel_rfl) (by kernel_rfl) (door_met os _)) ?_
  intro W base args ds gs before hval0 hW hcnd _ hL _
  have hval : ∀ (j : Nat) t v, Tryd.f6.params[j]? = some t → args[j]? = some v → Value.okWide Tryd.prog W .any base t v := hval0
  have hW' := hW
  obtain ⟨p, q, hA0, hV, rfl, hfz, hnd⟩ := hW
  have hA : DataW.TrodAll enc Tryd.prog W 0 (fun _ => true) true Tryd.f6.params.toList args.toList ds p := hA0
  rw [Tryd.params6] at hA hval
  obtain ⟨v0, vs0, d0, ds0, p0, q0, hargs, rfl, rfl, h0, r0⟩ := trodAll_cons hA
  obtain ⟨v1, vs1, d1, ds1, p1, q1, rfl, rfl, rfl, h1, r1⟩ := trodAll_cons r0
  obtain ⟨v2, vs2, d2, ds2, p2, q2, rfl, rfl, rfl, h2, r2⟩ := trodAll_cons r1
  obtain ⟨v3, vs3, d3, ds3, p3, q3, rfl, rfl, rfl, h3, r3⟩ := trodAll_cons r2
  obtain ⟨rfl, rfl, rfl⟩ := trodAll_nil r3
  obtain rfl : args = #[v0, v1, v2, v3] := by cases args; simp_all
  obtain ⟨gv0, rfl⟩ : ∃ gv0, gs = [gv0] := by
    match gs, vars_len hV with
    | [gv0], _ => exact ⟨gv0, rfl⟩
  have k0 := h0
  have lt0 : ∀ x ∈ p0, x.block < W.heap.size := by obtain ⟨m, hm⟩ := k0; exact DataW.trod_lt m _ _ _ hm
  have tr0 := arg_tree h0 dsOk0
  obtain ⟨cs0, rfl, sz0⟩ := okWide_struct Tryd.underlying62 (hval 0 62 v0 rfl rfl)
  obtain ⟨u0x, c0x, ce0x, ok0x, cr0x⟩ := tr0 0 _ rfl
  obtain ⟨e0x, n0x, row0x, rfl, hn0x, h0x⟩ := ok0x.slice
  obtain ⟨u0y, c0y, ce0y, ok0y, cr0y⟩ := tr0 1 _ rfl
  obtain ⟨e0y, n0y, row0y, rfl, hn0y, h0y⟩ := ok0y.slice
  obtain ⟨u0z, c0z, ce0z, ok0z, cr0z⟩ := tr0 2 _ rfl
  obtain ⟨e0z, n0z, row0z, rfl, hn0z, h0z⟩ := ok0z.slice
  obtain ⟨u0u, c0u, ce0u, ok0u, cr0u⟩ := tr0 3 _ rfl
  obtain ⟨e0u, n0u, row0u, rfl, hn0u, h0u⟩ := ok0u.slice
  obtain ⟨u0v, c0v, ce0v, ok0v, cr0v⟩ := tr0 4 _ rfl
  obtain ⟨a0v, rfl, w0v⟩ := ok0v.int
  obtain ⟨u0r, c0r, ce0r, ok0r, cr0r⟩ := tr0 5 _ rfl
  obtain ⟨e0r, n0r, row0r, rfl, hn0r, h0r⟩ := ok0r.slice
  obtain ⟨u0s, c0s, ce0s, ok0s, cr0s⟩ := tr0 6 _ rfl
  obtain ⟨e0s, n0s, row0s, rfl, hn0s, h0s⟩ := ok0s.slice
  obtain ⟨u0t, c0t, ce0t, ok0t, cr0t⟩ := tr0 7 _ rfl
  obtain ⟨e0t, n0t, row0t, rfl, hn0t, h0t⟩ := ok0t.slice
  obtain ⟨a1, rfl, rfl, rfl, u1⟩ := open_int Tryd.underlying3 (hval 1 3 v1 rfl rfl) h1
  have w1 := wf_in u1
  obtain ⟨a2, rfl, rfl, rfl, u2⟩ := open_int Tryd.underlying3 (hval 2 3 v2 rfl rfl) h2
  have w2 := wf_in u2
  obtain ⟨a3, rfl, rfl, rfl, u3⟩ := open_int Tryd.underlying3 (hval 3 3 v3 rfl rfl) h3
  have w3 := wf_in u3
  clear hA0 hval0
  have hw := RunP.law (W := W) (cargs := #[.agg cs0, .int .i64 a1, .int .i64 a2, .int .i64 a3]) (law_run e0x n0x row0x hn0x h0x e0y n0y row0y hn0y h0y e0z n0z row0z hn0z h0z e0u n0u row0u hn0u h0u a0v w0v e0r n0r row0r hn0r h0r e0s n0s row0s hn0s h0s e0t n0t row0t hn0t h0t a1 w1 a2 w2 a3 w3) (hT_of (tab_of_laid hL)) rfl (fun i x hx => by
    rcases i with _ | _ | _ | _ | i
    · injection hx with hx; subst hx; exact ⟨_, rfl, ag_agg (W := W) (l := [.sl .fro e0x 1 n0x row0x, .sl .fro e0y 1 n0y row0y, .sl .fro e0z 1 n0z row0z, .sl .fro e0u 1 n0u row0u, .lit (.int .i64 a0v), .sl .fro e0r 4 n0r row0r, .sl .fro e0s 1 n0s row0s, .sl .fro e0t 1 n0t row0t]) (by rw [sz0]; kernel_rfl) (fun j c hj => by
      rcases j with _ | _ | _ | _ | _ | _ | _ | _ | j
      · injection hj with hj; subst hj; exact ⟨_, ce0x, cr0x⟩
      · injection hj with hj; subst hj; exact ⟨_, ce0y, cr0y⟩
      · injection hj with hj; subst hj; exact ⟨_, ce0z, cr0z⟩
      · injection hj with hj; subst hj; exact ⟨_, ce0u, cr0u⟩
      · injection hj with hj; subst hj; exact ⟨_, ce0v, cr0v⟩
      · injection hj with hj; subst hj; exact ⟨_, ce0r, cr0r⟩
      · injection hj with hj; subst hj; exact ⟨_, ce0s, cr0s⟩
      · injection hj with hj; subst hj; exact ⟨_, ce0t, cr0t⟩
      · simp at hj)⟩
    · injection hx with hx; subst hx; exact ⟨_, rfl, ⟨rfl, rfl⟩⟩
    · injection hx with hx; subst hx; exact ⟨_, rfl, ⟨rfl, rfl⟩⟩
    · injection hx with hx; subst hx; exact ⟨_, rfl, ⟨rfl, rfl⟩⟩
    · simp at hx)
  refine hw.mono fun e W' ⟨he, bel⟩ => ?_
  subst he
  exact ⟨_, rfl, _, _, _, [], _, _, hW', trodAll_mk1 (shut_bool Tryd.underlying4 _), (trodAll_cons_mk (Below.trod laidOut (by kernel_rfl) (of_decide_eq_true (by kernel_rfl)) k0 bel lt0) (trodAll_cons_mk (shut_int Tryd.underlying3 u1) (trodAll_cons_mk (shut_int Tryd.underlying3 u2) (trodAll_cons_mk (shut_int Tryd.underlying3 u3) trodAll_mk0)))), Below.trodVars laidOut bel (by kernel_rfl) hV, bel.frame _, fun h => by cases h⟩

theorem over : Rows.fnExactRawLoadRow.holds Tryd.pinned (OpenSpec.ofChange Rows.fnExactRawLoadSpec) :=
  OpenClaim.holds_of_wide 6 Tryd.f6 rfl rfl rfl rfl rfl rfl rfl ⟨rfl, rfl, rfl, rfl, rfl⟩ rfl rfl rfl rfl rfl (by kernel_rfl) Tryd.func6 (by kernel_rfl)
    (of_decide_eq_true (by kernel_rfl)) (by unfold Func.isWrapper; first | (rw [if_pos (by decide +kernel)]; kernel_rfl) | (rw [if_neg (by decide +kernel)]; exact ⟨rfl, rfl⟩))
    (fun os started H enc _ => lifted os started H enc)

theorem proved : Rows.FnExactRawLoadCardSaid :=
  Claim7.holds_tied_plain_at .later [] [.data] true (true, "241e0f974860710bff4c6e37cdefee63d6e680f53fecb2143c3f1ce5377459dd") false over (fun _ h => by cases h) (by kernel_rfl) (fun _ h => by cases h) fnExactRawLoad_row_tie rfl ⟨rfl, rfl⟩ (by kernel_rfl) rfl
    (fun f fn hf hfn => by
      obtain rfl : f = 6 := Option.some.inj ((show Tryd.prog.funcNamed "loop.example/g01538/laws.FnExactRawLoad" = some 6 by kernel_rfl).symm.trans hf) |>.symm
      obtain rfl : fn = Tryd.f6 := (Option.some.inj (Tryd.func6.symm.trans hfn)).symm
      exact ⟨by kernel_rfl, fun j t ht => by
        rw [Tryd.params6] at ht
        have hm : t ∈ [62, 3, 3, 3] := by simpa using Array.mem_of_getElem? ht
        have hall : ([62, 3, 3, 3].all fun u => !Tryd.prog.wantsStandIn u) = true := by kernel_rfl
        exact (show Tryd.prog.wantsStandIn t = false by simpa using List.all_eq_true.1 hall t hm)⟩)
    (by kernel_rfl)
end Go.Proofs.YtpmhkpmkmbkjbaaDoor.fnExactRawLoad
