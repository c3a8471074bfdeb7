/- For every base of bounded size the two Tally answer alike, in memory of their own, and leave the base as it was, so the law returns true (the table of slot sizes reads as the program lays it); of a larger one it returns true at once. -/
import Derived.Test.YtpmhkpmkmbkjbaaGreatDoorRows
import Derived.WalkKit
import Derived.ProofKit
import Derived.OpenShut
import Derived.ShutString
import Derived.ChangeOld
import Derived.Below
import Derived.ChangeArms
import Derived.Test.YtpmhkpmkmbkjbaaGreatDoorFrame
import Derived.Test.YtpmhkpmkmbkjbaaGreatDoorTie
import Derived.Test.YtpmhkpmkmbkjbaaGreatDoorCards
import Derived.LaidMore
import Derived.Lay
import Derived.SevenTiedAt
import Derived.Stop.Joined
import Derived.OpenVars
import Derived.Test.YtpmhkpmkmbkjbaaGreatDoorZP
import Derived.Test.YtpmhkpmkmbkjbaaGreatDoorZNB7
namespace Go.Proofs.YtpmhkpmkmbkjbaaGreatDoor.fnExactTally
open Go.Proofs.YtpmhkpmkmbkjbaaGreatDoor Go.Tr
open Go.ChangeShapes Go.WideShapes Go.ChangeAt Go.RowKit
set_option linter.unusedVariables false
set_option linter.unusedSimpArgs false

set_option maxRecDepth 100000 in
set_option maxHeartbeats 4000000 in
theorem law_run (e0x n0x : Nat) (row0x : Nat → Nat → C) (hn0x : n0x ≤ 9223372036854775807) (h0x : ∀ i r d, i < n0x → ([.i] : List Dt)[r]? = some d → DtOk d (row0x i r)) (e0y n0y : Nat) (row0y : Nat → Nat → C) (hn0y : n0y ≤ 9223372036854775807) (h0y : ∀ i r d, i < n0y → ([.i] : List Dt)[r]? = some d → DtOk d (row0y i r)) (e0z n0z : Nat) (row0z : Nat → Nat → C) (hn0z : n0z ≤ 9223372036854775807) (h0z : ∀ i r d, i < n0z → ([.sl [.i]] : List Dt)[r]? = some d → DtOk d (row0z i r)) (e0u n0u : Nat) (row0u : Nat → Nat → C) (hn0u : n0u ≤ 9223372036854775807) (h0u : ∀ i r d, i < n0u → ([.sl [.i]] : List Dt)[r]? = some d → DtOk d (row0u i r)) (a0v : Int) (w0v : -9223372036854775808 ≤ a0v ∧ a0v ≤ 9223372036854775807) (e0r n0r : Nat) (row0r : Nat → Nat → C) (hn0r : n0r ≤ 9223372036854775807) (h0r : ∀ i r d, i < n0r → ([.b, .i, .b, .i] : List Dt)[r]? = some d → DtOk d (row0r i r)) (e0s n0s : Nat) (row0s : Nat → Nat → C) (hn0s : n0s ≤ 9223372036854775807) (h0s : ∀ i r d, i < n0s → ([.sl [.i, .i]] : List Dt)[r]? = some d → DtOk d (row0s i r)) (e0t n0t : Nat) (row0t : Nat → Nat → C) (hn0t : n0t ≤ 9223372036854775807) (h0t : ∀ i r d, i < n0t → ([.i] : List Dt)[r]? = some d → DtOk d (row0t i r)) :
    RunP Tryz.prog hT 8 [.agg [.c (.sl .fro e0x 1 n0x row0x), .c (.sl .fro e0y 1 n0y row0y), .c (.sl .fro e0z 1 n0z row0z), .c (.sl .fro e0u 1 n0u row0u), .c (.lit (.int .i64 a0v)), .c (.sl .fro e0r 4 n0r row0r), .c (.sl .fro e0s 1 n0s row0s), .c (.sl .fro e0t 1 n0t row0t)]] [] fun outs ext => outs = [.one (.lit (.bool true))] ∧ ext = [] := by
  obtain ⟨b, lb, pb, sb⟩ := ints_of (e := e0x) hn0x h0x
  obtain ⟨c, lc, pc, sc⟩ := ints_of (e := e0y) hn0y h0y
  obtain ⟨g, lg, pg, sg⟩ := lists_of (e := e0z) (e' := 0) hn0z h0z
  obtain ⟨o, lo, po, so⟩ := lists_of (e := e0u) (e' := 0) hn0u h0u
  obtain ⟨t, lt, pt, st⟩ := Pins_of (e := e0r) (e' := 0) hn0r h0r
  obtain ⟨l, ll, pl, sl⟩ := llists_of (e := e0s) (e' := 0) (e2 := 0) hn0s h0s
  obtain ⟨z, lz, pz, sz⟩ := ints_of (e := e0t) hn0t h0t
  have mx : ∀ i, (l.flatten.getD i (0, 0)).1 ≤ 9223372036854775807 := fun i => by
    by_cases hi : i < l.flatten.length
    · have e1 : l.flatten.getD i (0, 0) = l.flatten[i] := by rw [List.getD_eq_getElem?_getD, List.getElem?_eq_getElem hi]; rfl
      rw [e1]
      obtain ⟨x, hx, hy⟩ := List.mem_flatten.1 (List.getElem_mem hi)
      exact ((pl x hx).2 _ hy).1.2
    · rw [show l.flatten.getD i (0, 0) = (0, 0) by rw [List.getD_eq_getElem?_getD, List.getElem?_eq_none (Nat.le_of_not_lt hi)]; rfl]; decide
  have zx : ∀ i, z.getD i 0 ≤ 9223372036854775807 := fun i => by
    by_cases hi : i < z.length
    · have e1 : z.getD i 0 = z[i] := by rw [List.getD_eq_getElem?_getD, List.getElem?_eq_getElem hi]; rfl
      rw [e1]; exact (pz _ (List.getElem_mem hi)).2
    · rw [show z.getD i 0 = 0 by rw [List.getD_eq_getElem?_getD, List.getElem?_eq_none (Nat.le_of_not_lt hi)]; rfl]; decide
  have h := Tally_law b c g o a0v t l z ⟨⟨by omega, by omega, by omega, by omega, getD_le fun x hx => (pg x hx).1, getD_le fun x hx => (po x hx).1⟩, by omega, by omega, getD_leR fun x hx => (pl x hx).1, by omega⟩ mx zx
  exact RunP.args (by exact ⟨⟨sb, sc, sg, so, rfl, st, sl, sz, trivial⟩, trivial⟩) h.run

set_option maxRecDepth 100000 in
theorem dsOk0 : TyDs Tryz.prog 56 [.sl [.i], .sl [.i], .sl [.sl [.i]], .sl [.sl [.i]], .i, .sl [.b, .i, .b, .i], .sl [.sl [.i, .i]], .sl [.i]] := (TyDs.struct Tryz.underlying56 (FsDs.cons (TyDs.struct Tryz.underlying29 (FsDs.cons (TyDs.struct Tryz.underlying24 (FsDs.cons (TyDs.slice Tryz.underlying22 (TyDs.int Tryz.underlying3) (by kernel_rfl) (by decide)) rfl (by kernel_rfl) (FsDs.cons (TyDs.slice Tryz.underlying22 (TyDs.int Tryz.underlying3) (by kernel_rfl) (by decide)) rfl (by kernel_rfl) FsDs.nil)) (by kernel_rfl)) rfl (by kernel_rfl) (FsDs.cons (TyDs.struct Tryz.underlying27 (FsDs.cons (TyDs.slice Tryz.underlying25 (TyDs.struct Tryz.underlying169 (FsDs.cons (TyDs.slice Tryz.underlying22 (TyDs.int Tryz.underlying3) (by kernel_rfl) (by decide)) rfl (by kernel_rfl) FsDs.nil) (by kernel_rfl)) (by kernel_rfl) (by decide)) rfl (by kernel_rfl) (FsDs.cons (TyDs.slice Tryz.underlying25 (TyDs.struct Tryz.underlying169 (FsDs.cons (TyDs.slice Tryz.underlying22 (TyDs.int Tryz.underlying3) (by kernel_rfl) (by decide)) rfl (by kernel_rfl) FsDs.nil) (by kernel_rfl)) (by kernel_rfl) (by decide)) rfl (by kernel_rfl) FsDs.nil)) (by kernel_rfl)) rfl (by kernel_rfl) FsDs.nil)) (by kernel_rfl)) rfl (by kernel_rfl) (FsDs.cons (TyDs.struct Tryz.underlying53 (FsDs.cons (TyDs.int Tryz.underlying3) rfl (by kernel_rfl) (FsDs.cons (TyDs.slice Tryz.underlying51 (TyDs.struct Tryz.underlying180 (FsDs.cons (TyDs.bool Tryz.underlying4) rfl (by kernel_rfl) (FsDs.cons (TyDs.int Tryz.underlying3) rfl (by kernel_rfl) (FsDs.cons (TyDs.bool Tryz.underlying4) rfl (by kernel_rfl) (FsDs.cons (TyDs.int Tryz.underlying3) rfl (by kernel_rfl) FsDs.nil)))) (by kernel_rfl)) (by kernel_rfl) (by decide)) rfl (by kernel_rfl) FsDs.nil)) (by kernel_rfl)) rfl (by kernel_rfl) (FsDs.cons (TyDs.slice Tryz.underlying54 (TyDs.struct Tryz.underlying142 (FsDs.cons (TyDs.slice Tryz.underlying140 (TyDs.struct Tryz.underlying188 (FsDs.cons (TyDs.int Tryz.underlying3) rfl (by kernel_rfl) (FsDs.cons (TyDs.int Tryz.underlying3) rfl (by kernel_rfl) FsDs.nil)) (by kernel_rfl)) (by kernel_rfl) (by decide)) rfl (by kernel_rfl) FsDs.nil) (by kernel_rfl)) (by kernel_rfl) (by decide)) rfl (by kernel_rfl) (FsDs.cons (TyDs.slice Tryz.underlying22 (TyDs.int Tryz.underlying3) (by kernel_rfl) (by decide)) rfl (by kernel_rfl) FsDs.nil)))) (by kernel_rfl))
theorem door_met (os : Os) (args : Array Value) : laidMetH Tryz.prog Rows.fnExactTallyRow.laid ((World.doorLaid Tryz.prog 400 os).forCall (fun _ _ => 0) ⟨#[], args, []⟩).memory :=
  laidMetH_of_parts3 (fuel := 8) (laidMet_of_run' 8 (by kernel_rfl) (by kernel_rfl)) (by kernel_rfl) (by kernel_rfl)

set_option maxRecDepth 100000 in
theorem lifted (os : Os) (started : os.Started) (H : Type) (enc : TypeId × Value → H) :
    ReturnsInHanded {} Tryz.checked os 8 .any (fun w args => (Rows.fnExactTallySpec.pre enc Tryz.prog Tryz.f8 [] false w args ∧ laidMetH Tryz.prog Rows.fnExactTallyRow.laid w) ∧ sizedMet enc Tryz.prog Tryz.f8 (OpenSpec.ofChange Rows.fnExactTallySpec) false w args) (Rows.fnExactTallySpec.post enc Tryz.prog Tryz.f8 false true false false) := by
  refine returnsInHanded_of_change_and (C := Tryz.checked) (X := fun w _ => laidMetH Tryz.prog Rows.fnExactTallyRow.laid w) (fun _ _ _ hh h => h.of_heap hh) own started (by kernel_rfl) Tryz.func8
    (ChangeSpec.witness_shaped (enc := enc) (C := Tryz.checked) (os := os) (X := fun w _ => laidMetH Tryz.prog Rows.fnExactTallyRow.laid w) false (World.doorLaid Tryz.prog 400 os) #[.agg #[.slice none 0 0, .slice none 0 0, .slice none 0 0, .slice none 0 0, .int .i64 0, .slice none 0 0, .slice none 0 0, .slice none 0 0]] 8 rfl (World.shaped_of_RefB (by kernel_rfl) (by kernel_rfl)) (by kernel_rfl) (by kernel_rfl) (by kernel_rfl) (door_met os _)) ?_
  intro W base args ds gs before hval0 hW hcnd _ hL _
  have hval : ∀ (j : Nat) t v, Tryz.f8.params[j]? = some t → args[j]? = some v → Value.okWide Tryz.prog W .any base t v := hval0
  have hW' := hW
  obtain ⟨p, q, hA0, hV, rfl, hfz, hnd⟩ := hW
  have hA : DataW.TrodAll enc Tryz.prog W 0 (fun _ => true) true Tryz.f8.params.toList args.toList ds p := hA0
  rw [Tryz.params8] at hA hval
  obtain ⟨v0, vs0, d0, ds0, p0, q0, hargs, rfl, rfl, h0, r0⟩ := trodAll_cons hA
  obtain ⟨rfl, rfl, rfl⟩ := trodAll_nil r0
  obtain rfl : args = #[v0] := by cases args; simp_all
  obtain ⟨gv0, rfl⟩ : ∃ gv0, gs = [gv0] := by
    match gs, vars_len hV with
    | [gv0], _ => exact ⟨gv0, rfl⟩
  have k0 := h0
  have lt0 : ∀ x ∈ p0, x.block < W.heap.size := by obtain ⟨m, hm⟩ := k0; exact DataW.trod_lt m _ _ _ hm
  have tr0 := arg_tree h0 dsOk0
  obtain ⟨cs0, rfl, sz0⟩ := okWide_struct Tryz.underlying56 (hval 0 56 v0 rfl rfl)
  obtain ⟨u0x, c0x, ce0x, ok0x, cr0x⟩ := tr0 0 _ rfl
  obtain ⟨e0x, n0x, row0x, rfl, hn0x, h0x⟩ := ok0x.slice
  obtain ⟨u0y, c0y, ce0y, ok0y, cr0y⟩ := tr0 1 _ rfl
  obtain ⟨e0y, n0y, row0y, rfl, hn0y, h0y⟩ := ok0y.slice
  obtain ⟨u0z, c0z, ce0z, ok0z, cr0z⟩ := tr0 2 _ rfl
  obtain ⟨e0z, n0z, row0z, rfl, hn0z, h0z⟩ := ok0z.slice
  obtain ⟨u0u, c0u, ce0u, ok0u, cr0u⟩ := tr0 3 _ rfl
  obtain ⟨e0u, n0u, row0u, rfl, hn0u, h0u⟩ := ok0u.slice
  obtain ⟨u0v, c0v, ce0v, ok0v, cr0v⟩ := tr0 4 _ rfl
  obtain ⟨a0v, rfl, w0v⟩ := ok0v.int
  obtain ⟨u0r, c0r, ce0r, ok0r, cr0r⟩ := tr0 5 _ rfl
  obtain ⟨e0r, n0r, row0r, rfl, hn0r, h0r⟩ := ok0r.slice
  obtain ⟨u0s, c0s, ce0s, ok0s, cr0s⟩ := tr0 6 _ rfl
  obtain ⟨e0s, n0s, row0s, rfl, hn0s, h0s⟩ := ok0s.slice
  obtain ⟨u0t, c0t, ce0t, ok0t, cr0t⟩ := tr0 7 _ rfl
  obtain ⟨e0t, n0t, row0t, rfl, hn0t, h0t⟩ := ok0t.slice
  clear hA0 hval0
  have hw := RunP.law (W := W) (cargs := #[.agg cs0]) (law_run e0x n0x row0x hn0x h0x e0y n0y row0y hn0y h0y e0z n0z row0z hn0z h0z e0u n0u row0u hn0u h0u a0v w0v e0r n0r row0r hn0r h0r e0s n0s row0s hn0s h0s e0t n0t row0t hn0t h0t) (hT_of (tab_of_laid hL)) rfl (fun i x hx => by
    rcases i with _ | i
    · injection hx with hx; subst hx; exact ⟨_, rfl, ag_agg (W := W) (l := [.sl .fro e0x 1 n0x row0x, .sl .fro e0y 1 n0y row0y, .sl .fro e0z 1 n0z row0z, .sl .fro e0u 1 n0u row0u, .lit (.int .i64 a0v), .sl .fro e0r 4 n0r row0r, .sl .fro e0s 1 n0s row0s, .sl .fro e0t 1 n0t row0t]) (by rw [sz0]; kernel_rfl) (fun j c hj => by
      rcases j with _ | _ | _ | _ | _ | _ | _ | _ | j
      · injection hj with hj; subst hj; exact ⟨_, ce0x, cr0x⟩
      · injection hj with hj; subst hj; exact ⟨_, ce0y, cr0y⟩
      · injection hj with hj; subst hj; exact ⟨_, ce0z, cr0z⟩
      · injection hj with hj; subst hj; exact ⟨_, ce0u, cr0u⟩
      · injection hj with hj; subst hj; exact ⟨_, ce0v, cr0v⟩
      · injection hj with hj; subst hj; exact ⟨_, ce0r, cr0r⟩
      · injection hj with hj; subst hj; exact ⟨_, ce0s, cr0s⟩
      · injection hj with hj; subst hj; exact ⟨_, ce0t, cr0t⟩
      · simp at hj)⟩
    · simp at hx)
  refine hw.mono fun e W' ⟨he, bel⟩ => ?_
  subst he
  exact ⟨_, rfl, _, _, _, [], _, _, hW', trodAll_mk1 (shut_bool Tryz.underlying4 _), (trodAll_cons_mk (Below.trod laidOut (by kernel_rfl) (of_decide_eq_true (by kernel_rfl)) k0 bel lt0) trodAll_mk0), Below.trodVars laidOut bel (by kernel_rfl) hV, bel.frame _, fun h => by cases h⟩

theorem over : Rows.fnExactTallyRow.holds Tryz.pinned (OpenSpec.ofChange Rows.fnExactTallySpec) :=
  OpenClaim.holds_of_wide 8 Tryz.f8 rfl rfl rfl rfl rfl rfl rfl ⟨rfl, rfl, rfl, rfl, rfl⟩ rfl rfl rfl rfl rfl (by kernel_rfl) Tryz.func8 (by kernel_rfl)
    (of_decide_eq_true (by kernel_rfl)) (by unfold Func.isWrapper; first | (rw [if_pos (by decide +kernel)]; kernel_rfl) | (rw [if_neg (by decide +kernel)]; exact ⟨rfl, rfl⟩))
    (fun os started H enc _ => lifted os started H enc)

theorem proved : Rows.FnExactTallyCardSaid :=
  Claim7.holds_tied_plain_at .later [] [.data] true (true, "b8a23f63c4e14e088a4cd37d448075290e9c773756291252b44901675e5e8249") false over (fun _ h => by cases h) (by kernel_rfl) (fun _ h => by cases h) fnExactTally_row_tie rfl ⟨rfl, rfl⟩ (by kernel_rfl) rfl
    (fun f fn hf hfn => by
      obtain rfl : f = 8 := Option.some.inj ((show Tryz.prog.funcNamed "loop.example/g01538/laws.FnExactTally" = some 8 by kernel_rfl).symm.trans hf) |>.symm
      obtain rfl : fn = Tryz.f8 := (Option.some.inj (Tryz.func8.symm.trans hfn)).symm
      exact ⟨by kernel_rfl, fun j t ht => by
        rw [Tryz.params8] at ht
        have hm : t ∈ [56] := by simpa using Array.mem_of_getElem? ht
        have hall : ([56].all fun u => !Tryz.prog.wantsStandIn u) = true := by kernel_rfl
        exact (show Tryz.prog.wantsStandIn t = false by simpa using List.all_eq_true.1 hall t hm)⟩)
    (by kernel_rfl)
end Go.Proofs.YtpmhkpmkmbkjbaaGreatDoor.fnExactTally
