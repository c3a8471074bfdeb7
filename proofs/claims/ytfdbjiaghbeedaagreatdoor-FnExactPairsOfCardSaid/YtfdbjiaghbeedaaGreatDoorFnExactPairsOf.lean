/- For every memory of bounded size and every number the two PairsOf give the same keys and values, in fresh memory, and leave the memory as it was, so the law returns true (the table of slot sizes reads as the program lays it); of a larger one it returns true at once. -/
import Derived.Test.YtfdbjiaghbeedaaGreatDoorRows
import Derived.WalkKit
import Derived.ProofKit
import Derived.OpenShut
import Derived.ShutString
import Derived.ChangeOld
import Derived.Below
import Derived.ChangeArms
import Derived.Test.YtfdbjiaghbeedaaGreatDoorFrame
import Derived.Test.YtfdbjiaghbeedaaGreatDoorTie
import Derived.Test.YtfdbjiaghbeedaaGreatDoorCards
import Derived.LaidMore
import Derived.Lay
import Derived.SevenTiedAt
import Derived.Stop.Joined
import Derived.OpenVars
import Derived.Test.YtfdbjiaghbeedaaGreatDoorZKDC
import Derived.Test.YtfdbjiaghbeedaaGreatDoorZKDXrsOf
namespace Go.Proofs.YtfdbjiaghbeedaaGreatDoor.fnExactPairsOf
open Go.Proofs.YtfdbjiaghbeedaaGreatDoor Go.Tr
open Go.ChangeShapes Go.WideShapes Go.ChangeAt Go.RowKit
set_option linter.unusedVariables false
set_option linter.unusedSimpArgs false

set_option maxRecDepth 100000 in
set_option maxHeartbeats 4000000 in
theorem law_run (e0x n0x : Nat) (row0x : Nat → Nat → C) (hn0x : n0x ≤ 9223372036854775807) (h0x : ∀ i r d, i < n0x → ([.i] : List Dt)[r]? = some d → DtOk d (row0x i r)) (e0y n0y : Nat) (row0y : Nat → Nat → C) (hn0y : n0y ≤ 9223372036854775807) (h0y : ∀ i r d, i < n0y → ([.i] : List Dt)[r]? = some d → DtOk d (row0y i r)) (e0z n0z : Nat) (row0z : Nat → Nat → C) (hn0z : n0z ≤ 9223372036854775807) (h0z : ∀ i r d, i < n0z → ([.sl [.i]] : List Dt)[r]? = some d → DtOk d (row0z i r)) (e0u n0u : Nat) (row0u : Nat → Nat → C) (hn0u : n0u ≤ 9223372036854775807) (h0u : ∀ i r d, i < n0u → ([.sl [.i]] : List Dt)[r]? = some d → DtOk d (row0u i r)) (a1 : Int) (w1 : -9223372036854775808 ≤ a1 ∧ a1 ≤ 9223372036854775807) :
    RunP Tryz.prog hT 5 [.agg [.c (.sl .fro e0x 1 n0x row0x), .c (.sl .fro e0y 1 n0y row0y), .c (.sl .fro e0z 1 n0z row0z), .c (.sl .fro e0u 1 n0u row0u)], .one (.c (.lit (.int .i64 a1)))] [] fun outs ext => outs = [.one (.lit (.bool true))] ∧ ext = [] := by
  obtain ⟨b, c, g, o, hm, sb, sc, sg, so⟩ := mem_of (e0x := e0x) (e0y := e0y) (e0z := e0z) (e0u := e0u) hn0x h0x hn0y h0y hn0z h0z hn0u h0u
  have h := PairsOf_law b c g o a1 hm w1.2
  exact RunP.args (by exact ⟨⟨sb, sc, sg, so, trivial⟩, rfl, trivial⟩) h.run

set_option maxRecDepth 100000 in
theorem dsOk0 : TyDs Tryz.prog 29 [.sl [.i], .sl [.i], .sl [.sl [.i]], .sl [.sl [.i]]] := (TyDs.struct Tryz.underlying29 (FsDs.cons (TyDs.struct Tryz.underlying24 (FsDs.cons (TyDs.slice Tryz.underlying22 (TyDs.int Tryz.underlying3) (by kernel_rfl) (by decide)) rfl (by kernel_rfl) (FsDs.cons (TyDs.slice Tryz.underlying22 (TyDs.int Tryz.underlying3) (by kernel_rfl) (by decide)) rfl (by kernel_rfl) FsDs.nil)) (by kernel_rfl)) rfl (by kernel_rfl) (FsDs.cons (TyDs.struct Tryz.underlying27 (FsDs.cons (TyDs.slice Tryz.underlying25 (TyDs.struct Tryz.underlying176 (FsDs.cons (TyDs.slice Tryz.underlying22 (TyDs.int Tryz.underlying3) (by kernel_rfl) (by decide)) rfl (by kernel_rfl) FsDs.nil) (by kernel_rfl)) (by kernel_rfl) (by decide)) rfl (by kernel_rfl) (FsDs.cons (TyDs.slice Tryz.underlying25 (TyDs.struct Tryz.underlying176 (FsDs.cons (TyDs.slice Tryz.underlying22 (TyDs.int Tryz.underlying3) (by kernel_rfl) (by decide)) rfl (by kernel_rfl) FsDs.nil) (by kernel_rfl)) (by kernel_rfl) (by decide)) rfl (by kernel_rfl) FsDs.nil)) (by kernel_rfl)) rfl (by kernel_rfl) FsDs.nil)) (by kernel_rfl))
theorem door_met (os : Os) (args : Array Value) : laidMetH Tryz.prog Rows.fnExactPairsOfRow.laid ((World.doorLaid Tryz.prog 400 os).forCall (fun _ _ => 0) ⟨#[], args, []⟩).memory :=
  laidMetH_of_parts3 (fuel := 8) (laidMet_of_run' 8 (by kernel_rfl) (by kernel_rfl)) (by kernel_rfl) (by kernel_rfl)

set_option maxRecDepth 100000 in
theorem lifted (os : Os) (started : os.Started) (H : Type) (enc : TypeId × Value → H) :
    ReturnsInHanded {} Tryz.checked os 5 .any (fun w args => (Rows.fnExactPairsOfSpec.pre enc Tryz.prog Tryz.f5 [] false w args ∧ laidMetH Tryz.prog Rows.fnExactPairsOfRow.laid w) ∧ sizedMet enc Tryz.prog Tryz.f5 (OpenSpec.ofChange Rows.fnExactPairsOfSpec) false w args) (Rows.fnExactPairsOfSpec.post enc Tryz.prog Tryz.f5 false true false false) := by
  refine returnsInHanded_of_change_and (C := Tryz.checked) (X := fun w _ => laidMetH Tryz.prog Rows.fnExactPairsOfRow.laid w) (fun _ _ _ hh h => h.of_heap hh) own started (by kernel_rfl) Tryz.func5
    (ChangeSpec.witness_shaped (enc := enc) (C := Tryz.checked) (os := os) (X := fun w _ => laidMetH Tryz.prog Rows.fnExactPairsOfRow.laid w) false (World.doorLaid Tryz.prog 400 os) #[.agg #[.slice none 0 0, .slice none 0 0, .slice none 0 0, .slice none 0 0], .int .i64 0] 8 rfl (World.shaped_of_RefB (by kernel_rfl) (by kernel_rfl)) (by kernel_rfl) (by kernel_rfl) (by kernel_rfl) (door_met os _)) ?_
  intro W base args ds gs before hval0 hW hcnd _ hL _
  have hval : ∀ (j : Nat) t v, Tryz.f5.params[j]? = some t → args[j]? = some v → Value.okWide Tryz.prog W .any base t v := hval0
  have hW' := hW
  obtain ⟨p, q, hA0, hV, rfl, hfz, hnd⟩ := hW
  have hA : DataW.TrodAll enc Tryz.prog W 0 (fun _ => true) true Tryz.f5.params.toList args.toList ds p := hA0
  rw [Tryz.params5] at hA hval
  obtain ⟨v0, vs0, d0, ds0, p0, q0, hargs, rfl, rfl, h0, r0⟩ := trodAll_cons hA
  obtain ⟨v1, vs1, d1, ds1, p1, q1, rfl, rfl, rfl, h1, r1⟩ := trodAll_cons r0
  obtain ⟨rfl, rfl, rfl⟩ := trodAll_nil r1
  obtain rfl : args = #[v0, v1] := by cases args; simp_all
  obtain ⟨gv0, rfl⟩ : ∃ gv0, gs = [gv0] := by
    match gs, vars_len hV with
    | [gv0], _ => exact ⟨gv0, rfl⟩
  have k0 := h0
  have lt0 : ∀ x ∈ p0, x.block < W.heap.size := by obtain ⟨m, hm⟩ := k0; exact DataW.trod_lt m _ _ _ hm
  have tr0 := arg_tree h0 dsOk0
  obtain ⟨cs0, rfl, sz0⟩ := okWide_struct Tryz.underlying29 (hval 0 29 v0 rfl rfl)
  obtain ⟨u0x, c0x, ce0x, ok0x, cr0x⟩ := tr0 0 _ rfl
  obtain ⟨e0x, n0x, row0x, rfl, hn0x, h0x⟩ := ok0x.slice
  obtain ⟨u0y, c0y, ce0y, ok0y, cr0y⟩ := tr0 1 _ rfl
  obtain ⟨e0y, n0y, row0y, rfl, hn0y, h0y⟩ := ok0y.slice
  obtain ⟨u0z, c0z, ce0z, ok0z, cr0z⟩ := tr0 2 _ rfl
  obtain ⟨e0z, n0z, row0z, rfl, hn0z, h0z⟩ := ok0z.slice
  obtain ⟨u0u, c0u, ce0u, ok0u, cr0u⟩ := tr0 3 _ rfl
  obtain ⟨e0u, n0u, row0u, rfl, hn0u, h0u⟩ := ok0u.slice
  obtain ⟨a1, rfl, rfl, rfl, u1⟩ := open_int Tryz.underlying3 (hval 1 3 v1 rfl rfl) h1
  have w1 := wf_in u1
  clear hA0 hval0
  have hw := RunP.law (W := W) (cargs := #[.agg cs0, .int .i64 a1]) (law_run e0x n0x row0x hn0x h0x e0y n0y row0y hn0y h0y e0z n0z row0z hn0z h0z e0u n0u row0u hn0u h0u a1 w1) (hT_of (tab_of_laid hL)) rfl (fun i x hx => by
    rcases i with _ | _ | i
    · injection hx with hx; subst hx; exact ⟨_, rfl, ag_agg (W := W) (l := [.sl .fro e0x 1 n0x row0x, .sl .fro e0y 1 n0y row0y, .sl .fro e0z 1 n0z row0z, .sl .fro e0u 1 n0u row0u]) (by rw [sz0]; kernel_rfl) (fun j c hj => by
      rcases j with _ | _ | _ | _ | j
      · injection hj with hj; subst hj; exact ⟨_, ce0x, cr0x⟩
      · injection hj with hj; subst hj; exact ⟨_, ce0y, cr0y⟩
      · injection hj with hj; subst hj; exact ⟨_, ce0z, cr0z⟩
      · injection hj with hj; subst hj; exact ⟨_, ce0u, cr0u⟩
      · simp at hj)⟩
    · injection hx with hx; subst hx; exact ⟨_, rfl, ⟨rfl, rfl⟩⟩
    · simp at hx)
  refine hw.mono fun e W' ⟨he, bel⟩ => ?_
  subst he
  exact ⟨_, rfl, _, _, _, [], _, _, hW', trodAll_mk1 (shut_bool Tryz.underlying4 _), (trodAll_cons_mk (Below.trod laidOut (by kernel_rfl) (of_decide_eq_true (by kernel_rfl)) k0 bel lt0) (trodAll_cons_mk (shut_int Tryz.underlying3 u1) trodAll_mk0)), Below.trodVars laidOut bel (by kernel_rfl) hV, bel.frame _, fun h => by cases h⟩

theorem jf_wf : Rows.fnExactPairsOfRow.wf (OpenSpec.ofChange Rows.fnExactPairsOfSpec) = true := by kernel_rfl
theorem jf_lo : laidOutB Tryz.prog = true := by kernel_rfl
theorem jf_mr : mapsRowed Tryz.prog = true := by kernel_rfl
theorem jf_ip : (Rows.fnExactPairsOfRow.inPlace == Tryz.prog.inPlace 5) = true := by kernel_rfl
theorem jf_uf : (Rows.fnExactPairsOfRow.unfollowed == Tryz.prog.unfollowed 5) = true := by kernel_rfl
theorem jf_rc : (Rows.fnExactPairsOfRow.recurses == Tryz.prog.recurses 5) = true := by kernel_rfl
theorem jf_vn : (Rows.fnExactPairsOfRow.named == Tryz.prog.varsNamed 5) = true := by kernel_rfl
theorem jf_pk : (Rows.fnExactPairsOfRow.plainKeys == Tryz.prog.plainKeys) = true := by kernel_rfl
theorem jf_named : Tryz.prog.funcNamed "loop.example/g01538/laws.FnExactPairsOf" = some 5 := by kernel_rfl
theorem jf_all : joinedFacts Tryz.prog 5 Tryz.f5 Rows.fnExactPairsOfSpec Rows.fnExactPairsOfRow = true := by
  unfold joinedFacts
  simp only [Bool.and_eq_true]
  repeat' apply And.intro
  all_goals first | with_reducible exact jf_wf | with_reducible exact jf_lo | with_reducible exact jf_mr | with_reducible exact jf_ip | with_reducible exact jf_uf | with_reducible exact jf_rc | with_reducible exact jf_vn | with_reducible exact jf_pk | kernel_rfl

theorem over : Rows.fnExactPairsOfRow.holds Tryz.pinned (OpenSpec.ofChange Rows.fnExactPairsOfSpec) :=
  OpenClaim.holds_of_wide 5 Tryz.f5 rfl rfl rfl rfl rfl rfl rfl ⟨rfl, rfl, rfl, rfl, rfl⟩ rfl rfl rfl rfl rfl jf_named Tryz.func5 jf_all
    (of_decide_eq_true (by kernel_rfl)) (by unfold Func.isWrapper; first | (rw [if_pos (by decide +kernel)]; kernel_rfl) | (rw [if_neg (by decide +kernel)]; exact ⟨rfl, rfl⟩))
    (fun os started H enc _ => lifted os started H enc)

theorem proved : Rows.FnExactPairsOfCardSaid :=
  Claim7.holds_tied_plain_at .later [] [.data] true (true, "5878f17d74934a5240c27cf29f8bb65a072004426fb37efb506aaabefede6db9") false over (fun _ h => by cases h) (by kernel_rfl) (fun _ h => by cases h) fnExactPairsOf_row_tie rfl ⟨rfl, rfl⟩ (by kernel_rfl) rfl
    (fun f fn hf hfn => by
      obtain rfl : f = 5 := Option.some.inj ((show Tryz.prog.funcNamed "loop.example/g01538/laws.FnExactPairsOf" = some 5 by kernel_rfl).symm.trans hf) |>.symm
      obtain rfl : fn = Tryz.f5 := (Option.some.inj (Tryz.func5.symm.trans hfn)).symm
      exact ⟨by kernel_rfl, fun j t ht => by
        rw [Tryz.params5] at ht
        have hm : t ∈ [29, 3] := by simpa using Array.mem_of_getElem? ht
        have hall : ([29, 3].all fun u => !Tryz.prog.wantsStandIn u) = true := by kernel_rfl
        exact (show Tryz.prog.wantsStandIn t = false by simpa using List.all_eq_true.1 hall t hm)⟩)
    (by kernel_rfl)
end Go.Proofs.YtfdbjiaghbeedaaGreatDoor.fnExactPairsOf
