/- For every two spans the two Apart give the same answer, so the law returns true. -/
import Derived.Test.YthnihgnboelipabRows
import Derived.WalkKit
import Derived.ProofKit
import Derived.OpenShut
import Derived.ShutString
import Derived.ChangeOld
import Derived.Below
import Derived.Lib.SmallJoins
import Derived.ChangeArms
import Derived.Test.YthnihgnboelipabFrame
import Derived.Deep.DeepCutAuto
import Derived.Deep.RegionWith
import Derived.Deep.Draws
import Derived.Test.YthnihgnboelipabAp
namespace Go.Proofs.Ythnihgnboelipab.fnExactApart
open Go.Proofs.Ythnihgnboelipab
open Go.ChangeShapes Go.WideShapes Go.ChangeAt Go.RowKit
open Go.ChangeMaps (open_string shut_string)
set_option linter.unusedVariables false

set_option maxRecDepth 100000 in
set_option maxHeartbeats 2000000 in
theorem walk (a0x : Int) (a0y : Int) (a1x : Int) (a1y : Int) (w : World) (w0x : (Lit.int .i64 a0x).wf = true) (w0y : (Lit.int .i64 a0y).wf = true) (w1x : (Lit.int .i64 a1x).wf = true) (w1y : (Lit.int .i64 a1y).wf = true) :
    Calls Try.prog 6 #[.agg #[.int .i64 a0x, .int .i64 a0y], .agg #[.int .i64 a1x, .int .i64 a1y]] w fun e w' => e = .returned (.bool true) ∧ Below w.heap.size w w' := by
  have t0 : Below w.heap.size w ((w.alloc (.cells #[.int .i64 a0x, .int .i64 a0y] 27)).alloc (.cells #[.int .i64 a1x, .int .i64 a1y] 27)) := ((Below.refl _ _).alloc (Nat.le_refl _) _).alloc (by simp) _
  have hs0 : w.heap.size + 2 ≤ ((w.alloc (.cells #[.int .i64 a0x, .int .i64 a0y] 27)).alloc (.cells #[.int .i64 a1x, .int .i64 a1y] 27)).heap.size := by simp
  have q0 : ∀ W, Below (w.heap.size + 2) ((w.alloc (.cells #[.int .i64 a0x, .int .i64 a0y] 27)).alloc (.cells #[.int .i64 a1x, .int .i64 a1y] 27)) W → W.cell? ⟨w.heap.size, 0, none⟩ = some (.int .i64 a0x) ∧ W.cell? ⟨w.heap.size, 1, none⟩ = some (.int .i64 a0y) ∧ W.cell? ⟨w.heap.size + 1, 0, none⟩ = some (.int .i64 a1x) ∧ W.cell? ⟨w.heap.size + 1, 1, none⟩ = some (.int .i64 a1y) := by
    intro W hW
    refine ⟨?_, ?_, ?_, ?_⟩
    · rw [hW.cell (p := ⟨w.heap.size, 0, none⟩) (by simp)]; simp [go_sem]
    · rw [hW.cell (p := ⟨w.heap.size, 1, none⟩) (by simp)]; simp [go_sem]
    · rw [hW.cell (p := ⟨w.heap.size + 1, 0, none⟩) (by simp)]; simp [go_sem]
    · rw [hW.cell (p := ⟨w.heap.size + 1, 1, none⟩) (by simp)]; simp [go_sem]
  have HA := Lib.hid q0; clear q0
  have HW : Hid (∃ W0, W0 = (w.alloc (.cells #[.int .i64 a0x, .int .i64 a0y] 27)).alloc (.cells #[.int .i64 a1x, .int .i64 a1y] 27)) := ⟨_, rfl⟩
  go_enter Try.func6, Try.ntmps6
  go_upto_region 1 with fail
  go_cut [5] (fun s5 wx => s5 = .bool (apart a0x a0y a1x a1y) ∧ Below (w.heap.size + 2) ((w.alloc (.cells #[.int .i64 a0x, .int .i64 a0y] 27)).alloc (.cells #[.int .i64 a1x, .int .i64 a1y] 27)) wx)
  case first =>
    go_region_with (first
      | (go_at_call_of 14 a0x; refine (toSpan_any _ _ _).mono ?_; rintro e w1 ⟨rfl, b1⟩; have b1' : Below (w.heap.size + 2) ((w.alloc (.cells #[.int .i64 a0x, .int .i64 a0y] 27)).alloc (.cells #[.int .i64 a1x, .int .i64 a1y] 27)) w1 := (ap_undrew b1).mono hs0; have q3 := (HA.out w1 b1').2.2.1; have q4 := (HA.out w1 b1').2.2.2)
      | (go_at_call_of 14 a1x; refine (toSpan_any _ _ _).mono ?_; rintro e w2 ⟨rfl, b2⟩)
      | (go_at_call 13; refine (sApart_any _ _ _ _ _).mono ?_; rintro e w3 ⟨rfl, b3⟩))
    all_goals
      go_wp2_with fail
      go_meet
      have u1 := Nat.le_trans hs0 b1.size
      exact ⟨rfl, (b1'.trans (b2.mono u1)).trans (b3.mono (Nat.le_trans u1 b2.size))⟩
  case rest =>
    obtain ⟨rfl, s5⟩ := hcut
    have u5 := Nat.le_trans hs0 s5.size
    obtain ⟨p1, p2, p3, p4⟩ := HA.out _ s5
    go_upto_region 2 with fail
    go_cut [6] (fun s6 wx => s6 = .bool (apart a0x a0y a1x a1y) ∧ Below (w.heap.size + 2) ((w.alloc (.cells #[.int .i64 a0x, .int .i64 a0y] 27)).alloc (.cells #[.int .i64 a1x, .int .i64 a1y] 27)) wx)
    case first =>
      go_region_with (first
        | (go_at_call_of 14 a0x; refine (toSpan_any _ _ _).mono ?_; rintro e w1 ⟨rfl, b1⟩; have b1' : Below (w.heap.size + 2) ((w.alloc (.cells #[.int .i64 a0x, .int .i64 a0y] 27)).alloc (.cells #[.int .i64 a1x, .int .i64 a1y] 27)) w1 := s5.trans ((ap_undrew b1).mono u5); have q3 := (HA.out w1 b1').2.2.1; have q4 := (HA.out w1 b1').2.2.2)
        | (go_at_call_of 14 a1x; refine (toSpan_any _ _ _).mono ?_; rintro e w2 ⟨rfl, b2⟩)
        | (go_at_call 15; refine (iApart_any _ _ _ _ _).mono ?_; rintro e w3 ⟨rfl, b3⟩))
      all_goals
        go_wp2_with fail
        go_meet
        have u1 := Nat.le_trans u5 b1.size
        exact ⟨rfl, (b1'.trans (b2.mono u1)).trans (b3.mono (Nat.le_trans u1 b2.size))⟩
    case rest =>
      obtain ⟨rfl, s6⟩ := hcut
      go_wp2_with fail
      go_ret
      exact ⟨rfl, t0.trans (s6.mono (by omega))⟩

set_option maxRecDepth 100000 in
theorem lifted (os : Os) (started : os.Started) (H : Type) (enc : TypeId × Value → H) :
    ReturnsInHanded {} Try.checked os 6 .any (Rows.fnExactApartSpec.pre6 enc Try.prog Try.f6 Rows.fnExactApartRow.domain false) (Rows.fnExactApartSpec.post enc Try.prog Try.f6 false true false false) := by
  refine returnsInHanded_of_change (C := Try.checked) own started (by kernel_rfl) Try.func6
    (ChangeSpec.witness6 (enc := enc) (C := Try.checked) false ⟨#[], #[.agg #[.int .i64 0, .int .i64 0], .agg #[.int .i64 0, .int .i64 0]], []⟩ 8 (by kernel_rfl) (by kernel_rfl) (by kernel_rfl) (by kernel_rfl)) ?_
  intro W base args ds gs before hval0 hW hcnd _
  have hval : ∀ (j : Nat) t v, Try.f6.params[j]? = some t → args[j]? = some v → Value.okWide Try.prog W .any base t v := hval0
  have hW' := hW
  obtain ⟨p, q, hA0, hV, rfl, hfz, hnd⟩ := hW
  have hA : DataW.TrodAll enc Try.prog W 0 (fun _ => true) true Try.f6.params.toList args.toList ds p := hA0
  rw [Try.params6] at hA hval
  obtain ⟨v0, vs0, d0, ds0, p0, q0, hargs, rfl, rfl, h0, r0⟩ := trodAll_cons hA
  obtain ⟨v1, vs1, d1, ds1, p1, q1, rfl, rfl, rfl, h1, r1⟩ := trodAll_cons r0
  obtain ⟨rfl, rfl, rfl⟩ := trodAll_nil r1
  obtain rfl : args = #[v0, v1] := by cases args; simp_all
  obtain ⟨rfl, rfl⟩ := trodVars_none hV
  have k0 := h0
  have lt0 : ∀ x ∈ p0, x.block < W.heap.size := by obtain ⟨m, hm⟩ := k0; exact DataW.trod_lt m _ _ _ hm
  obtain ⟨v0x, v0y, y0x, y0y, nn0, rfl, _, _, t0x, t0y⟩ := Joins.open_agg2 Try.underlying27 (by kernel_rfl) (by kernel_rfl) (hval 0 27 v0 rfl rfl) h0
  obtain ⟨a0x, e0x, _, w0x⟩ := DataW.trod_int Try.underlying3 t0x
  obtain rfl : v0x = .int .i64 a0x := by injection e0x
  obtain ⟨a0y, e0y, _, w0y⟩ := DataW.trod_int Try.underlying3 t0y
  obtain rfl : v0y = .int .i64 a0y := by injection e0y
  have k1 := h1
  have lt1 : ∀ x ∈ p1, x.block < W.heap.size := by obtain ⟨m, hm⟩ := k1; exact DataW.trod_lt m _ _ _ hm
  obtain ⟨v1x, v1y, y1x, y1y, nn1, rfl, _, _, t1x, t1y⟩ := Joins.open_agg2 Try.underlying27 (by kernel_rfl) (by kernel_rfl) (hval 1 27 v1 rfl rfl) h1
  obtain ⟨a1x, e1x, _, w1x⟩ := DataW.trod_int Try.underlying3 t1x
  obtain rfl : v1x = .int .i64 a1x := by injection e1x
  obtain ⟨a1y, e1y, _, w1y⟩ := DataW.trod_int Try.underlying3 t1y
  obtain rfl : v1y = .int .i64 a1y := by injection e1y
  clear hA0 hval0
  refine (walk a0x a0y a1x a1y W w0x w0y w1x w1y).mono fun e W' ⟨he, bel⟩ => ?_
  subst he
  exact ⟨_, rfl, _, _, _, [], _, [], hW', trodAll_mk1 (shut_bool Try.underlying4 _), (trodAll_cons_mk (Below.trod laidOut (by kernel_rfl) (of_decide_eq_true (by kernel_rfl)) k0 bel lt0) (trodAll_cons_mk (Below.trod laidOut (by kernel_rfl) (of_decide_eq_true (by kernel_rfl)) k1 bel lt1) trodAll_mk0)), rfl, bel.frame _, fun h => by cases h⟩

theorem over : Rows.fnExactApartRow.holds Try.pinned (OpenSpec.ofChange Rows.fnExactApartSpec) :=
  OpenClaim.holds_of_wide 6 Try.f6 rfl rfl rfl rfl rfl rfl rfl ⟨rfl, rfl, rfl, rfl, rfl⟩ rfl rfl rfl rfl rfl (by kernel_rfl) Try.func6 (by kernel_rfl)
    (of_decide_eq_true (by kernel_rfl)) (by unfold Func.isWrapper; first | (rw [if_pos (by decide +kernel)]; kernel_rfl) | (rw [if_neg (by decide +kernel)]; exact ⟨rfl, rfl⟩))
    (fun os started H enc _ => lifted os started H enc)

theorem proved : Rows.FnExactApartSaid := over
end Go.Proofs.Ythnihgnboelipab.fnExactApart
