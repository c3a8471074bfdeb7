/- For every two heaps of at most 1048576 numbers together the two SameHeap give the same answer and leave the heaps as they were, so the law returns true; of larger ones it returns true at once. -/
import Derived.Test.YthnihgnboelipadRows
import Derived.WalkKit
import Derived.ProofKit
import Derived.OpenShut
import Derived.ShutString
import Derived.ChangeOld
import Derived.Below
import Derived.Lib.SmallJoins
import Derived.ChangeArms
import Derived.Test.YthnihgnboelipadFrame
import Derived.Deep.DeepCutAuto
import Derived.Test.YthnihgnboelipadHsz
import Derived.Test.YthnihgnboelipadC2
import Derived.Test.YthnihgnboelipadHsame
namespace Go.Proofs.Ythnihgnboelipad.fnExactSameHeap
open Go.Proofs.Ythnihgnboelipad
open Go.ChangeShapes Go.WideShapes Go.ChangeAt Go.RowKit
open Go.ChangeMaps (open_string shut_string)
set_option linter.unusedVariables false

set_option maxRecDepth 100000 in
set_option maxHeartbeats 2000000 in
theorem walk (a0x : Option Addr) (len0x cap0x : Nat) (z0x : List Int) (a0y : Option Addr) (len0y cap0y : Nat) (z0y : List Int) (a1x : Option Addr) (len1x cap1x : Nat) (z1x : List Int) (a1y : Option Addr) (len1y cap1y : Nat) (z1y : List Int) (w : World) (w0x : IsRow .i64 w a0x len0x cap0x z0x) (w0y : IsRow .i64 w a0y len0y cap0y z0y) (w1x : IsRow .i64 w a1x len1x cap1x z1x) (w1y : IsRow .i64 w a1y len1y cap1y z1y) :
    Calls Try.prog 3 #[.agg #[.slice a0x len0x cap0x, .slice a0y len0y cap0y], .agg #[.slice a1x len1x cap1x, .slice a1y len1y cap1y]] w fun e w' => e = .returned (.bool true) ∧ Below w.heap.size w w' := by
  obtain ⟨hr, hm⟩ := RI_of_row w0x
  obtain ⟨hr', hm'⟩ := RI_of_row w0y
  obtain ⟨kr, jm⟩ := RI_of_row w1x
  obtain ⟨kr', jm'⟩ := RI_of_row w1y
  have l0 : len0x ≤ 9223372036854775807 := by unfold maxLen at hm; omega
  have l1 : len0y ≤ 9223372036854775807 := by unfold maxLen at hm'; omega
  have l2 : len1x ≤ 9223372036854775807 := by unfold maxLen at jm; omega
  have l3 : len1y ≤ 9223372036854775807 := by unfold maxLen at jm'; omega
  generalize z0x.take len0x = xs at hr
  generalize z0y.take len0y = ys at hr'
  generalize z1x.take len1x = us at kr
  generalize z1y.take len1y = vs at kr'
  have t0 : Below w.heap.size w ((w.alloc (.cells #[.slice a0x len0x cap0x, .slice a0y len0y cap0y] 24)).alloc (.cells #[.slice a1x len1x cap1x, .slice a1y len1y cap1y] 24)) := ((Below.refl _ _).alloc (Nat.le_refl _) _).alloc (by simp) _
  have k0 : C2 ((w.alloc (.cells #[.slice a0x len0x cap0x, .slice a0y len0y cap0y] 24)).alloc (.cells #[.slice a1x len1x cap1x, .slice a1y len1y cap1y] 24)) w.heap.size (.slice a0x len0x cap0x) (.slice a0y len0y cap0y) := (C2.new w _ _ _).below ((Below.refl _ _).alloc (Nat.le_refl _) _)
  have j0 : C2 ((w.alloc (.cells #[.slice a0x len0x cap0x, .slice a0y len0y cap0y] 24)).alloc (.cells #[.slice a1x len1x cap1x, .slice a1y len1y cap1y] 24)) (w.heap.size + 1) (.slice a1x len1x cap1x) (.slice a1y len1y cap1y) := by
    have := C2.new (w.alloc (.cells #[.slice a0x len0x cap0x, .slice a0y len0y cap0y] 24)) 24 (.slice a1x len1x cap1x) (.slice a1y len1y cap1y)
    simpa using this
  by_cases hb : (1048576 : Int) < (len0x : Int) + len0y
  · go_enter Try.func3, Try.ntmps3
    go_wp2_with fail
    refine (szHeap_over _ _ _ _ _ _ _ 1048576 (by omega) (by omega) l0 l1 hb).mono ?_
    rintro e w1 ⟨rfl, b1⟩
    go_wp2_with fail
    go_ret
    exact ⟨rfl, t0.trans (b1.mono t0.size)⟩
  have HL := Lib.hid (show (0 : Int) ≤ 1048576 - len0x - len0y ∧ (1048576 : Int) - len0x - len0y ≤ 1048576 by omega)
  by_cases hb2 : (1048576 : Int) - len0x - len0y < (len1x : Int) + len1y
  · have hnn : ¬ ((1048576 : Int) - len0x - len0y < 0) := by omega
    go_enter Try.func3, Try.ntmps3
    go_wp2_with fail
    refine (szHeap_fits _ _ _ _ _ _ _ 1048576 (by omega) (by omega) (by omega)).mono ?_
    rintro e w1 ⟨rfl, b1⟩
    obtain ⟨_, p1, p2⟩ := id (j0.below b1)
    go_wp2_with fail
    refine (szHeap_over _ _ _ _ _ _ _ _ HL.out.1 HL.out.2 l2 l3 hb2).mono ?_
    rintro e w2 ⟨rfl, b2⟩
    go_wp2_with fail
    go_ret
    have t1 := t0.trans (b1.mono t0.size)
    exact ⟨rfl, t1.trans (b2.mono t1.size)⟩
  have hn : len0x ≤ 1048576 := by omega
  have hn' : len0y ≤ 1048576 := by omega
  have jn : len1x ≤ 1048576 := by omega
  have jn' : len1y ≤ 1048576 := by omega
  have hnn : ¬ ((1048576 : Int) - len0x - len0y < 0) := by omega
  have hnn2 : ¬ ((1048576 : Int) - len0x - len0y - len1x - len1y < 0) := by omega
  have HT := Lib.hid (fun W (hb : Below w.heap.size w W) => toHeap_any a0x a0y len0x cap0x len0y cap0y xs ys W (hr.below hb) (hr'.below hb) hn hn')
  have JT := Lib.hid (fun W (hb : Below w.heap.size w W) => toHeap_any a1x a1y len1x cap1x len1y cap1y us vs W (kr.below hb) (kr'.below hb) jn jn')
  go_enter Try.func3, Try.ntmps3
  go_wp2_with fail
  refine (szHeap_fits _ _ _ _ _ _ _ 1048576 (by omega) (by omega) (by omega)).mono ?_
  rintro e w1 ⟨rfl, b1⟩
  have t1 := t0.trans (b1.mono t0.size)
  obtain ⟨_, p1, p2⟩ := id (j0.below b1)
  go_wp2_with fail
  refine (szHeap_fits _ _ _ _ _ _ _ _ HL.out.1 HL.out.2 (by omega)).mono ?_
  rintro e w2 ⟨rfl, b2⟩
  have t2 := t1.trans (b2.mono t1.size)
  have k2 := (k0.below b1).below b2
  have j2 := (j0.below b1).below b2
  clear p1 p2
  obtain ⟨k2s, p1, p2⟩ := id k2
  obtain ⟨j2s, p3, p4⟩ := id j2
  go_wp2_with fail
  go_cut [6] (fun s6 wx => s6 = .bool ((xs == us) && (ys == vs)) ∧ Below w2.heap.size w2 wx)
  case first =>
    go_region_with (first
      | (go_at_call_of 14 a0x; refine (HT.out _ (by first | exact t2 | exact t2.drew)).mono ?_; rintro e w3 ⟨A1, c1, A2, c2, rfl, o3, b3⟩; replace b3 : Below w2.heap.size w2 w3 := (by first | exact below_undrew b3 | exact below_undrewN b3 | exact below_undrewN (below_undrew b3) | exact b3); have q3 := (j2.below b3).2.1; have q4 := (j2.below b3).2.2)
      | (go_at_call_of 14 a1x; refine (JT.out _ (by exact t2.trans (b3.mono t2.size))).mono ?_; rintro e w4 ⟨A3, c3, A4, c4, rfl, o4, b4⟩)
      | (go_at_call 13; refine (sSameHeap_any _ _ _ _ _ _ _ _ _ _ _ _ _ _ _ _ _ (o3.below b4).1.reads (o3.below b4).2.1.reads o4.1.reads o4.2.1.reads hn hn' jn jn').mono ?_; rintro e w5 ⟨rfl, b5⟩))
    all_goals
      go_wp2_with fail
      go_meet
      exact ⟨rfl, (b3.trans (b4.mono b3.size)).trans (b5.mono (Nat.le_trans b3.size b4.size))⟩
  case rest =>
    obtain ⟨rfl, s5⟩ := hcut
    have t5 := t2.trans (s5.mono t2.size)
    have k5 := k2.below s5
    have j5 := j2.below s5
    clear p1 p2 p3 p4
    obtain ⟨_, p1, p2⟩ := id k5
    go_wp2_with fail
    refine (HT.out _ t5).mono ?_
    rintro e w6 ⟨A5, c5, A6, c6, rfl, o6, b6⟩
    have t6 := t5.trans (b6.mono t5.size)
    have bx : Below w6.heap.size w6 (w6.alloc (.cells #[.slice A5 len0x c5, .slice A6 len0y c6] 27)) := (Below.refl _ _).alloc (Nat.le_refl _) _
    have x6 := C2.new w6 27 (.slice A5 len0x c5) (.slice A6 len0y c6)
    have ty := t6.trans (bx.mono t6.size)
    have jy := ((j5.below b6).below bx)
    have ky := ((k5.below b6).below bx)
    clear p1 p2
    obtain ⟨_, p1, p2⟩ := id jy
    go_wp2_with fail
    refine (JT.out _ ty).mono ?_
    rintro e w7 ⟨A7, c7, A8, c8, rfl, o7, b7⟩
    have t7 := ty.trans (b7.mono ty.size)
    have x7 := x6.below b7
    have by7 : Below w7.heap.size w7 (w7.alloc (.cells #[.slice A7 len1x c7, .slice A8 len1y c8] 27)) := (Below.refl _ _).alloc (Nat.le_refl _) _
    have y7 := C2.new w7 27 (.slice A7 len1x c7) (.slice A8 len1y c8)
    have x7' := x7.below by7
    obtain ⟨x7s, u1, u2⟩ := id x7
    go_wp2_with fail
    refine (iSameHeap_any _ _ _ _ _ _ _ _ _ _ _ _ _ _ _ _ _ (((o6.below bx).below b7).below by7).1.reads (((o6.below bx).below b7).below by7).2.1.reads (o7.below by7).1.reads (o7.below by7).2.1.reads hn hn' jn jn').mono ?_
    rintro e w8 ⟨rfl, b8⟩
    have t8 := (t7.trans (by7.mono t7.size)).trans (b8.mono (Nat.le_trans t7.size by7.size))
    have k8 := ((ky.below b7).below by7).below b8
    have j8 := ((jy.below b7).below by7).below b8
    have x8 := x7'.below b8
    have y8 := y7.below b8
    have o68 := (((o6.below bx).below b7).below by7).below b8
    have o78 := (o7.below by7).below b8
    clear p1 p2 u1 u2
    obtain ⟨_, p1, p2⟩ := id k8
    obtain ⟨_, u1, u2⟩ := id x8
    go_wp2_with fail
    go_cut [39] (fun s39 wx => s39 = .bool false ∧ Below w8.heap.size w8 wx)
    case first =>
      go_region_with (first
        | (go_at_call 14; refine (HT.out _ (by first | exact t8 | exact t8.drew)).mono ?_; rintro e w9 ⟨A9, c9, A10, c10, rfl, o9, b9⟩; replace b9 : Below w8.heap.size w8 w9 := (by first | exact below_undrew b9 | exact below_undrewN b9 | exact below_undrewN (below_undrew b9) | exact b9); have z1 := (x8.below b9).2.1; have z2 := (x8.below b9).2.2)
        | (go_at_call 16; refine (eqHeap_same _ _ _ _ _ _ _ _ _ _ _ _ _ (o68.below b9).1.reads (o68.below b9).2.1.reads o9.1.reads o9.2.1.reads hn hn').mono ?_; rintro e wA ⟨rfl, bA⟩))
      all_goals
        go_wp2_with fail
        go_meet
        exact ⟨rfl, b9.trans (bA.mono b9.size)⟩
    case rest =>
      obtain ⟨rfl, sA⟩ := hcut
      have tA := t8.trans (sA.mono t8.size)
      have oA := o78.below sA
      have yA := y8.below sA
      obtain ⟨_, e1, e2⟩ := id (j8.below sA)
      obtain ⟨_, e3, e4⟩ := id yA
      go_wp2_with fail
      go_cut [44] (fun s44 wx => s44 = .bool false ∧ Below wc.heap.size wc wx)
      case first =>
        go_region_with (first
          | (go_at_call 14; refine (JT.out _ (by first | exact tA | exact tA.drew)).mono ?_; rintro e wB ⟨A11, c11, A12, c12, rfl, oB, bB⟩; replace bB : Below wc.heap.size wc wB := (by first | exact below_undrew bB | exact below_undrewN bB | exact below_undrewN (below_undrew bB) | exact bB); have z3 := (yA.below bB).2.1; have z4 := (yA.below bB).2.2)
          | (go_at_call 16; refine (eqHeap_same _ _ _ _ _ _ _ _ _ _ _ _ _ (oA.below bB).1.reads (oA.below bB).2.1.reads oB.1.reads oB.2.1.reads jn jn').mono ?_; rintro e wC ⟨rfl, bC⟩))
        all_goals
          go_wp2_with fail
          go_meet
          exact ⟨rfl, bB.trans (bC.mono bB.size)⟩
      case rest =>
        obtain ⟨rfl, sC⟩ := hcut
        go_wp2_with fail
        go_ret
        exact ⟨rfl, tA.trans (sC.mono tA.size)⟩

set_option maxRecDepth 100000 in
theorem lifted (os : Os) (started : os.Started) (H : Type) (enc : TypeId × Value → H) :
    ReturnsInHanded {} Try.checked os 3 .any (Rows.fnExactSameHeapSpec.pre6 enc Try.prog Try.f3 Rows.fnExactSameHeapRow.domain false) (Rows.fnExactSameHeapSpec.post enc Try.prog Try.f3 false true false false) := by
  refine returnsInHanded_of_change (C := Try.checked) own started (by kernel_rfl) Try.func3
    (ChangeSpec.witness6 (enc := enc) (C := Try.checked) false ⟨#[], #[.agg #[.slice none 0 0, .slice none 0 0], .agg #[.slice none 0 0, .slice none 0 0]], []⟩ 8 (by kernel_rfl) (by kernel_rfl) (by kernel_rfl) (by kernel_rfl)) ?_
  intro W base args ds gs before hval0 hW hcnd _
  have hval : ∀ (j : Nat) t v, Try.f3.params[j]? = some t → args[j]? = some v → Value.okWide Try.prog W .any base t v := hval0
  have hW' := hW
  obtain ⟨p, q, hA0, hV, rfl, hfz, hnd⟩ := hW
  have hA : DataW.TrodAll enc Try.prog W 0 (fun _ => true) true Try.f3.params.toList args.toList ds p := hA0
  rw [Try.params3] at hA hval
  obtain ⟨v0, vs0, d0, ds0, p0, q0, hargs, rfl, rfl, h0, r0⟩ := trodAll_cons hA
  obtain ⟨v1, vs1, d1, ds1, p1, q1, rfl, rfl, rfl, h1, r1⟩ := trodAll_cons r0
  obtain ⟨rfl, rfl, rfl⟩ := trodAll_nil r1
  obtain rfl : args = #[v0, v1] := by cases args; simp_all
  obtain ⟨rfl, rfl⟩ := trodVars_none hV
  have k0 := h0
  have lt0 : ∀ x ∈ p0, x.block < W.heap.size := by obtain ⟨m, hm⟩ := k0; exact DataW.trod_lt m _ _ _ hm
  obtain ⟨v0x, v0y, y0x, y0y, nn0, rfl, _, _, t0x, t0y⟩ := Joins.open_agg2 Try.underlying24 (by kernel_rfl) (by kernel_rfl) (hval 0 24 v0 rfl rfl) h0
  obtain ⟨a0x, len0x, cap0x, z0x, rfl, w0x⟩ := isRow_field Try.underlying22 Try.underlying3 (by kernel_rfl) t0x
  obtain ⟨a0y, len0y, cap0y, z0y, rfl, w0y⟩ := isRow_field Try.underlying22 Try.underlying3 (by kernel_rfl) t0y
  have k1 := h1
  have lt1 : ∀ x ∈ p1, x.block < W.heap.size := by obtain ⟨m, hm⟩ := k1; exact DataW.trod_lt m _ _ _ hm
  obtain ⟨v1x, v1y, y1x, y1y, nn1, rfl, _, _, t1x, t1y⟩ := Joins.open_agg2 Try.underlying24 (by kernel_rfl) (by kernel_rfl) (hval 1 24 v1 rfl rfl) h1
  obtain ⟨a1x, len1x, cap1x, z1x, rfl, w1x⟩ := isRow_field Try.underlying22 Try.underlying3 (by kernel_rfl) t1x
  obtain ⟨a1y, len1y, cap1y, z1y, rfl, w1y⟩ := isRow_field Try.underlying22 Try.underlying3 (by kernel_rfl) t1y
  clear hA0 hval0
  refine (walk a0x len0x cap0x z0x a0y len0y cap0y z0y a1x len1x cap1x z1x a1y len1y cap1y z1y W w0x w0y w1x w1y).mono fun e W' ⟨he, bel⟩ => ?_
  subst he
  exact ⟨_, rfl, _, _, _, [], _, [], hW', trodAll_mk1 (shut_bool Try.underlying4 _), (trodAll_cons_mk (Below.trod laidOut (by kernel_rfl) (of_decide_eq_true (by kernel_rfl)) k0 bel lt0) (trodAll_cons_mk (Below.trod laidOut (by kernel_rfl) (of_decide_eq_true (by kernel_rfl)) k1 bel lt1) trodAll_mk0)), rfl, bel.frame _, fun h => by cases h⟩

theorem over : Rows.fnExactSameHeapRow.holds Try.pinned (OpenSpec.ofChange Rows.fnExactSameHeapSpec) :=
  OpenClaim.holds_of_wide 3 Try.f3 rfl rfl rfl rfl rfl rfl rfl ⟨rfl, rfl, rfl, rfl, rfl⟩ rfl rfl rfl rfl rfl (by kernel_rfl) Try.func3 (by kernel_rfl)
    (of_decide_eq_true (by kernel_rfl)) (by unfold Func.isWrapper; first | (rw [if_pos (by decide +kernel)]; kernel_rfl) | (rw [if_neg (by decide +kernel)]; exact ⟨rfl, rfl⟩))
    (fun os started H enc _ => lifted os started H enc)

theorem proved : Rows.FnExactSameHeapSaid := over
end Go.Proofs.Ythnihgnboelipad.fnExactSameHeap
