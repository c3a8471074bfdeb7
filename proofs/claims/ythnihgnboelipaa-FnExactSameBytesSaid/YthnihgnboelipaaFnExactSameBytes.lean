/- For every two lists of at most 1048576 integers the two SameBytes give the same answer and leave the lists as they were, so the law returns true; of a longer list it returns true at once. -/
import Derived.Test.YthnihgnboelipaaRows
import Derived.WalkKit
import Derived.ProofKit
import Derived.OpenShut
import Derived.ShutString
import Derived.ChangeOld
import Derived.Below
import Derived.Test.YthnihgnboelipaaFrame
import Derived.Test.YthnihgnboelipaaInts
import Derived.Test.YthnihgnboelipaaSame
namespace Go.Proofs.Ythnihgnboelipaa.fnExactSameBytes
open Go.Proofs.Ythnihgnboelipaa
open Go.ChangeShapes Go.WideShapes Go.ChangeAt Go.RowKit
open Go.ChangeMaps (open_string shut_string)
set_option linter.unusedVariables false

theorem walk (a0 : Option Addr) (len0 cap0 : Nat) (z0 : List Int) (a1 : Option Addr) (len1 cap1 : Nat) (z1 : List Int) (w : World) (w0 : IsRow .i64 w a0 len0 cap0 z0) (w1 : IsRow .i64 w a1 len1 cap1 z1) :
    Calls Try.prog 11 #[.slice a0 len0 cap0, .slice a1 len1 cap1] w fun e w' => e = .returned (.bool true) ∧ Below w.heap.size w w' := by
  obtain ⟨hr, hm⟩ := RI_of_row w0
  obtain ⟨hr', hm'⟩ := RI_of_row w1
  by_cases hb : (1048576 : Int) < len0
  · go_enter Try.func11, Try.ntmps11
    go_wp2
    go_ret
    exact ⟨rfl, Below.refl _ _⟩
  by_cases hb' : (1048576 : Int) < len1
  · go_enter Try.func11, Try.ntmps11
    go_wp2
    go_ret
    exact ⟨rfl, Below.refl _ _⟩
  have hn : len0 ≤ 1048576 := by omega
  have hn' : len1 ≤ 1048576 := by omega
  go_enter Try.func11, Try.ntmps11
  go_wp2_with fail
  refine (toIntS_any _ _ _ _ _ hr hn).mono ?_
  rintro e u1 ⟨A1, c1, rfl, o1, b1⟩
  go_wp2_with fail
  refine (toIntS_any _ _ _ _ _ (hr'.below b1) hn').mono ?_
  rintro e u2 ⟨A2, c2, rfl, o2, b2⟩
  have t2 := b1.trans (b2.mono b1.size)
  go_wp2_with fail
  refine (sSameBytes_any _ _ _ _ _ _ _ _ _ (o1.below b2).reads o2.reads hn (by omega)).mono ?_
  rintro e u3 ⟨rfl, q3, rfl⟩
  have t3 := below_drewN t2 q3
  go_wp2_with fail
  refine (toIntS_any _ _ _ _ _ (hr.below t3) hn).mono ?_
  rintro e u4 ⟨A4, c4, rfl, o4, b4⟩
  have t4 := t3.trans (b4.mono t3.size)
  go_wp2_with fail
  refine (toIntS_any _ _ _ _ _ (hr'.below t4) hn').mono ?_
  rintro e u5 ⟨A5, c5, rfl, o5, b5⟩
  have t5 := t4.trans (b5.mono t4.size)
  go_wp2_with fail
  refine (iSameBytes_any _ _ _ _ _ _ _ _ _ (o4.below b5).reads o5.reads hn (by omega)).mono ?_
  rintro e u6 ⟨rfl, q6, rfl⟩
  have b6 : Below u5.heap.size u5 (u5.drewN q6) := below_drewN (Below.refl _ u5) q6
  have t6 := below_drewN t5 q6
  go_wp2_with fail
  refine (toIntS_any _ _ _ _ _ (hr.below t6) hn).mono ?_
  rintro e u7 ⟨A7, c7, rfl, o7, b7⟩
  have t7 := t6.trans (b7.mono t6.size)
  have b7' := b6.trans b7
  go_wp2_with fail
  refine (eqIntS_any _ _ _ _ _ _ _ _ _ ((o4.below b5).below b7').reads o7.reads hn (by omega)).mono ?_
  rintro e u8 ⟨rfl, q8, rfl⟩
  have b8' := below_drewN b7' q8
  have t8 := below_drewN t7 q8
  go_wp2_with fail
  refine (toIntS_any _ _ _ _ _ (hr'.below t8) hn').mono ?_
  rintro e u9 ⟨A9, c9, rfl, o9, b9⟩
  have t9 := t8.trans (b9.mono t8.size)
  have b9' := b8'.trans (b9.mono b8'.size)
  go_wp2_with fail
  refine (eqIntS_any _ _ _ _ _ _ _ _ _ (o5.below b9').reads o9.reads hn' (by omega)).mono ?_
  rintro e uA ⟨rfl, qA, rfl⟩
  go_wp2_with fail
  go_ret
  exact ⟨rfl, below_drewN t9 qA⟩

set_option maxRecDepth 100000 in
theorem lifted (os : Os) (started : os.Started) (H : Type) (enc : TypeId × Value → H) :
    ReturnsInHanded {} Try.checked os 11 .any (Rows.fnExactSameBytesSpec.pre6 enc Try.prog Try.f11 Rows.fnExactSameBytesRow.domain false) (Rows.fnExactSameBytesSpec.post enc Try.prog Try.f11 false true false false) := by
  refine returnsInHanded_of_change (C := Try.checked) own started (by kernel_rfl) Try.func11
    (ChangeSpec.witness6 (enc := enc) (C := Try.checked) false ⟨#[], #[.slice none 0 0, .slice none 0 0], []⟩ 8 (by kernel_rfl) (by kernel_rfl) (by kernel_rfl) (by kernel_rfl)) ?_
  intro W base args ds gs before hval0 hW hcnd _
  have hval : ∀ (j : Nat) t v, Try.f11.params[j]? = some t → args[j]? = some v → Value.okWide Try.prog W .any base t v := hval0
  have hW' := hW
  obtain ⟨p, q, hA0, hV, rfl, hfz, hnd⟩ := hW
  have hA : DataW.TrodAll enc Try.prog W 0 (fun _ => true) true Try.f11.params.toList args.toList ds p := hA0
  rw [Try.params11] at hA hval
  obtain ⟨v0, vs0, d0, ds0, p0, q0, hargs, rfl, rfl, h0, r0⟩ := trodAll_cons hA
  obtain ⟨v1, vs1, d1, ds1, p1, q1, rfl, rfl, rfl, h1, r1⟩ := trodAll_cons r0
  obtain ⟨rfl, rfl, rfl⟩ := trodAll_nil r1
  obtain rfl : args = #[v0, v1] := by cases args; simp_all
  obtain ⟨rfl, rfl⟩ := trodVars_none hV
  obtain ⟨a0, len0, cap0, rfl⟩ := okWide_slice Try.underlying28 (hval 0 28 v0 rfl rfl)
  have k0 := h0
  have lt0 : ∀ x ∈ p0, x.block < W.heap.size := by obtain ⟨m, hm⟩ := k0; exact DataW.trod_lt m _ _ _ hm
  obtain ⟨z0, w0⟩ : ∃ zs, IsRow .i64 W a0 len0 cap0 zs := isRow_of Try.underlying28 Try.underlying3 (by kernel_rfl) h0
  obtain ⟨a1, len1, cap1, rfl⟩ := okWide_slice Try.underlying28 (hval 1 28 v1 rfl rfl)
  have k1 := h1
  have lt1 : ∀ x ∈ p1, x.block < W.heap.size := by obtain ⟨m, hm⟩ := k1; exact DataW.trod_lt m _ _ _ hm
  obtain ⟨z1, w1⟩ : ∃ zs, IsRow .i64 W a1 len1 cap1 zs := isRow_of Try.underlying28 Try.underlying3 (by kernel_rfl) h1
  clear hA0 hval0
  refine (walk a0 len0 cap0 z0 a1 len1 cap1 z1 W w0 w1).mono fun e W' ⟨he, bel⟩ => ?_
  subst he
  exact ⟨_, rfl, _, _, _, [], _, [], hW', trodAll_mk1 (shut_bool Try.underlying4 _), (trodAll_cons_mk (Below.trod laidOut (by kernel_rfl) (of_decide_eq_true (by kernel_rfl)) k0 bel lt0) (trodAll_cons_mk (Below.trod laidOut (by kernel_rfl) (of_decide_eq_true (by kernel_rfl)) k1 bel lt1) trodAll_mk0)), rfl, bel.frame _, fun h => by cases h⟩

theorem over : Rows.fnExactSameBytesRow.holds Try.pinned (OpenSpec.ofChange Rows.fnExactSameBytesSpec) :=
  OpenClaim.holds_of_wide 11 Try.f11 rfl rfl rfl rfl rfl rfl rfl ⟨rfl, rfl, rfl, rfl, rfl⟩ rfl rfl rfl rfl rfl (by kernel_rfl) Try.func11 (by kernel_rfl)
    (of_decide_eq_true (by kernel_rfl)) (by unfold Func.isWrapper; first | (rw [if_pos (by decide +kernel)]; kernel_rfl) | (rw [if_neg (by decide +kernel)]; exact ⟨rfl, rfl⟩))
    (fun os started H enc _ => lifted os started H enc)

theorem proved : Rows.FnExactSameBytesSaid := over
end Go.Proofs.Ythnihgnboelipaa.fnExactSameBytes
