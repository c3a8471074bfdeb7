/- For every list of at most 1048576 integers, every other argument the two Fill give the same list and the same flag, leave the list that came in as it was and give memory of their own, so the law returns true; of a longer list it returns true at once. -/
import Derived.Test.YthnihgnboelipaaRows
import Derived.WalkKit
import Derived.ProofKit
import Derived.OpenShut
import Derived.ShutString
import Derived.ChangeOld
import Derived.Below
import Derived.Test.YthnihgnboelipaaFrame
import Derived.Test.YthnihgnboelipaaInts
import Derived.Test.YthnihgnboelipaaBy7
namespace Go.Proofs.Ythnihgnboelipaa.fnExactFill
open Go.Proofs.Ythnihgnboelipaa
open Go.ChangeShapes Go.WideShapes Go.ChangeAt Go.RowKit
open Go.ChangeMaps (open_string shut_string)
set_option linter.unusedVariables false

theorem walk (a0 : Option Addr) (len0 cap0 : Nat) (z0 : List Int) (a1 : Int) (a2 : Int) (a3 : Int) (w : World) (w0 : IsRow .i64 w a0 len0 cap0 z0) (w1 : (Lit.int .i64 a1).wf = true) (w2 : (Lit.int .i64 a2).wf = true) (w3 : (Lit.int .i64 a3).wf = true) :
    Calls Try.prog 10 #[.slice a0 len0 cap0, .int .i64 a1, .int .i64 a2, .int .i64 a3] w fun e w' => e = .returned (.bool true) ∧ Below w.heap.size w w' := by
  obtain ⟨hr, hm⟩ := RI_of_row w0
  have k2 := (wf_64 w2).2
  by_cases hb : (1048576 : Int) < len0
  · go_enter Try.func10, Try.ntmps10
    go_wp2
    go_ret
    exact ⟨rfl, Below.refl _ _⟩
  · have hn : len0 ≤ 1048576 := by omega
    go_enter Try.func10, Try.ntmps10
    go_wp2_with fail
    refine (toIntS_any _ _ _ _ _ hr hn).mono ?_
    rintro e w1 ⟨A1, c1, rfl, o1, b1⟩
    go_wp2_with fail
    refine (sFill_any _ _ _ _ _ _ _ _ o1.reads o1.nil_ hn).mono ?_
    rintro e w2 ⟨A2, c2, rfl, o2, b2⟩
    have t2 := b1.trans (b2.mono b1.size)
    go_wp2_with fail
    refine (toIntS_any _ _ _ _ _ (hr.below t2) hn).mono ?_
    rintro e w3 ⟨A3, c3, rfl, o3, b3⟩
    have t3 := t2.trans (b3.mono t2.size)
    go_wp2_with fail
    refine (iFill_any _ _ _ _ _ _ _ _ o3.reads o3.nil_ hn k2).mono ?_
    rintro e w4 ⟨A4, c4, rfl, o4, b4⟩
    have t4 := t3.trans (b4.mono t3.size)
    have o2' := (o2.below b3).below b4
    have o3' := o3.below b4
    go_wp2_with fail
    refine (eqIntS_any _ _ _ _ _ _ _ _ _ o4.reads o2'.reads hn (by omega)).mono ?_
    rintro e w5 ⟨rfl, q5, rfl⟩
    go_wp2_with fail
    refine (toIntS_any _ _ _ _ _ ((hr.below t4).drewN q5) hn).mono ?_
    rintro e w6 ⟨A6, c6, rfl, o6, b6⟩
    have b6' : Below w4.heap.size w4 w6 := (below_drewN (Below.refl _ w4) q5).trans b6
    have t6 := t4.trans (b6'.mono t4.size)
    go_wp2_with fail
    refine (eqIntS_any _ _ _ _ _ _ _ _ _ (o3'.below b6').reads o6.reads hn (by omega)).mono ?_
    rintro e w7 ⟨rfl, q7, rfl⟩
    have b7 : Below w4.heap.size w4 (w6.drewN q7) := below_drewN b6' q7
    have t7 := t4.trans (b7.mono t4.size)
    go_wp2_with fail
    refine (markIntS_any _ _ _ _ _ _ _ (o3'.below b7) hn (by omega) (by omega)).mono ?_
    rintro e w8 ⟨rfl, o8, g8⟩
    have s7 := t7.size
    have x2 := (o2'.below b7).keepBefore o2 o3 (Nat.le_refl _) g8
    have x4 := (o4.below b7).keepAfter o3 (Nat.le_refl _) g8
    have r8 := (hr.below t7).keepOwn hr o3 t2.size g8
    have t8 := below_own t7 o3 t2.size s7 g8
    go_wp2_with fail
    refine (eqIntS_any _ _ _ _ _ _ _ _ _ x4.reads x2.reads hn (by omega)).mono ?_
    rintro e w9 ⟨rfl, q9, rfl⟩
    go_wp2_with fail
    have x4' : OI (w8.drewN q9) _ A4 _ c4 _ := x4
    refine (markIntS_any _ _ _ _ _ _ _ x4' hn (by omega) (by omega)).mono ?_
    rintro e wA ⟨rfl, oA, gA⟩
    have gA' : w8.grownBy wA (Value.ownBlock (.slice A4 len0 c4)) := ⟨gA.os, gA.tape, gA.output, gA.size, gA.block⟩
    have y2 := x2.keepBefore o2 o4 b3.size gA'
    have rA := r8.keepOwn hr o4 t3.size gA'
    have tA := below_own t8 o4 t3.size t8.size gA'
    go_wp2_with fail
    refine (heldIntS_any _ _ _ _ _ oA.reads hn (by omega) (by omega)).mono ?_
    rintro e w' ⟨rfl, rfl⟩
    go_wp2_with fail
    refine (toIntS_any _ _ _ _ _ rA hn).mono ?_
    rintro e wB ⟨AB, cB, rfl, oB, bB⟩
    have tB := tA.trans (bB.mono tA.size)
    go_wp2_with fail
    refine (iFill_any _ _ _ _ _ _ _ _ oB.reads oB.nil_ hn k2).mono ?_
    rintro e wC ⟨AC, cC, rfl, oC, bC⟩
    have tC := tB.trans (bC.mono tB.size)
    go_wp2_with fail
    refine (eqIntS_any _ _ _ _ _ _ _ _ _ oC.reads ((y2.below bB).below bC).reads hn (by omega)).mono ?_
    rintro e wD ⟨rfl, qD, rfl⟩
    go_wp2_with fail
    refine (heldIntS_any _ _ _ _ _ (((oA.below bB).below bC).reads.drewN qD) hn (by omega) (by omega)).mono ?_
    rintro e w' ⟨rfl, rfl⟩
    go_wp2_with fail
    go_ret
    exact ⟨rfl, below_drewN tC qD⟩

set_option maxRecDepth 100000 in
theorem lifted (os : Os) (started : os.Started) (H : Type) (enc : TypeId × Value → H) :
    ReturnsInHanded {} Try.checked os 10 .any (Rows.fnExactFillSpec.pre6 enc Try.prog Try.f10 Rows.fnExactFillRow.domain false) (Rows.fnExactFillSpec.post enc Try.prog Try.f10 false true false false) := by
  refine returnsInHanded_of_change (C := Try.checked) own started (by kernel_rfl) Try.func10
    (ChangeSpec.witness6 (enc := enc) (C := Try.checked) false ⟨#[], #[.slice none 0 0, .int .i64 0, .int .i64 0, .int .i64 0], []⟩ 8 (by kernel_rfl) (by kernel_rfl) (by kernel_rfl) (by kernel_rfl)) ?_
  intro W base args ds gs before hval0 hW hcnd _
  have hval : ∀ (j : Nat) t v, Try.f10.params[j]? = some t → args[j]? = some v → Value.okWide Try.prog W .any base t v := hval0
  have hW' := hW
  obtain ⟨p, q, hA0, hV, rfl, hfz, hnd⟩ := hW
  have hA : DataW.TrodAll enc Try.prog W 0 (fun _ => true) true Try.f10.params.toList args.toList ds p := hA0
  rw [Try.params10] at hA hval
  obtain ⟨v0, vs0, d0, ds0, p0, q0, hargs, rfl, rfl, h0, r0⟩ := trodAll_cons hA
  obtain ⟨v1, vs1, d1, ds1, p1, q1, rfl, rfl, rfl, h1, r1⟩ := trodAll_cons r0
  obtain ⟨v2, vs2, d2, ds2, p2, q2, rfl, rfl, rfl, h2, r2⟩ := trodAll_cons r1
  obtain ⟨v3, vs3, d3, ds3, p3, q3, rfl, rfl, rfl, h3, r3⟩ := trodAll_cons r2
  obtain ⟨rfl, rfl, rfl⟩ := trodAll_nil r3
  obtain rfl : args = #[v0, v1, v2, v3] := by cases args; simp_all
  obtain ⟨rfl, rfl⟩ := trodVars_none hV
  obtain ⟨a0, len0, cap0, rfl⟩ := okWide_slice Try.underlying28 (hval 0 28 v0 rfl rfl)
  have k0 := h0
  have lt0 : ∀ x ∈ p0, x.block < W.heap.size := by obtain ⟨m, hm⟩ := k0; exact DataW.trod_lt m _ _ _ hm
  obtain ⟨z0, w0⟩ : ∃ zs, IsRow .i64 W a0 len0 cap0 zs := isRow_of Try.underlying28 Try.underlying3 (by kernel_rfl) h0
  obtain ⟨a1, rfl, rfl, rfl, w1⟩ := open_int Try.underlying3 (hval 1 3 v1 rfl rfl) h1
  obtain ⟨a2, rfl, rfl, rfl, w2⟩ := open_int Try.underlying3 (hval 2 3 v2 rfl rfl) h2
  obtain ⟨a3, rfl, rfl, rfl, w3⟩ := open_int Try.underlying3 (hval 3 3 v3 rfl rfl) h3
  clear hA0 hval0
  refine (walk a0 len0 cap0 z0 a1 a2 a3 W w0 w1 w2 w3).mono fun e W' ⟨he, bel⟩ => ?_
  subst he
  exact ⟨_, rfl, _, _, _, [], _, [], hW', trodAll_mk1 (shut_bool Try.underlying4 _), (trodAll_cons_mk (Below.trod laidOut (by kernel_rfl) (of_decide_eq_true (by kernel_rfl)) k0 bel lt0) (trodAll_cons_mk (shut_int Try.underlying3 w1) (trodAll_cons_mk (shut_int Try.underlying3 w2) (trodAll_cons_mk (shut_int Try.underlying3 w3) trodAll_mk0)))), rfl, bel.frame _, fun h => by cases h⟩

theorem over : Rows.fnExactFillRow.holds Try.pinned (OpenSpec.ofChange Rows.fnExactFillSpec) :=
  OpenClaim.holds_of_wide 10 Try.f10 rfl rfl rfl rfl rfl rfl rfl ⟨rfl, rfl, rfl, rfl, rfl⟩ rfl rfl rfl rfl rfl (by kernel_rfl) Try.func10 (by kernel_rfl)
    (of_decide_eq_true (by kernel_rfl)) (by unfold Func.isWrapper; first | (rw [if_pos (by decide +kernel)]; kernel_rfl) | (rw [if_neg (by decide +kernel)]; exact ⟨rfl, rfl⟩))
    (fun os started H enc _ => lifted os started H enc)

theorem proved : Rows.FnExactFillSaid := over
end Go.Proofs.Ythnihgnboelipaa.fnExactFill
