/- Contracts of Fill and SameBytes in both packages. -/
import Derived.Test.YthnihgnboelipaaBy3
namespace Go.Proofs.Ythnihgnboelipaa
open Go Go.RowKit

def fillOk (xs : List Int) (p k x : Int) : Bool := bytesOk xs && (spot p k xs.length && inB x 0 255)
def fillL (xs : List Int) (p k x : Int) : List Int := if fillOk xs p k x then lay xs p.toNat (List.replicate k.toNat x) else xs
theorem fill_no {xs : List Int} {p k x : Int} (h : fillOk xs p k x = false) : fillL xs p k x = xs := by rw [fillL, h]; rfl
theorem fill_yes {xs : List Int} {p k : Nat} {x : Int} (h : fillOk xs p k x = true) : fillL xs p k x = lay xs p (List.replicate k x) := by rw [fillL, if_pos h]; rfl
theorem rep_snoc (xs : List Int) (p j : Nat) (x : Int) (h : p + j < xs.length) : (lay xs p (List.replicate j x)).set (p + j) x = lay xs p (List.replicate (j + 1) x) := by
  have := lay_snoc (xs := xs) (at_ := p) (ds := List.replicate j x) x (by simpa using h)
  rw [List.length_replicate] at this
  rw [this, List.replicate_succ']

set_option maxHeartbeats 400000 in
theorem iFill_any (A : Option Addr) (n c : Nat) (xs : List Int) (p k x : Int) (w : World) (h : RI w A n xs) (hA : A = none → n = 0 ∧ c = 0) (hn : n ≤ 1048576) (hk : k ≤ 9223372036854775807) :
    Calls Try.prog 32 #[.slice A n c, .int .i64 p, .int .i64 k, .int .i64 x] w (RetIB w n (fillL xs p k x) (fillOk xs p k x)) := by
  have HL := Lib.hid h.1
  have HCl := Lib.hid (clone_any A n c xs w h hA hn)
  have hn' : n ≤ 9223372036854775807 := by omega
  cases hb : bytesOk xs
  · have hf : fillOk xs p k x = false := by rw [fillOk, hb]; rfl
    have HS := Lib.hid (And.intro hf (fill_no hf)); clear hf
    go_enter Try.func32, Try.ntmps32
    go_wp2_with fail
    refine HCl.out.mono ?_
    rintro e w1 ⟨A1, c1, rfl, o1, b1⟩
    have r1 := h.below b1
    go_wp2_with (go_at_call 26; refine (iBytesOk_any _ _ _ _ _ r1 hn').mono ?_; rintro e w' ⟨rfl, rfl⟩)
    go_ret2
    exact ⟨_, _, ret_vb HS.out.1.symm, by rw [HS.out.2]; exact o1, b1⟩
  cases hs : spot p k n
  · have hf : fillOk xs p k x = false := by rw [fillOk, hb, HL.out, hs]; rfl
    have HS := Lib.hid (And.intro hf (fill_no hf)); clear hf
    go_enter Try.func32, Try.ntmps32
    go_wp2_with fail
    refine HCl.out.mono ?_
    rintro e w1 ⟨A1, c1, rfl, o1, b1⟩
    have r1 := h.below b1
    go_wp2_with (first | (go_at_call 26; refine (iBytesOk_any _ _ _ _ _ r1 hn').mono ?_; rintro e w' ⟨rfl, rfl⟩) | (go_at_call 50; refine (within_any _ _ _ _ hn' hk).mono ?_; rintro e w' ⟨rfl, rfl⟩))
    go_ret2
    exact ⟨_, _, ret_vb HS.out.1.symm, by rw [HS.out.2]; exact o1, b1⟩
  cases hx : inB x 0 255
  · have hf : fillOk xs p k x = false := by rw [fillOk, hb, HL.out, hs, hx]; rfl
    have HS := Lib.hid (And.intro hf (fill_no hf)); clear hf
    go_enter Try.func32, Try.ntmps32
    go_wp2_with fail
    refine HCl.out.mono ?_
    rintro e w1 ⟨A1, c1, rfl, o1, b1⟩
    have r1 := h.below b1
    go_wp2_with (first | (go_at_call 26; refine (iBytesOk_any _ _ _ _ _ r1 hn').mono ?_; rintro e w' ⟨rfl, rfl⟩) | (go_at_call 50; refine (within_any _ _ _ _ hn' hk).mono ?_; rintro e w' ⟨rfl, rfl⟩) | (go_at_call 53; refine (isByte_any _ _).mono ?_; rintro e w' ⟨rfl, rfl⟩))
    go_ret2
    exact ⟨_, _, ret_vb HS.out.1.symm, by rw [HS.out.2]; exact o1, b1⟩
  have hf : fillOk xs p k x = true := by rw [fillOk, hb, HL.out, hs, hx]; rfl
  have hsp : 0 ≤ p ∧ 0 ≤ k ∧ p + k ≤ n := by simpa [spot] using hs
  have hxb := inB_iff.1 hx
  obtain ⟨p, rfl⟩ : ∃ q : Nat, p = q := ⟨p.toNat, by omega⟩
  obtain ⟨k, rfl⟩ : ∃ q : Nat, k = q := ⟨k.toNat, by omega⟩
  have HS := Lib.hid (And.intro hf (fill_yes hf)); clear hf
  have hpk : p + k ≤ n := by omega
  go_enter Try.func32, Try.ntmps32
  go_wp2_with fail
  refine HCl.out.mono ?_
  rintro e w1 ⟨A1, c1, rfl, o1, b1⟩
  have r1 := h.below b1
  go_wp2_with (first | (go_at_call 26; refine (iBytesOk_any _ _ _ _ _ r1 hn').mono ?_; rintro e w' ⟨rfl, rfl⟩) | (go_at_call 50; refine (within_any _ _ _ _ hn' hk).mono ?_; rintro e w' ⟨rfl, rfl⟩) | (go_at_call 53; refine (isByte_any _ _).mono ?_; rintro e w' ⟨rfl, rfl⟩))
  have sz1 := b1.size
  go_loopw [32] (fun i wr => ∃ j : Nat, j ≤ k ∧ i = .int .i64 j ∧ OI wr w.heap.size A1 n c1 (lay xs p (List.replicate j x)) ∧ w1.grownBy wr (Value.ownBlock (.slice A1 n c1))) (fun i _ => k - (intOf i).toNat)
  case atStart => exact ⟨0, Nat.zero_le _, rfl, by simpa [lay_nil] using o1, World.grownBy.refl w1 _⟩
  case round =>
    obtain ⟨j, hj, rfl, ho, hg⟩ := hrel
    by_cases hlt : j < k
    · obtain ⟨g, e, hBg, _⟩ := ho.form (by omega)
      subst e
      obtain ⟨y, _, hc, hfz⟩ := ho.cellAt (j := p + j) (by omega)
      have HT := Lib.hid (ho.stored (p + j) x (wf_mk (by omega)))
      clear ho o1
      go_wp2
      go_roundw
      case rel =>
        obtain ⟨ho, hg'⟩ := HT.out
        rw [rep_snoc _ _ _ _ (by rw [HL.out]; omega)] at ho
        exact ⟨j + 1, by omega, by go_num, ho, grown_trans hg hg'⟩
      case measure => simp [intOf]; omega
    · obtain rfl : j = k := by omega
      go_wp2
      go_ret2
      exact ⟨_, _, ret_vb HS.out.1.symm, by rw [HS.out.2]; exact ho, b1.grown hg b1.size (fun g he => (o1.2.lt g he).1)⟩

set_option maxHeartbeats 400000 in
theorem sFill_any (A : Option Addr) (n c : Nat) (xs : List Int) (p k x : Int) (w : World) (h : RI w A n xs) (hA : A = none → n = 0 ∧ c = 0) (hn : n ≤ 1048576) :
    Calls Try.prog 31 #[.slice A n c, .int .i64 p, .int .i64 k, .int .i64 x] w (RetIB w n (fillL xs p k x) (fillOk xs p k x)) := by
  have HL := Lib.hid h.1
  have HCl := Lib.hid (l3Copy_any A n c xs w h hA hn)
  have hn' : n ≤ 9223372036854775807 := by omega
  cases hb : bytesOk xs
  · have hf : fillOk xs p k x = false := by rw [fillOk, hb]; rfl
    have HS := Lib.hid (And.intro hf (fill_no hf)); clear hf
    go_enter Try.func31, Try.ntmps31
    go_wp2_with fail
    refine HCl.out.mono ?_
    rintro e w1 ⟨A1, c1, rfl, o1, b1⟩
    have r1 := h.below b1
    go_wp2_with (go_at_call 24; refine (sBytesOk_any _ _ _ _ _ r1 hn').mono ?_; rintro e w' ⟨rfl, rfl⟩)
    go_ret2
    exact ⟨_, _, ret_vb HS.out.1.symm, by rw [HS.out.2]; exact o1, b1⟩
  cases hs : spot p k n
  · have hf : fillOk xs p k x = false := by rw [fillOk, hb, HL.out, hs]; rfl
    have HS := Lib.hid (And.intro hf (fill_no hf)); clear hf
    go_enter Try.func31, Try.ntmps31
    go_wp2_with fail
    refine HCl.out.mono ?_
    rintro e w1 ⟨A1, c1, rfl, o1, b1⟩
    have r1 := h.below b1
    go_wp2_with (first | (go_at_call 24; refine (sBytesOk_any _ _ _ _ _ r1 hn').mono ?_; rintro e w' ⟨rfl, rfl⟩) | (go_at_call 46; refine (l3In_any _ _ _ _ _ _ hn').mono ?_; rintro e w' ⟨rfl, rfl⟩))
    go_ret2
    exact ⟨_, _, ret_vb HS.out.1.symm, by rw [HS.out.2]; exact o1, b1⟩
  cases hx : inB x 0 255
  · have hf : fillOk xs p k x = false := by rw [fillOk, hb, HL.out, hs, hx]; rfl
    have HS := Lib.hid (And.intro hf (fill_no hf)); clear hf
    go_enter Try.func31, Try.ntmps31
    go_wp2_with fail
    refine HCl.out.mono ?_
    rintro e w1 ⟨A1, c1, rfl, o1, b1⟩
    have r1 := h.below b1
    go_wp2_with (first | (go_at_call 24; refine (sBytesOk_any _ _ _ _ _ r1 hn').mono ?_; rintro e w' ⟨rfl, rfl⟩) | (go_at_call 46; refine (l3In_any _ _ _ _ _ _ hn').mono ?_; rintro e w' ⟨rfl, rfl⟩) | (go_at_call 45; refine (l1In_any _ _ _ _).mono ?_; rintro e w' ⟨rfl, rfl⟩))
    go_ret2
    exact ⟨_, _, ret_vb HS.out.1.symm, by rw [HS.out.2]; exact o1, b1⟩
  have hf : fillOk xs p k x = true := by rw [fillOk, hb, HL.out, hs, hx]; rfl
  have hsp : 0 ≤ p ∧ 0 ≤ k ∧ p + k ≤ n := by simpa [spot] using hs
  have hxb := inB_iff.1 hx
  obtain ⟨p, rfl⟩ : ∃ q : Nat, p = q := ⟨p.toNat, by omega⟩
  obtain ⟨k, rfl⟩ : ∃ q : Nat, k = q := ⟨k.toNat, by omega⟩
  have HS := Lib.hid (And.intro hf (fill_yes hf)); clear hf
  have hpk : p + k ≤ n := by omega
  go_enter Try.func31, Try.ntmps31
  go_wp2_with fail
  refine HCl.out.mono ?_
  rintro e w1 ⟨A1, c1, rfl, o1, b1⟩
  have r1 := h.below b1
  go_wp2_with (first | (go_at_call 24; refine (sBytesOk_any _ _ _ _ _ r1 hn').mono ?_; rintro e w' ⟨rfl, rfl⟩) | (go_at_call 46; refine (l3In_any _ _ _ _ _ _ hn').mono ?_; rintro e w' ⟨rfl, rfl⟩) | (go_at_call 45; refine (l1In_any _ _ _ _).mono ?_; rintro e w' ⟨rfl, rfl⟩))
  have sz1 := b1.size
  go_loopw [11] (fun i wr => ∃ j : Nat, j ≤ k ∧ i = .int .i64 ((p : Int) + (j : Int)) ∧ OI wr w.heap.size A1 n c1 (lay xs p (List.replicate j x)) ∧ w1.grownBy wr (Value.ownBlock (.slice A1 n c1))) (fun i _ => p + k - (intOf i).toNat)
  case atStart => exact ⟨0, Nat.zero_le _, by simp, by simpa [lay_nil] using o1, World.grownBy.refl w1 _⟩
  case round =>
    obtain ⟨j, hj, rfl, ho, hg⟩ := hrel
    by_cases hlt : j < k
    · obtain ⟨g, e, hBg, _⟩ := ho.form (by omega)
      subst e
      obtain ⟨y, _, hc, hfz⟩ := ho.cellAt (j := p + j) (by omega)
      have HT := Lib.hid (ho.stored (p + j) x (wf_mk (by omega)))
      clear ho o1
      go_wp2
      go_roundw
      case rel =>
        obtain ⟨ho, hg'⟩ := HT.out
        rw [rep_snoc _ _ _ _ (by rw [HL.out]; omega)] at ho
        exact ⟨j + 1, by omega, by rw [show (p : Int) + ((j + 1 : Nat) : Int) = (p : Int) + (j : Int) + 1 by omega], ho, grown_trans hg hg'⟩
      case measure => simp [intOf]; omega
    · obtain rfl : j = k := by omega
      go_wp2
      go_ret2
      exact ⟨_, _, ret_vb HS.out.1.symm, by rw [HS.out.2]; exact ho, b1.grown hg b1.size (fun g he => (o1.2.lt g he).1)⟩
end Go.Proofs.Ythnihgnboelipaa
