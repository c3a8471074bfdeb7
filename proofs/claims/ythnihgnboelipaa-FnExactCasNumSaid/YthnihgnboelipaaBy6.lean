/- Contracts of CasNum in both packages. -/
import Derived.Test.YthnihgnboelipaaBy5
namespace Go.Proofs.Ythnihgnboelipaa
open Go Go.RowKit

def casHit (xs : List Int) (p k old : Int) : Bool := loadOk xs p k && (loadN xs p k == old)
def casOk (xs : List Int) (p k old m : Int) : Bool := casHit xs p k old && storeOk xs p k m
def casL (xs : List Int) (p k old m : Int) : List Int := if casHit xs p k old then storeL xs p k m else xs
theorem cas_no {xs : List Int} {p k old m : Int} (h : casHit xs p k old = false) : casOk xs p k old m = false ∧ casL xs p k old m = xs :=
  ⟨by rw [casOk, h]; rfl, by rw [casL, h]; rfl⟩
theorem cas_yes {xs : List Int} {p k old m : Int} (h : casHit xs p k old = true) : casOk xs p k old m = storeOk xs p k m ∧ casL xs p k old m = storeL xs p k m :=
  ⟨by rw [casOk, h]; rfl, by rw [casL, h]; rfl⟩

theorem iCasNum_any (A : Option Addr) (n c : Nat) (xs : List Int) (p k old m : Int) (w : World) (h : RI w A n xs) (hA : A = none → n = 0 ∧ c = 0) (hn : n ≤ 1048576) (hc : n ≤ c) (hcm : c ≤ 9223372036854775807) (hk : k ≤ 9223372036854775807) (hm : m ≤ 9223372036854775807) :
    Calls Try.prog 23 #[.slice A n c, .int .i64 p, .int .i64 k, .int .i64 old, .int .i64 m] w (RetIB w n (casL xs p k old m) (casOk xs p k old m)) := by
  have HCl := Lib.hid (clone_any A n c xs w h hA hn)
  have HLd := Lib.hid (iLoadNum_any A n c xs p k w h hc hcm hk)
  have HSt := Lib.hid (iStoreNum_any A n c xs p k m w h hA hn hc hcm hk hm)
  cases hl : loadOk xs p k
  · have HS := Lib.hid (cas_no (m := m) (show casHit xs p k old = false by rw [casHit, hl]; rfl))
    go_enter Try.func23, Try.ntmps23
    go_wp2_with fail
    refine HLd.out.mono ?_
    rintro e w' ⟨rfl, rfl⟩
    go_wp2_with fail
    refine HCl.out.mono ?_
    rintro e w1 ⟨A1, c1, rfl, o1, b1⟩
    go_wp2_with fail
    go_ret2
    exact ⟨_, _, ret_vb HS.out.1.symm, by rw [HS.out.2]; exact o1, b1⟩
  · by_cases he : loadN xs p k = old
    · have HS := Lib.hid (cas_yes (m := m) (show casHit xs p k old = true by rw [casHit, hl, he]; simp))
      have ht : (loadN xs p k != old) = false := by rw [he]; simp
      clear he
      go_enter Try.func23, Try.ntmps23
      go_wp2_with fail
      refine HLd.out.mono ?_
      rintro e w' ⟨rfl, rfl⟩
      go_wp2_with fail
      refine HSt.out.mono ?_
      rintro e w1 ⟨A1, c1, rfl, o1, b1⟩
      go_wp2_with fail
      go_ret2
      exact ⟨_, _, ret_vb HS.out.1.symm, by rw [HS.out.2]; exact o1, b1⟩
    · have HS := Lib.hid (cas_no (m := m) (show casHit xs p k old = false by rw [casHit, hl]; simpa using he))
      have ht : (loadN xs p k != old) = true := by simpa using he
      clear he
      go_enter Try.func23, Try.ntmps23
      go_wp2_with fail
      refine HLd.out.mono ?_
      rintro e w' ⟨rfl, rfl⟩
      go_wp2_with fail
      refine HCl.out.mono ?_
      rintro e w1 ⟨A1, c1, rfl, o1, b1⟩
      go_wp2_with fail
      go_ret2
      exact ⟨_, _, ret_vb HS.out.1.symm, by rw [HS.out.2]; exact o1, b1⟩

theorem sCasNum_any (A : Option Addr) (n c : Nat) (xs : List Int) (p k old m : Int) (w : World) (h : RI w A n xs) (hA : A = none → n = 0 ∧ c = 0) (hn : n ≤ 1048576) (hm : m ≤ 9223372036854775807) :
    Calls Try.prog 30 #[.slice A n c, .int .i64 p, .int .i64 k, .int .i64 old, .int .i64 m] w (RetIB w n (casL xs p k old m) (casOk xs p k old m)) := by
  have HCl := Lib.hid (l3Copy_any A n c xs w h hA hn)
  have HLd := Lib.hid (sLoadNum_any A n c xs p k w h (by omega))
  have HSt := Lib.hid (sStoreNum_any A n c xs p k m w h hA hn hm)
  cases hl : loadOk xs p k
  · have HS := Lib.hid (cas_no (m := m) (show casHit xs p k old = false by rw [casHit, hl]; rfl))
    go_enter Try.func30, Try.ntmps30
    go_wp2_with fail
    refine HLd.out.mono ?_
    rintro e w' ⟨rfl, rfl⟩
    go_wp2_with fail
    refine HCl.out.mono ?_
    rintro e w1 ⟨A1, c1, rfl, o1, b1⟩
    go_wp2_with fail
    go_ret2
    exact ⟨_, _, ret_vb HS.out.1.symm, by rw [HS.out.2]; exact o1, b1⟩
  · by_cases he : loadN xs p k = old
    · have HS := Lib.hid (cas_yes (m := m) (show casHit xs p k old = true by rw [casHit, hl, he]; simp))
      have ht : (loadN xs p k != old) = false := by rw [he]; simp
      clear he
      go_enter Try.func30, Try.ntmps30
      go_wp2_with fail
      refine HLd.out.mono ?_
      rintro e w' ⟨rfl, rfl⟩
      go_wp2_with fail
      refine HSt.out.mono ?_
      rintro e w1 ⟨A1, c1, rfl, o1, b1⟩
      go_wp2_with fail
      go_ret2
      exact ⟨_, _, ret_vb HS.out.1.symm, by rw [HS.out.2]; exact o1, b1⟩
    · have HS := Lib.hid (cas_no (m := m) (show casHit xs p k old = false by rw [casHit, hl]; simpa using he))
      have ht : (loadN xs p k != old) = true := by simpa using he
      clear he
      go_enter Try.func30, Try.ntmps30
      go_wp2_with fail
      refine HLd.out.mono ?_
      rintro e w' ⟨rfl, rfl⟩
      go_wp2_with fail
      refine HCl.out.mono ?_
      rintro e w1 ⟨A1, c1, rfl, o1, b1⟩
      go_wp2_with fail
      go_ret2
      exact ⟨_, _, ret_vb HS.out.1.symm, by rw [HS.out.2]; exact o1, b1⟩
end Go.Proofs.Ythnihgnboelipaa
