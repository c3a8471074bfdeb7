/- Contracts of LoadNum in both packages. -/
import Derived.Test.YthnihgnboelipaaBy1
namespace Go.Proofs.Ythnihgnboelipaa
open Go Go.RowKit

theorem loadN_yes {xs : List Int} {p k : Nat} (h1 : bytesOk xs = true) (h2 : inB k 1 7 = true) (h3 : spot p k xs.length = true) :
    loadOk xs p k = true ∧ loadN xs p k = beI (cut xs p k) := by
  have h : loadOk xs p k = true := by rw [loadOk, h1, h2, h3]; rfl
  exact ⟨h, by rw [loadN, if_pos h]; simp⟩
theorem loadN_no {xs : List Int} {p k : Int} (h : loadOk xs p k = false) : loadN xs p k = 0 := by rw [loadN, h]; rfl

theorem sLoadNum_any (A : Option Addr) (n c : Nat) (xs : List Int) (p k : Int) (w : World) (h : RI w A n xs) (hn : n ≤ 9223372036854775807) :
    Calls Try.prog 22 #[.slice A n c, .int .i64 p, .int .i64 k] w fun e w' => e = .returned (.tuple #[.int .i64 (loadN xs p k), .bool (loadOk xs p k)]) ∧ w = w' := by
  have HL := Lib.hid h.1
  have hB := sBytesOk_any A n c xs w h hn
  have HB := Lib.hid hB; clear hB
  by_cases hall : bytesOk xs = true ∧ inB k 1 7 = true ∧ spot p k n = true
  · obtain ⟨h1, h2, h3⟩ := hall
    have hsp : 0 ≤ p ∧ 0 ≤ k ∧ p + k ≤ n := by simpa [spot] using h3
    have hk7 := inB_iff.1 h2
    obtain ⟨p, rfl⟩ : ∃ q : Nat, p = q := ⟨p.toNat, by omega⟩
    obtain ⟨k, rfl⟩ : ∃ q : Nat, k = q := ⟨k.toNat, by omega⟩
    have HE := Lib.hid (loadN_yes h1 h2 (by rw [HL.out]; exact h3))
    have hLd := l3Load_any A n c xs p k w h hn h1 (by omega) (by omega)
    have HLd := Lib.hid hLd; clear hLd
    go_enter Try.func22, Try.ntmps22
    go_wp2_with (first | (go_at_call 24; refine HB.out.mono ?_; rintro e w' ⟨rfl, rfl⟩) | (go_at_call 45; refine (l1In_any _ _ _ _).mono ?_; rintro e w' ⟨rfl, rfl⟩) | (go_at_call 46; refine (l3In_any _ _ _ _ _ _ hn).mono ?_; rintro e w' ⟨rfl, rfl⟩) | (go_at_call 52; refine HLd.out.mono ?_; rintro e w' ⟨rfl, rfl⟩))
    go_ret2
    exact ⟨ret_ib HE.out.2.symm HE.out.1.symm, rfl⟩
  · have hno : loadOk xs p k = false := by
      rw [Bool.eq_false_iff]
      intro he
      rw [loadOk, HL.out] at he
      simp only [Bool.and_eq_true] at he
      exact hall he
    have HE := Lib.hid (And.intro (loadN_no hno) hno)
    clear hno
    cases h1 : bytesOk xs
    · clear hall
      go_enter Try.func22, Try.ntmps22
      go_wp2_with (first | (go_at_call 24; refine HB.out.mono ?_; rintro e w' ⟨rfl, rfl⟩))
      go_ret2
      exact ⟨ret_ib HE.out.1.symm HE.out.2.symm, rfl⟩
    · cases h2 : inB k 1 7
      · clear hall
        go_enter Try.func22, Try.ntmps22
        go_wp2_with (first | (go_at_call 24; refine HB.out.mono ?_; rintro e w' ⟨rfl, rfl⟩) | (go_at_call 45; refine (l1In_any _ _ _ _).mono ?_; rintro e w' ⟨rfl, rfl⟩))
        go_ret2
        exact ⟨ret_ib HE.out.1.symm HE.out.2.symm, rfl⟩
      · have h3 : spot p k n = false := by
          cases h3 : spot p k n
          · rfl
          · exact absurd ⟨h1, h2, h3⟩ hall
        clear hall
        go_enter Try.func22, Try.ntmps22
        go_wp2_with (first | (go_at_call 24; refine HB.out.mono ?_; rintro e w' ⟨rfl, rfl⟩) | (go_at_call 45; refine (l1In_any _ _ _ _).mono ?_; rintro e w' ⟨rfl, rfl⟩) | (go_at_call 46; refine (l3In_any _ _ _ _ _ _ hn).mono ?_; rintro e w' ⟨rfl, rfl⟩))
        go_ret2
        exact ⟨ret_ib HE.out.1.symm HE.out.2.symm, rfl⟩

theorem iLoadNum_any (A : Option Addr) (n c : Nat) (xs : List Int) (p k : Int) (w : World) (h : RI w A n xs) (hn : n ≤ c) (hcm : c ≤ 9223372036854775807) (hkm : k ≤ 9223372036854775807) :
    Calls Try.prog 21 #[.slice A n c, .int .i64 p, .int .i64 k] w fun e w' => e = .returned (.tuple #[.int .i64 (loadN xs p k), .bool (loadOk xs p k)]) ∧ w = w' := by
  have HL := Lib.hid h.1
  have hn' : n ≤ 9223372036854775807 := by omega
  have hB := iBytesOk_any A n c xs w h hn'
  have HB := Lib.hid hB; clear hB
  by_cases hall : bytesOk xs = true ∧ inB k 1 7 = true ∧ spot p k n = true
  · obtain ⟨h1, h2, h3⟩ := hall
    have hsp : 0 ≤ p ∧ 0 ≤ k ∧ p + k ≤ n := by simpa [spot] using h3
    have hk7 := inB_iff.1 h2
    obtain ⟨p, rfl⟩ : ∃ q : Nat, p = q := ⟨p.toNat, by omega⟩
    obtain ⟨k, rfl⟩ : ∃ q : Nat, k = q := ⟨k.toNat, by omega⟩
    have HE := Lib.hid (loadN_yes h1 h2 (by rw [HL.out]; exact h3))
    have hLd := numAt_any A n c xs p k w h hn hcm h1 (by omega) (by omega) (by omega)
    have HLd := Lib.hid hLd; clear hLd
    go_enter Try.func21, Try.ntmps21
    go_wp2_with (first | (go_at_call 26; refine HB.out.mono ?_; rintro e w' ⟨rfl, rfl⟩) | (go_at_call 49; refine (widthOk_any _ _).mono ?_; rintro e w' ⟨rfl, rfl⟩) | (go_at_call 50; refine (within_any _ _ _ _ hn' hkm).mono ?_; rintro e w' ⟨rfl, rfl⟩) | (go_at_call 51; refine HLd.out.mono ?_; rintro e w' ⟨rfl, rfl⟩))
    go_ret2
    exact ⟨ret_ib HE.out.2.symm HE.out.1.symm, rfl⟩
  · have hno : loadOk xs p k = false := by
      rw [Bool.eq_false_iff]
      intro he
      rw [loadOk, HL.out] at he
      simp only [Bool.and_eq_true] at he
      exact hall he
    have HE := Lib.hid (And.intro (loadN_no hno) hno)
    clear hno
    cases h1 : bytesOk xs
    · clear hall
      go_enter Try.func21, Try.ntmps21
      go_wp2_with (first | (go_at_call 26; refine HB.out.mono ?_; rintro e w' ⟨rfl, rfl⟩))
      go_ret2
      exact ⟨ret_ib HE.out.1.symm HE.out.2.symm, rfl⟩
    · cases h2 : inB k 1 7
      · clear hall
        go_enter Try.func21, Try.ntmps21
        go_wp2_with (first | (go_at_call 26; refine HB.out.mono ?_; rintro e w' ⟨rfl, rfl⟩) | (go_at_call 49; refine (widthOk_any _ _).mono ?_; rintro e w' ⟨rfl, rfl⟩))
        go_ret2
        exact ⟨ret_ib HE.out.1.symm HE.out.2.symm, rfl⟩
      · have h3 : spot p k n = false := by
          cases h3 : spot p k n
          · rfl
          · exact absurd ⟨h1, h2, h3⟩ hall
        clear hall
        go_enter Try.func21, Try.ntmps21
        go_wp2_with (first | (go_at_call 26; refine HB.out.mono ?_; rintro e w' ⟨rfl, rfl⟩) | (go_at_call 49; refine (widthOk_any _ _).mono ?_; rintro e w' ⟨rfl, rfl⟩) | (go_at_call 50; refine (within_any _ _ _ _ hn' hkm).mono ?_; rintro e w' ⟨rfl, rfl⟩))
        go_ret2
        exact ⟨ret_ib HE.out.1.symm HE.out.2.symm, rfl⟩
end Go.Proofs.Ythnihgnboelipaa
