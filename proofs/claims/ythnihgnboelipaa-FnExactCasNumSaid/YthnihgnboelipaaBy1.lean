/- Contracts of chapter 3's readers in both packages: BytesOk, LoadNum and what they call. -/
import Derived.Test.YthnihgnboelipaaMem
import Derived.Test.YthnihgnboelipaaIn
import Derived.Test.YthnihgnboelipaaBy0
namespace Go.Proofs.Ythnihgnboelipaa
open Go Go.RowKit

theorem isByte_any (n : Int) (w : World) :
    Calls Try.prog 53 #[.int .i64 n] w fun e w' => e = .returned (.bool (inB n 0 255)) ∧ w = w' := by
  go_enter Try.func53, Try.ntmps53
  go_wp2
  all_goals (go_ret; exact ⟨by simp [inB] <;> omega, rfl⟩)

theorem widthOk_any (n : Int) (w : World) :
    Calls Try.prog 49 #[.int .i64 n] w fun e w' => e = .returned (.bool (inB n 1 7)) ∧ w = w' := by
  go_enter Try.func49, Try.ntmps49
  go_wp2
  all_goals (go_ret; exact ⟨by simp [inB] <;> omega, rfl⟩)

theorem all_false {xs : List Int} {k : Nat} {x : Int} (hx : xs[k]? = some x) (hb : inB x 0 255 = false) : bytesOk xs = false := by
  have hm : x ∈ xs := List.mem_of_getElem? hx
  unfold bytesOk
  rw [Bool.and_eq_false_iff]
  exact .inl (by rw [List.all_eq_false]; exact ⟨x, hm, by simp [hb]⟩)

theorem sBytesOk_any (A : Option Addr) (n c : Nat) (xs : List Int) (w : World) (h : RI w A n xs) (hn : n ≤ 9223372036854775807) :
    Calls Try.prog 24 #[.slice A n c] w fun e w' => e = .returned (.bool (bytesOk xs)) ∧ w = w' := by
  have HL := Lib.hid h.1
  go_enter Try.func24, Try.ntmps24
  go_wp2
  go_loop [3] (fun i => ∃ k : Nat, k ≤ n ∧ i = .int .i64 k ∧ (xs.take k).all (fun x => inB x 0 255) = true) (fun i => n - (intOf i).toNat)
  case atStart => exact ⟨0, Nat.zero_le _, rfl, rfl⟩
  case round =>
    obtain ⟨k, hk, rfl, hall⟩ := hrel
    have HA := Lib.hid hall; clear hall
    by_cases hlt : k < n
    · obtain ⟨b, o, x, rfl, hx, hw, hc⟩ := h.at_ hlt
      have HX := Lib.hid hx; clear hx
      cases hb : inB x 0 255
      · go_wp2_with (go_at_call 45; refine (l1In_any _ _ _ _).mono ?_; rintro e w' ⟨rfl, rfl⟩)
        go_ret
        exact ⟨ret_bool (all_false HX.out hb).symm, rfl⟩
      · go_wp2_with (go_at_call 45; refine (l1In_any _ _ _ _).mono ?_; rintro e w' ⟨rfl, rfl⟩)
        go_round
        case rel => exact ⟨k + 1, by omega, by go_num, by rw [take_succ_of HX.out, List.all_append, HA.out]; simp [hb]⟩
        case measure => simp [intOf]; omega
    · obtain rfl : k = n := by omega
      have HE : Hid (bytesOk xs = decide (k ≤ 1000)) := by
        have := HA.out
        rw [List.take_of_length_le (Nat.le_of_eq HL.out)] at this
        show _ = _
        rw [bytesOk, this, HL.out]; rfl
      go_wp2
      all_goals
        go_ret
        exact ⟨ret_bool (by rw [HE.out]; simp <;> omega), rfl⟩

theorem iBytesOk_any (A : Option Addr) (n c : Nat) (xs : List Int) (w : World) (h : RI w A n xs) (hn : n ≤ 9223372036854775807) :
    Calls Try.prog 26 #[.slice A n c] w fun e w' => e = .returned (.bool (bytesOk xs)) ∧ w = w' := by
  have HL := Lib.hid h.1
  by_cases hbig : (1000 : Int) < n
  · have HE : Hid (bytesOk xs = false) := by
      show _ = _
      rw [bytesOk, HL.out]; simp; omega
    go_enter Try.func26, Try.ntmps26
    go_wp2
    go_ret
    exact ⟨ret_bool HE.out.symm, rfl⟩
  · go_enter Try.func26, Try.ntmps26
    go_wp2
    go_loop [10] (fun i => ∃ k : Nat, k ≤ n ∧ i = .int .i64 k ∧ (xs.take k).all (fun x => inB x 0 255) = true) (fun i => n - (intOf i).toNat)
    case atStart => exact ⟨0, Nat.zero_le _, rfl, rfl⟩
    case round =>
      obtain ⟨k, hk, rfl, hall⟩ := hrel
      have HA := Lib.hid hall; clear hall
      by_cases hlt : k < n
      · obtain ⟨b, o, x, rfl, hx, hw, hc⟩ := h.at_ hlt
        have HX := Lib.hid hx; clear hx
        cases hb : inB x 0 255
        · go_wp2_with (go_at_call 53; refine (isByte_any _ _).mono ?_; rintro e w' ⟨rfl, rfl⟩)
          go_ret
          exact ⟨ret_bool (all_false HX.out hb).symm, rfl⟩
        · go_wp2_with (go_at_call 53; refine (isByte_any _ _).mono ?_; rintro e w' ⟨rfl, rfl⟩)
          go_round
          case rel => exact ⟨k + 1, by omega, by go_num, by rw [take_succ_of HX.out, List.all_append, HA.out]; simp [hb]⟩
          case measure => simp [intOf]; omega
      · obtain rfl : k = n := by omega
        have HE : Hid (bytesOk xs = true) := by
          have := HA.out
          rw [List.take_of_length_le (Nat.le_of_eq HL.out)] at this
          show _ = _
          rw [bytesOk, this, HL.out]; simp; omega
        go_wp2
        go_ret
        exact ⟨ret_bool HE.out.symm, rfl⟩

theorem l3In_any (A : Option Addr) (n c : Nat) (p k : Int) (w : World) (hn : n ≤ 9223372036854775807) :
    Calls Try.prog 46 #[.slice A n c, .int .i64 p, .int .i64 k] w fun e w' => e = .returned (.bool (spot p k n)) ∧ w = w' := by
  cases hb : inB p 0 n
  · have HE : Hid (spot p k n = false) := by
      have := inB_no.1 hb
      show _ = _
      simp [spot]; omega
    go_enter Try.func46, Try.ntmps46
    go_wp2_with (go_at_call 45; refine (l1In_any _ _ _ _).mono ?_; rintro e w' ⟨rfl, rfl⟩)
    go_ret
    exact ⟨ret_bool HE.out.symm, rfl⟩
  · have hp := inB_iff.1 hb
    have HE : Hid (spot p k n = inB k 0 (n - p)) := by
      show _ = _
      rw [Bool.eq_iff_iff]
      simp [spot, inB]; omega
    go_enter Try.func46, Try.ntmps46
    go_wp2_with (go_at_call 45; refine (l1In_any _ _ _ _).mono ?_; rintro e w' ⟨rfl, rfl⟩)
    go_ret
    exact ⟨ret_bool HE.out.symm, rfl⟩

theorem within_any (n : Nat) (p k : Int) (w : World) (hn : n ≤ 9223372036854775807) (hk : k ≤ 9223372036854775807) :
    Calls Try.prog 50 #[.int .i64 p, .int .i64 k, .int .i64 n] w fun e w' => e = .returned (.bool (spot p k n)) ∧ w = w' := by
  by_cases h1 : 0 ≤ k
  · by_cases h2 : 0 ≤ p
    · have HE : Hid (spot p k n = decide (p ≤ n - k)) := by
        show _ = _
        rw [Bool.eq_iff_iff]
        simp [spot]; omega
      go_enter Try.func50, Try.ntmps50
      go_wp2
      go_ret
      exact ⟨ret_bool HE.out.symm, rfl⟩
    · have HE : Hid (spot p k n = false) := by
        show _ = _
        simp [spot]; omega
      go_enter Try.func50, Try.ntmps50
      go_wp2
      go_ret
      exact ⟨ret_bool HE.out.symm, rfl⟩
  · have HE : Hid (spot p k n = false) := by
      show _ = _
      simp [spot]; omega
    go_enter Try.func50, Try.ntmps50
    go_wp2
    go_ret
    exact ⟨ret_bool HE.out.symm, rfl⟩

theorem wraps_i64 (n : Int) (h₀ : 0 ≤ n) (h₁ : n < 2 ^ 63) : IntKind.i64.wrap n = n := by rw [IntKind.wrap_i64]; omega
theorem i64_or8 (x y : Int) (h0 : 0 ≤ x) (h1 : x ≤ 281474976710655) (h2 : 0 ≤ y) (h3 : y ≤ 255) : bits .or .i64 (x * 256) y = x * 256 + y :=
  bits_join .i64 63 (by decide) wraps_i64 8 (x * 256) y (by omega) (by omega) (by omega) h2 (by omega) (by omega)

theorem l3Load_any (A : Option Addr) (n c : Nat) (xs : List Int) (p k : Nat) (w : World) (h : RI w A n xs) (hn : n ≤ 9223372036854775807) (hb : bytesOk xs = true) (hs : p + k ≤ n) (hk : k ≤ 7) :
    Calls Try.prog 52 #[.slice A n c, .int .i64 p, .int .i64 k] w fun e w' => e = .returned (.int .i64 (beI (cut xs p k))) ∧ w = w' := by
  have HL := Lib.hid h.1
  have HB := Lib.hid hb; clear hb
  go_enter Try.func52, Try.ntmps52
  go_wp2
  go_loop [7, 8] (fun s i => ∃ j : Nat, j ≤ k ∧ i = .int .i64 j ∧ s = .int .i64 (beI (cut xs p j))) (fun _ i => k - (intOf i).toNat)
  case atStart => exact ⟨0, Nat.zero_le _, rfl, by simp [cut, beI]⟩
  case round =>
    obtain ⟨j, hj, rfl, rfl⟩ := hrel
    by_cases hlt : j < k
    · obtain ⟨b, o, x, rfl, hx, hw, hc⟩ := h.at_ (show p + j < n by omega)
      have hbd := cut_bd6 HB.out (at_ := p) (k := j) (by rw [HL.out]; omega) (by omega)
      have hx8 := bytesOk_mem HB.out x (List.mem_of_getElem? hx)
      have HX := Lib.hid (cut_succ hx); clear hx
      go_wp2
      go_round
      case rel => exact ⟨j + 1, by omega, by go_num, by rw [HX.out, beI_snoc]⟩
      case measure => simp [intOf]; omega
    · obtain rfl : j = k := by omega
      go_wp2
      go_ret
      exact ⟨rfl, rfl⟩

theorem numAt_any (A : Option Addr) (n c : Nat) (xs : List Int) (p k : Nat) (w : World) (h : RI w A n xs) (hn : n ≤ c) (hcm : c ≤ 9223372036854775807) (hb : bytesOk xs = true) (hs : p + k ≤ n) (hk : k ≤ 7) (hk1 : 1 ≤ k) :
    Calls Try.prog 51 #[.slice A n c, .int .i64 p, .int .i64 k] w fun e w' => e = .returned (.int .i64 (beI (cut xs p k))) ∧ w = w' := by
  have HL := Lib.hid h.1
  have HB := Lib.hid hb; clear hb
  obtain ⟨b, o, e, hcell⟩ := h.2.2 (by omega)
  subst e
  go_enter Try.func51, Try.ntmps51
  go_wp2
  go_loop [7, 17] (fun s i => ∃ j : Nat, j ≤ k ∧ i = .int .i64 j ∧ s = .int .i64 (beI (cut xs p j))) (fun _ i => k - (intOf i).toNat)
  case atStart => exact ⟨0, Nat.zero_le _, rfl, by simp [cut, beI]⟩
  case round =>
    obtain ⟨j, hj, rfl, rfl⟩ := hrel
    by_cases hlt : j < k
    · obtain ⟨b', o', x, hA, hx, hw, hc⟩ := h.at_ (show p + j < n by omega)
      injection hA with hA; injection hA with hA1 hA2; subst hA1 hA2
      have hbd := cut_bd6 HB.out (at_ := p) (k := j) (by rw [HL.out]; omega) (by omega)
      have hx8 := bytesOk_mem HB.out x (List.mem_of_getElem? hx)
      have HX := Lib.hid (cut_succ hx); clear hx
      rw [← Nat.add_assoc] at hc
      go_wp2
      go_round
      case rel => exact ⟨j + 1, by omega, by go_num, by rw [HX.out, beI_snoc, i64_or8 _ _ hbd.1 hbd.2 hx8.1 hx8.2]⟩
      case measure => simp [intOf]; omega
    · obtain rfl : j = k := by omega
      go_wp2
      go_ret
      exact ⟨rfl, rfl⟩
end Go.Proofs.Ythnihgnboelipaa
