/- Contracts of BytesOk in both packages. -/
import Derived.Test.YthnihgnboelipacDoorMem
import Derived.Test.YthnihgnboelipacDoorIn
import Derived.Test.YthnihgnboelipacDoorBy0
namespace Go.Proofs.YthnihgnboelipacDoor
open Go Go.RowKit

theorem isByte_any (n : Int) (w : World) :
    Calls Tryd.prog 79 #[.int .i64 n] w fun e w' => e = .returned (.bool (inB n 0 255)) ∧ w = w' := by
  go_enter Tryd.func79, Tryd.ntmps79
  go_wp2
  all_goals (go_ret; exact ⟨by simp [inB] <;> omega, rfl⟩)

theorem all_false {xs : List Int} {k : Nat} {x : Int} (hx : xs[k]? = some x) (hb : inB x 0 255 = false) : bytesOk xs = false := by
  have hm : x ∈ xs := List.mem_of_getElem? hx
  unfold bytesOk
  rw [Bool.and_eq_false_iff]
  exact .inl (by rw [List.all_eq_false]; exact ⟨x, hm, by simp [hb]⟩)

theorem sBytesOk_any (A : Option Addr) (n c : Nat) (xs : List Int) (w : World) (h : RI w A n xs) (hn : n ≤ 9223372036854775807) :
    Calls Tryd.prog 64 #[.slice A n c] w fun e w' => e = .returned (.bool (bytesOk xs)) ∧ w = w' := by
  have HL := Lib.hid h.1
  go_enter Tryd.func64, Tryd.ntmps64
  go_wp2
  go_loop [3] (fun i => ∃ k : Nat, k ≤ n ∧ i = .int .i64 k ∧ (xs.take k).all (fun x => inB x 0 255) = true) (fun i => n - (intOf i).toNat)
  case atStart => exact ⟨0, Nat.zero_le _, rfl, rfl⟩
  case round =>
    obtain ⟨k, hk, rfl, hall⟩ := hrel
    have HA := Lib.hid hall; clear hall
    by_cases hlt : k < n
    · obtain ⟨b, o, x, rfl, hx, hw, hc⟩ := h.at_ hlt
      have HX := Lib.hid hx; clear hx
      cases hb : inB x 0 255
      · go_wp2_with (go_at_call 44; refine (l1In_any _ _ _ _).mono ?_; rintro e w' ⟨rfl, rfl⟩)
        go_ret
        exact ⟨ret_bool (all_false HX.out hb).symm, rfl⟩
      · go_wp2_with (go_at_call 44; refine (l1In_any _ _ _ _).mono ?_; rintro e w' ⟨rfl, rfl⟩)
        go_round
        case rel => exact ⟨k + 1, by omega, by go_num, by rw [take_succ_of HX.out, List.all_append, HA.out]; simp [hb]⟩
        case measure => simp [intOf]; omega
    · obtain rfl : k = n := by omega
      have HE : Hid (bytesOk xs = decide (k ≤ 1000)) := by
        have := HA.out
        rw [List.take_of_length_le (Nat.le_of_eq HL.out)] at this
        show _ = _
        rw [bytesOk, this, HL.out]; rfl
      go_wp2
      all_goals
        go_ret
        exact ⟨ret_bool (by rw [HE.out]; simp <;> omega), rfl⟩

theorem iBytesOk_any (A : Option Addr) (n c : Nat) (xs : List Int) (w : World) (h : RI w A n xs) (hn : n ≤ 9223372036854775807) :
    Calls Tryd.prog 69 #[.slice A n c] w fun e w' => e = .returned (.bool (bytesOk xs)) ∧ w = w' := by
  have HL := Lib.hid h.1
  by_cases hbig : (1000 : Int) < n
  · have HE : Hid (bytesOk xs = false) := by
      show _ = _
      rw [bytesOk, HL.out]; simp; omega
    go_enter Tryd.func69, Tryd.ntmps69
    go_wp2
    go_ret
    exact ⟨ret_bool HE.out.symm, rfl⟩
  · go_enter Tryd.func69, Tryd.ntmps69
    go_wp2
    go_loop [10] (fun i => ∃ k : Nat, k ≤ n ∧ i = .int .i64 k ∧ (xs.take k).all (fun x => inB x 0 255) = true) (fun i => n - (intOf i).toNat)
    case atStart => exact ⟨0, Nat.zero_le _, rfl, rfl⟩
    case round =>
      obtain ⟨k, hk, rfl, hall⟩ := hrel
      have HA := Lib.hid hall; clear hall
      by_cases hlt : k < n
      · obtain ⟨b, o, x, rfl, hx, hw, hc⟩ := h.at_ hlt
        have HX := Lib.hid hx; clear hx
        cases hb : inB x 0 255
        · go_wp2_with (go_at_call 79; refine (isByte_any _ _).mono ?_; rintro e w' ⟨rfl, rfl⟩)
          go_ret
          exact ⟨ret_bool (all_false HX.out hb).symm, rfl⟩
        · go_wp2_with (go_at_call 79; refine (isByte_any _ _).mono ?_; rintro e w' ⟨rfl, rfl⟩)
          go_round
          case rel => exact ⟨k + 1, by omega, by go_num, by rw [take_succ_of HX.out, List.all_append, HA.out]; simp [hb]⟩
          case measure => simp [intOf]; omega
      · obtain rfl : k = n := by omega
        have HE : Hid (bytesOk xs = true) := by
          have := HA.out
          rw [List.take_of_length_le (Nat.le_of_eq HL.out)] at this
          show _ = _
          rw [bytesOk, this, HL.out]; simp; omega
        go_wp2
        go_ret
        exact ⟨ret_bool HE.out.symm, rfl⟩

end Go.Proofs.YthnihgnboelipacDoor
