/- Contracts of the numbers in bytes that are known to exist, in both packages. -/
import Derived.Test.YthnihgnboelipadDoorMem
import Derived.Test.YthnihgnboelipadDoorIn
import Derived.Test.YthnihgnboelipadDoorBy0
namespace Go.Proofs.YthnihgnboelipadDoor
open Go Go.RowKit

theorem wraps_i64 (n : Int) (h₀ : 0 ≤ n) (h₁ : n < 2 ^ 63) : IntKind.i64.wrap n = n := by rw [IntKind.wrap_i64]; omega
theorem i64_or8 (x y : Int) (h0 : 0 ≤ x) (h1 : x ≤ 281474976710655) (h2 : 0 ≤ y) (h3 : y ≤ 255) : bits .or .i64 (x * 256) y = x * 256 + y :=
  bits_join .i64 63 (by decide) wraps_i64 8 (x * 256) y (by omega) (by omega) (by omega) h2 (by omega) (by omega)

theorem l3Load_any (A : Option Addr) (n c : Nat) (xs : List Int) (p k : Nat) (w : World) (h : RI w A n xs) (hn : n ≤ 9223372036854775807) (hb : bytesOk xs = true) (hs : p + k ≤ n) (hk : k ≤ 7) :
    Calls Tryd.prog 45 #[.slice A n c, .int .i64 p, .int .i64 k] w fun e w' => e = .returned (.int .i64 (beI (cut xs p k))) ∧ w = w' := by
  have HL := Lib.hid h.1
  have HB := Lib.hid hb; clear hb
  go_enter Tryd.func45, Tryd.ntmps45
  go_wp2
  go_loop [7, 8] (fun s i => ∃ j : Nat, j ≤ k ∧ i = .int .i64 j ∧ s = .int .i64 (beI (cut xs p j))) (fun _ i => k - (intOf i).toNat)
  case atStart => exact ⟨0, Nat.zero_le _, rfl, by simp [cut, beI]⟩
  case round =>
    obtain ⟨j, hj, rfl, rfl⟩ := hrel
    by_cases hlt : j < k
    · obtain ⟨b, o, x, rfl, hx, hw, hc⟩ := h.at_ (show p + j < n by omega)
      have hbd := cut_bd6 HB.out (at_ := p) (k := j) (by rw [HL.out]; omega) (by omega)
      have hx8 := bytesOk_mem HB.out x (List.mem_of_getElem? hx)
      have HX := Lib.hid (cut_succ hx); clear hx
      go_wp2
      go_round
      case rel => exact ⟨j + 1, by omega, by go_num, by rw [HX.out, beI_snoc]⟩
      case measure => simp [intOf]; omega
    · obtain rfl : j = k := by omega
      go_wp2
      go_ret
      exact ⟨rfl, rfl⟩

theorem numAt_any (A : Option Addr) (n c : Nat) (xs : List Int) (p k : Nat) (w : World) (h : RI w A n xs) (hn : n ≤ c) (hcm : c ≤ 9223372036854775807) (hb : bytesOk xs = true) (hs : p + k ≤ n) (hk : k ≤ 7) (hk1 : 1 ≤ k) :
    Calls Tryd.prog 48 #[.slice A n c, .int .i64 p, .int .i64 k] w fun e w' => e = .returned (.int .i64 (beI (cut xs p k))) ∧ w = w' := by
  have HL := Lib.hid h.1
  have HB := Lib.hid hb; clear hb
  obtain ⟨b, o, e, hcell⟩ := h.2.2 (by omega)
  subst e
  go_enter Tryd.func48, Tryd.ntmps48
  go_wp2
  go_loop [7, 17] (fun s i => ∃ j : Nat, j ≤ k ∧ i = .int .i64 j ∧ s = .int .i64 (beI (cut xs p j))) (fun _ i => k - (intOf i).toNat)
  case atStart => exact ⟨0, Nat.zero_le _, rfl, by simp [cut, beI]⟩
  case round =>
    obtain ⟨j, hj, rfl, rfl⟩ := hrel
    by_cases hlt : j < k
    · obtain ⟨b', o', x, hA, hx, hw, hc⟩ := h.at_ (show p + j < n by omega)
      injection hA with hA; injection hA with hA1 hA2; subst hA1 hA2
      have hbd := cut_bd6 HB.out (at_ := p) (k := j) (by rw [HL.out]; omega) (by omega)
      have hx8 := bytesOk_mem HB.out x (List.mem_of_getElem? hx)
      have HX := Lib.hid (cut_succ hx); clear hx
      rw [← Nat.add_assoc] at hc
      go_wp2
      go_round
      case rel => exact ⟨j + 1, by omega, by go_num, by rw [HX.out, beI_snoc, i64_or8 _ _ hbd.1 hbd.2 hx8.1 hx8.2]⟩
      case measure => simp [intOf]; omega
    · obtain rfl : j = k := by omega
      go_wp2
      go_ret
      exact ⟨rfl, rfl⟩
end Go.Proofs.YthnihgnboelipadDoor
