/- spec.Hex and spec.l1Digit. -/
import Derived.Test.YtcppgckimbnjbaaNumG
import Derived.Deep.AppendLies
namespace Go.Proofs.Ytcppgckimbnjbaa
open Go Go.RowKit

theorem l1Digit_any (z : Int) (h0 : 0 ≤ z) (h1 : z < 16) (w : World) :
    Calls Try.prog 24 #[.int .i64 z] w fun e w' => e = .returned (.int .u8 ((dig z.toNat).toNat : Int)) ∧ w = w' := by
  have hi1 := hexD_at z.toNat (by omega) z (by omega)
  go_enter Try.func24, Try.ntmps24
  go_wp2
  go_ret
  exact ⟨rfl, rfl⟩

set_option maxHeartbeats 1000000 in
theorem sHex_any (s : ByteArray) (w : World) (hs : s.size ≤ 1048576) :
    Calls Try.prog 17 #[.string s] w fun e w' => e = .returned (.string ⟨(hexL s.data.toList).toArray⟩) ∧ Below w.heap.size w w' := by
  go_enter Try.func17, Try.ntmps17
  go_wp2
  go_loopw [3, 4] (fun v i wr => ∃ j : Nat, j ≤ s.size ∧ i = .int .i64 j ∧ Below w.heap.size w wr ∧ ownsB wr w.heap.size v (hexL (s.data.toList.take j))) (fun _ i _ => s.size - (intOf i).toNat)
  case atStart => exact ⟨0, by omega, rfl, (Below.refl _ _).alloc (Nat.le_refl _) _, ownsB_lit _ _ (Nat.le_refl _)⟩
  case round =>
    obtain ⟨j, hj, rfl, hbel, hown⟩ := hrel
    have hlen := hexL_len (s.data.toList.take j)
    have hll : (hexL (s.data.toList.take j)).length ≤ 2097152 := by
      rw [hlen]; have := List.length_take_le j s.data.toList; omega
    clear hlen
    have hsz := hbel.size
    have hownd : ownsB wr.drew w.heap.size _ (hexL (s.data.toList.take j)) := hown
    by_cases hlt : j < s.size
    · have hc := u8_le s[j]
      have q1 : (0 : Int) ≤ (s[j].toNat : Int) / 16 := by omega
      have q2 : (s[j].toNat : Int) / 16 < 16 := by omega
      have q3 : (0 : Int) ≤ (s[j].toNat : Int) % 16 := by omega
      have q4 : (s[j].toNat : Int) % 16 < 16 := by omega
      have hln : (hexL (s.data.toList.take j)).length + [dig ((s[j].toNat : Int) / 16).toNat, dig ((s[j].toNat : Int) % 16).toNat].length ≤ 140737488355328 := by simp; omega
      have e0 : IntKind.i64.wrap (s[j].toNat : Int) = (s[j].toNat : Int) := IntWalk.i64_in _ (by omega)
      have e1 : IntKind.i64.wrap ((s[j].toNat : Int).tdiv 16) = (s[j].toNat : Int) / 16 := IntWalk.i64_quo _ _ (by omega)
      have e3 : IntKind.i64.wrap ((s[j].toNat : Int) / 16) = (s[j].toNat : Int) / 16 := IntWalk.i64_in _ (by omega)
      have e2 : (s[j].toNat : Int).tmod 16 = (s[j].toNat : Int) % 16 := Int.tmod_eq_emod_of_nonneg (by omega)
      go_wp2
      go_region_law (first | (refine step_appendB wr.drew rfl _ _ rfl w.heap.size _ (hexL (s.data.toList.take j)) (by rfl) hownd #[_, _] [dig ((s[j].toNat : Int) / 16).toNat, dig ((s[j].toNat : Int) % 16).toNat] rfl (by simp) 2 rfl _ (by rfl) rfl hln hsz ?_; intro v' w1 hown1 hb1 hne1) | (go_simp; go_at_call 24; refine (l1Digit_any _ (by assumption) (by assumption) _).mono ?_; rintro e w' ⟨rfl, rfl⟩))
      all_goals
        clear e0 e1 e2 e3
        go_wp2
        go_roundw
        case rel =>
          refine ⟨j + 1, by omega, by go_num, hbel.drew.trans hb1, ?_⟩
          rw [take_snoc s j hlt, hexL_snoc]; exact hown1
        case measure => simp [intOf]; omega
    · obtain rfl : j = s.size := by omega
      have hcv := conv_own hown
      go_wp2
      go_ret
      exact ⟨ret_str (by rw [List.take_of_length_le (by simp)]), hbel⟩
end Go.Proofs.Ytcppgckimbnjbaa
