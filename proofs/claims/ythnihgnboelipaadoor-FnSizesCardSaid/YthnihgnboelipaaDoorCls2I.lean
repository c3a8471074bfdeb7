/- Contracts of ClassOf and Waste of the program. -/
import Derived.Test.YthnihgnboelipaaDoorClsI
import Derived.Laws.Rows
namespace Go.Proofs.YthnihgnboelipaaDoor
open Go Go.RowKit

theorem cls0 {n : Int} (h : n < 1) : clsOf n = -1 := by rw [clsOf, if_pos h]
theorem cls1 {n : Int} (h : ¬ n < 1) (h1 : n ≤ 8) : clsOf n = 0 := by rw [clsOf, if_neg h, if_pos h1]
theorem cls2 {n : Int} (h : ¬ n < 1) (h1 : ¬ n ≤ 8) (h2 : n ≤ 16) : clsOf n = 1 := by rw [clsOf, if_neg h, if_neg h1, if_pos h2]
theorem cls3 {n : Int} (h : ¬ n < 1) (h1 : ¬ n ≤ 8) (h2 : ¬ n ≤ 16) (h3 : n ≤ 40) : clsOf n = 2 := by rw [clsOf, if_neg h, if_neg h1, if_neg h2, if_pos h3]
theorem cls4 {n : Int} (h : ¬ n < 1) (h1 : ¬ n ≤ 8) (h2 : ¬ n ≤ 16) (h3 : ¬ n ≤ 40) : clsOf n = -1 := by rw [clsOf, if_neg h, if_neg h1, if_neg h2, if_neg h3]

theorem iClassOf_any (n : Int) (w : World) (ht : Tab w) :
    Calls Tryd.prog 19 #[.int .i64 n] w fun e w' => e = .returned (.int .i64 (clsOf n)) ∧ w = w' := by
  obtain ⟨t, fr, hg⟩ := ht
  by_cases h0 : n < 1
  · have HZ := Lib.hid (cls0 h0)
    clear hg
    go_enter Tryd.func19, Tryd.ntmps19
    go_wp2
    go_ret
    exact ⟨ret_int HZ.out.symm, rfl⟩
  · have i0 : ∀ w, (Instr.index 51 (.agg #[.int .i64 8, .int .i64 16, .int .i64 40]) (.int .i64 0)).run Tryd.prog w = .ok (.int .i64 8) w := fun _ => by kernel_rfl
    have i1 : ∀ w, (Instr.index 51 (.agg #[.int .i64 8, .int .i64 16, .int .i64 40]) (.int .i64 1)).run Tryd.prog w = .ok (.int .i64 16) w := fun _ => by kernel_rfl
    have i2 : ∀ w, (Instr.index 51 (.agg #[.int .i64 8, .int .i64 16, .int .i64 40]) (.int .i64 2)).run Tryd.prog w = .ok (.int .i64 40) w := fun _ => by kernel_rfl
    have HG := Lib.hid hg; clear hg
    go_enter Tryd.func19, Tryd.ntmps19
    go_wp2_with (refine wpList_load_row rfl _ _ rfl 0 rfl t _ fr _ HG.out Tryd.underlying51 rfl (by kernel_rfl) ?_)
    go_loop [8] (fun i => ∃ k : Nat, k ≤ 3 ∧ i = .int .i64 k ∧ (1 ≤ k → 8 < n) ∧ (2 ≤ k → 16 < n) ∧ (3 ≤ k → 40 < n)) (fun i => 3 - (intOf i).toNat)
    case atStart => exact ⟨0, by omega, rfl, by omega, by omega, by omega⟩
    case round =>
      obtain ⟨k, hk, rfl, q1, q2, q3⟩ := hrel
      have hk4 : k = 0 ∨ k = 1 ∨ k = 2 ∨ k = 3 := by omega
      rcases hk4 with rfl | rfl | rfl | rfl
      · clear q1 q2 q3
        by_cases h1 : n ≤ 8
        · have HZ := Lib.hid (cls1 (n := n) (by omega) (by omega))
          go_wp2
          go_ret
          exact ⟨ret_int HZ.out.symm, rfl⟩
        · go_wp2
          go_round
          case rel => exact ⟨1, by omega, rfl, by omega, by omega, by omega⟩
          case measure => simp [intOf]
      · have p1 := q1 (by omega)
        clear q1 q2 q3
        by_cases h1 : n ≤ 16
        · have HZ := Lib.hid (cls2 (n := n) (by omega) (by omega) (by omega))
          go_wp2
          go_ret
          exact ⟨ret_int HZ.out.symm, rfl⟩
        · go_wp2
          go_round
          case rel => exact ⟨2, by omega, rfl, by omega, by omega, by omega⟩
          case measure => simp [intOf]
      · have p1 := q1 (by omega)
        have p2 := q2 (by omega)
        clear q1 q2 q3
        by_cases h1 : n ≤ 40
        · have HZ := Lib.hid (cls3 (n := n) (by omega) (by omega) (by omega) (by omega))
          go_wp2
          go_ret
          exact ⟨ret_int HZ.out.symm, rfl⟩
        · go_wp2
          go_round
          case rel => exact ⟨3, by omega, rfl, by omega, by omega, by omega⟩
          case measure => simp [intOf]
      · have p1 := q3 (by omega)
        clear q1 q2 q3
        have HZ := Lib.hid (cls4 (n := n) (by omega) (by omega) (by omega) (by omega))
        go_wp2
        go_ret
        exact ⟨ret_int HZ.out.symm, rfl⟩

theorem cls_rng (n : Int) : clsOf n = -1 ∨ (clsOf n = 0 ∧ n ≤ 8 ∧ 1 ≤ n) ∨ (clsOf n = 1 ∧ n ≤ 16 ∧ 1 ≤ n) ∨ (clsOf n = 2 ∧ n ≤ 40 ∧ 1 ≤ n) := by
  unfold clsOf
  split
  · exact .inl rfl
  · split
    · exact .inr (.inl ⟨rfl, by omega, by omega⟩)
    · split
      · exact .inr (.inr (.inl ⟨rfl, by omega, by omega⟩))
      · split
        · exact .inr (.inr (.inr ⟨rfl, by omega, by omega⟩))
        · exact .inl rfl

theorem iWaste_any (n : Int) (w : World) (ht : Tab w) :
    Calls Tryd.prog 20 #[.int .i64 n] w fun e w' => e = .returned (.int .i64 (wstOf n)) ∧ w = w' := by
  have HC := Lib.hid (iClassOf_any n w ht)
  have HS := Lib.hid (fun c => iSizeOf_any c w ht)
  have hw : wstOf n = if clsOf n < 0 then -1 else szOf (clsOf n) - n := rfl
  rcases cls_rng n with h | ⟨h, h1, h2⟩ | ⟨h, h1, h2⟩ | ⟨h, h1, h2⟩
  all_goals
    rw [h] at hw HC
    have HW := Lib.hid hw; clear hw h
    have hz1 : szOf 0 = 8 := rfl
    have hz2 : szOf 1 = 16 := rfl
    have hz3 : szOf 2 = 40 := rfl
    go_enter Tryd.func20, Tryd.ntmps20
    go_wp2_with (first | (go_at_call 19; refine HC.out.mono ?_; rintro e w' ⟨rfl, rfl⟩) | (go_at_call 22; refine (HS.out _).mono ?_; rintro e w' ⟨rfl, rfl⟩))
    go_ret
    exact ⟨ret_int (by rw [HW.out]; first | rfl | (simp [szOf] <;> omega)), rfl⟩

end Go.Proofs.YthnihgnboelipaaDoor
