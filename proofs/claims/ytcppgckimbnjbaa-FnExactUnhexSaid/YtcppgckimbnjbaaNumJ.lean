/- Contracts of Unhex in both packages. -/
import Derived.Test.YtcppgckimbnjbaaNumI
namespace Go.Proofs.Ytcppgckimbnjbaa
open Go Go.RowKit

theorem ret_sb {a c : ByteArray} {b d : Bool} (h : a = c) (h' : b = d) : Ending.returned (.tuple #[.string a, .bool b]) = .returned (.tuple #[.string c, .bool d]) := by rw [h, h']

set_option maxHeartbeats 1000000 in
theorem sUnhex_any (s : ByteArray) (w : World) (hs : s.size ≤ 1048576) :
    Calls Try.prog 19 #[.string s] w fun e w' => e = .returned (.tuple #[.string (uhS s), .bool (uhB s)]) ∧ Below w.heap.size w w' := by
  have hss : s.data.size = s.size := rfl
  by_cases hodd : (s.size : Int) % 2 = 1
  · have HU := Lib.hid (unhexL_odd s.data.toList (by simp; omega))
    have ho : (((s.size : Int) % 2) == 1) = true := by simpa using hodd
    clear hss hodd
    go_enter Try.func19, Try.ntmps19
    go_wp2
    go_ret2
    exact ⟨ret_sb (by rw [uhS, HU.out]) (by rw [uhB, HU.out]; rfl), (Below.refl _ _).alloc (Nat.le_refl _) _⟩
  · have ho : (((s.size : Int) % 2) == 1) = false := by simpa using hodd
    have hev : s.size % 2 = 0 := by omega
    have HSS := Lib.hid hss
    clear hss hodd
    go_enter Try.func19, Try.ntmps19
    go_wp2
    go_loopw [4, 5] (fun v i wr => ∃ (j : Nat) (l : List UInt8), j ≤ s.size ∧ j % 2 = 0 ∧ i = .int .i64 j ∧ l.length ≤ j ∧ unhexL s.data.toList = (unhexL (s.data.toList.drop j)).map (l ++ ·) ∧ Below w.heap.size w wr ∧ ownsB wr w.heap.size v l) (fun _ i _ => s.size - (intOf i).toNat)
    case atStart => exact ⟨0, [], by omega, rfl, rfl, by simp, by cases h : unhexL s.data.toList <;> simp [h], (Below.refl _ _).alloc (Nat.le_refl _) _, ownsB_lit _ _ (Nat.le_refl _)⟩
    case round =>
      obtain ⟨j, l, hj, hj2, rfl, hl, hu, hbel, hown⟩ := hrel
      have HU := Lib.hid hu; clear hu
      have hsz := hbel.size
      by_cases hlt : j < s.size
      · have hj1 : j + 1 < s.size := by omega
        have HA := Lib.hid (unhexL_at s j hj1)
        have ua := unh_bd s[j]
        have ub := unh_bd s[j + 1]
        by_cases hneg : unh s[j] < 0 ∨ unh s[j + 1] < 0
        · have HN : Hid (unhexL s.data.toList = none) := by show _ = _; rw [HU.out, HA.out, if_pos hneg]; rfl
          rcases hneg with hneg | hneg
          all_goals
            go_wp2_with (go_at_call 25; refine (l1FromHex_any _ _).mono ?_; rintro e w' ⟨rfl, rfl⟩)
            all_goals go_ret2
            all_goals exact ⟨ret_sb (by rw [uhS, HN.out]) (by rw [uhB, HN.out]; rfl), hbel⟩
        · have HP : Hid (unhexL s.data.toList = (unhexL (s.data.toList.drop (j + 2))).map ((l ++ [UInt8.ofNat (16 * unh s[j] + unh s[j + 1]).toNat]) ++ ·)) := by
            show _ = _; rw [HU.out, HA.out, if_neg hneg]; cases unhexL (s.data.toList.drop (j + 2)) <;> simp
          have h1 : 0 ≤ unh s[j] := by omega
          have h2 : 0 ≤ unh s[j + 1] := by omega
          clear hneg
          go_wp2_with (first | (go_at_call 25; refine (l1FromHex_any _ _).mono ?_; rintro e w' ⟨rfl, rfl⟩) | (at_builtin; refine wpList_append8 _ rfl _ _ rfl w.heap.size _ l rfl hown _ (by omega) (by omega) rfl (by omega) hsz ?_; intro v' w1 hown1 hb1 _))
          go_roundw
          case rel => exact ⟨j + 2, _, by omega, by omega, by go_num, by simp; omega, HP.out, hbel.trans hb1, hown1⟩
          case measure => simp [intOf]; omega
      · obtain rfl : j = s.size := by omega
        have HP : Hid (unhexL s.data.toList = some l) := by show _ = _; rw [HU.out, List.drop_eq_nil_of_le (by simp)]; simp [unhexL]
        have hcv := conv_own hown
        go_wp2
        go_ret2
        exact ⟨ret_sb (by rw [uhS, HP.out]) (by rw [uhB, HP.out]; rfl), hbel⟩
set_option maxHeartbeats 1000000 in
theorem iUnhex_any (s : ByteArray) (w : World) (hs : s.size ≤ 1048576) :
    Calls Try.prog 20 #[.string s] w fun e w' => e = .returned (.tuple #[.string (uhS s), .bool (uhB s)]) ∧ Below w.heap.size w w' := by
  have hss : s.data.size = s.size := rfl
  by_cases hodd : (s.size : Int) % 2 = 1
  · have HU := Lib.hid (unhexL_odd s.data.toList (by simp; omega))
    have ho : (((s.size : Int) % 2) != 0) = true := by simp; omega
    clear hss hodd
    go_enter Try.func20, Try.ntmps20
    go_wp2
    go_ret2
    exact ⟨ret_sb (by rw [uhS, HU.out]) (by rw [uhB, HU.out]; rfl), Below.refl _ _⟩
  · have ho : (((s.size : Int) % 2) != 0) = false := by simp; omega
    have hev : s.size % 2 = 0 := by omega
    have HSS := Lib.hid hss
    clear hss hodd
    go_enter Try.func20, Try.ntmps20
    obtain ⟨i0, hi, hz0, hz1, hz2⟩ := info_parts info_u8
    go_wp2_with (at_make; refine wpList_make_own _ rfl _ _ 36 rfl w.heap.size 5 i0 (.int .u8 0) 1 Try.underlying36 hi hz0 hz1 .i64 .i64 _ (s.size / 2) rfl rfl (by omega) (by rw [hz2]; omega) (by unfold maxLen; omega) (Nat.le_refl _) ?_; intro w1 hown1 hgrow1)
    go_loopw [4, 5] (fun v i wr => ∃ (j : Nat) (l : List UInt8), j ≤ s.size ∧ j % 2 = 0 ∧ i = .int .i64 j ∧ l.length ≤ j ∧ unhexL s.data.toList = (unhexL (s.data.toList.drop j)).map (l ++ ·) ∧ Below w.heap.size w wr ∧ ownsB wr w.heap.size v l) (fun _ i _ => s.size - (intOf i).toNat)
    case atStart => exact ⟨0, [], by omega, rfl, rfl, by simp, by cases h : unhexL s.data.toList <;> simp [h], (Below.refl _ _).grown hgrow1 (Nat.le_refl _) (by intro k hk; cases hk), hown1⟩
    case round =>
      obtain ⟨j, l, hj, hj2, rfl, hl, hu, hbel, hown⟩ := hrel
      have HU := Lib.hid hu; clear hu
      have hsz := hbel.size
      by_cases hlt : j < s.size
      · have hj1 : j + 1 < s.size := by omega
        have HA := Lib.hid (unhexL_at s j hj1)
        have ua := unh_bd s[j]
        have ub := unh_bd s[j + 1]
        by_cases hneg : unh s[j] < 0 ∨ unh s[j + 1] < 0
        · have HN : Hid (unhexL s.data.toList = none) := by show _ = _; rw [HU.out, HA.out, if_pos hneg]; rfl
          rcases hneg with hneg | hneg
          all_goals
            go_wp2_with (go_at_call 26; refine (indexByte_any _ _).mono ?_; rintro e w' ⟨rfl, rfl⟩)
            all_goals go_ret2
            all_goals exact ⟨ret_sb (by rw [uhS, HN.out]) (by rw [uhB, HN.out]; rfl), hbel⟩
        · have HP : Hid (unhexL s.data.toList = (unhexL (s.data.toList.drop (j + 2))).map ((l ++ [UInt8.ofNat (16 * unh s[j] + unh s[j + 1]).toNat]) ++ ·)) := by
            show _ = _; rw [HU.out, HA.out, if_neg hneg]; cases unhexL (s.data.toList.drop (j + 2)) <;> simp
          have h1 : 0 ≤ unh s[j] := by omega
          have h2 : 0 ≤ unh s[j + 1] := by omega
          clear hneg
          go_wp2_with (first | (go_at_call 26; refine (indexByte_any _ _).mono ?_; rintro e w' ⟨rfl, rfl⟩) | (at_builtin; refine wpList_append8 _ rfl _ _ rfl w.heap.size _ l rfl hown _ (by omega) (by omega) rfl (by omega) hsz ?_; intro v' w1 hown1 hb1 _))
          go_roundw
          case rel => exact ⟨j + 2, _, by omega, by omega, by go_num, by simp; omega, HP.out, hbel.trans hb1, hown1⟩
          case measure => simp [intOf]; omega
      · obtain rfl : j = s.size := by omega
        have HP : Hid (unhexL s.data.toList = some l) := by show _ = _; rw [HU.out, List.drop_eq_nil_of_le (by simp)]; simp [unhexL]
        have hcv := conv_own hown
        go_wp2
        go_ret2
        exact ⟨ret_sb (by rw [uhS, HP.out]) (by rw [uhB, HP.out]; rfl), hbel⟩
end Go.Proofs.Ytcppgckimbnjbaa
