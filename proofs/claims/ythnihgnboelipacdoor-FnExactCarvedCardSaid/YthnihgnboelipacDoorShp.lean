/- Contracts of the shape of a heap in both packages. -/
import Derived.Test.YthnihgnboelipacDoorBy1b
import Derived.Test.YthnihgnboelipacDoorClsM
import Derived.Test.YthnihgnboelipacDoorCok
import Derived.Deep.RegionWith
namespace Go.Proofs.YthnihgnboelipacDoor
open Go Go.RowKit

/-- A heap of the right shape. -/
def shp (xs ys : List Int) : Bool := decide (xs.length = 384) && (decide (ys.length = 6) && (bytesOk xs && ys.all (fun y => inB y (-1) 2)))
theorem shp_iff {xs ys : List Int} : shp xs ys = true ↔ xs.length = 384 ∧ ys.length = 6 ∧ bytesOk xs = true ∧ ∀ y ∈ ys, -1 ≤ y ∧ y ≤ 2 := by
  simp [shp, List.all_eq_true, inB_iff]
theorem shp_no {xs ys : List Int} (h : ¬ (xs.length = 384 ∧ ys.length = 6 ∧ bytesOk xs = true ∧ ∀ y ∈ ys, -1 ≤ y ∧ y ≤ 2)) : shp xs ys = false := by
  rw [Bool.eq_false_iff]
  exact fun e => h (shp_iff.1 e)
theorem all_snoc {ys : List Int} {j : Nat} {y : Int} (hy : ys[j]? = some y) (h : ∀ x ∈ ys.take j, -1 ≤ x ∧ x ≤ 2) (h1 : -1 ≤ y ∧ y ≤ 2) : ∀ x ∈ ys.take (j + 1), -1 ≤ x ∧ x ≤ 2 := by
  rw [take_succ_of hy]
  intro x hx
  rcases List.mem_append.1 hx with hx | hx
  · exact h x hx
  · rw [List.mem_singleton.1 hx]; exact h1
/-- All of a part behind one name. -/
def AllIn (l : List Int) : Prop := ∀ x ∈ l, -1 ≤ x ∧ x ≤ 2

theorem iShape_any (A A' : Option Addr) (n c n' c' : Nat) (xs ys : List Int) (w : World) (h : RI w A n xs) (h' : RI w A' n' ys) (hn : n ≤ 1048576) (hn' : n' ≤ 1048576) :
    Calls Tryd.prog 46 #[.agg #[.slice A n c, .slice A' n' c']] w fun e w' => e = .returned (.bool (shp xs ys)) ∧ Below w.heap.size w w' := by
  have HL := Lib.hid (And.intro h.1 h'.1)
  have hb0 : Below w.heap.size w (w.alloc (.cells #[.slice A n c, .slice A' n' c'] 26)) := (Below.refl _ _).alloc (Nat.le_refl _) _
  have h0 := h.below hb0
  by_cases q1 : n = 384
  case neg =>
    have HZ := Lib.hid (shp_no (xs := xs) (ys := ys) (by rw [HL.out.1]; omega))
    have ht : ((n : Int) != 384) = true := by rw [bne_iff_ne]; omega
    go_enter Tryd.func46, Tryd.ntmps46
    go_wp2
    go_ret
    exact ⟨ret_bool HZ.out.symm, hb0⟩
  by_cases q2 : n' = 6
  case neg =>
    have HZ := Lib.hid (shp_no (xs := xs) (ys := ys) (by rw [HL.out.2]; omega))
    have ht : ((n : Int) != 384) = false := by rw [bne_eq_false_iff_eq]; omega
    have ht2 : ((n' : Int) != 6) = true := by rw [bne_iff_ne]; omega
    clear q1
    go_enter Tryd.func46, Tryd.ntmps46
    go_wp2
    go_ret
    exact ⟨ret_bool HZ.out.symm, hb0⟩
  have ht : ((n : Int) != 384) = false := by rw [bne_eq_false_iff_eq]; omega
  have ht2 : ((n' : Int) != 6) = false := by rw [bne_eq_false_iff_eq]; omega
  have Hq := Lib.hid (And.intro q1 q2)
  have qle : n' ≤ 6 ∧ 6 ≤ n' := by omega
  obtain ⟨qle1, qle2⟩ := qle
  clear q1 q2
  have HB := Lib.hid (fun W r => iBytesOk_any A n c xs W r (by omega))
  cases q3 : bytesOk xs
  · have HZ := Lib.hid (shp_no (xs := xs) (ys := ys) (by rw [q3]; simp))
    go_enter Tryd.func46, Tryd.ntmps46
    go_wp2_with (go_at_call 69; refine (HB.out _ h0).mono ?_; rintro e w' ⟨rfl, rfl⟩)
    go_ret
    exact ⟨ret_bool HZ.out.symm, hb0⟩
  have H3 := Lib.hid q3
  have h0' := h'.below hb0
  go_enter Tryd.func46, Tryd.ntmps46
  go_wp2_with (go_at_call 69; refine (HB.out _ h0).mono ?_; rintro e w' ⟨rfl, rfl⟩)
  go_loop [24] (fun i => ∃ j : Nat, j ≤ n' ∧ i = .int .i64 j ∧ AllIn (ys.take j)) (fun i => n' - (intOf i).toNat)
  case atStart => exact ⟨0, Nat.zero_le _, rfl, by intro x hx; simp at hx⟩
  case round =>
    obtain ⟨j, hj, rfl, hall⟩ := hrel
    by_cases hlt : j < n'
    · obtain ⟨b, o, y, rfl, hy, hw, hc⟩ := h0'.at_ hlt
      have hne : b < w.heap.size := h'.lt b o rfl (by omega)
      have hc' : w.cell? ⟨b, o + j, none⟩ = some (.int .i64 y) := (hb0.cell (p := ⟨b, o + j, none⟩) hne).symm.trans hc
      have HY := Lib.hid hy; clear hy
      by_cases hm : y = -1
      · have ht3 : (y != -1) = false := by rw [bne_eq_false_iff_eq]; exact hm
        have HM := Lib.hid hm; clear hm
        go_wp2
        go_round
        case rel => exact ⟨j + 1, by omega, by go_num, all_snoc HY.out hall (by have := HM.out; omega)⟩
        case measure => simp [intOf]; omega
      · have ht3 : (y != -1) = true := by rw [bne_iff_ne]; exact hm
        cases hi : inB y 0 2
        · have HZ := Lib.hid (shp_no (xs := xs) (ys := ys) (fun hh => by
            have := hh.2.2.2 y (List.mem_of_getElem? HY.out)
            have := inB_no.1 hi
            omega))
          go_wp2_with (go_at_call 35; refine (classOk_any _ _).mono ?_; rintro e w' ⟨rfl, rfl⟩)
          go_ret
          exact ⟨ret_bool HZ.out.symm, hb0⟩
        · have HI := Lib.hid (inB_iff.1 hi)
          go_wp2_with (go_at_call 35; refine (classOk_any _ _).mono ?_; rintro e w' ⟨rfl, rfl⟩)
          go_round
          case rel => exact ⟨j + 1, by omega, by go_num, all_snoc HY.out hall (by have := HI.out; omega)⟩
          case measure => simp [intOf]; omega
    · obtain rfl : j = n' := by omega
      have HZ : Hid (shp xs ys = true) := by
        show _ = _
        rw [shp_iff]
        refine ⟨HL.out.1.trans Hq.out.1, HL.out.2.trans Hq.out.2, H3.out, ?_⟩
        have e : ys.take j = ys := List.take_of_length_le (Nat.le_of_eq HL.out.2)
        rw [← e]; exact hall
      go_wp2
      go_ret
      exact ⟨ret_bool HZ.out.symm, hb0⟩

theorem sShape_any (A A' : Option Addr) (n c n' c' : Nat) (xs ys : List Int) (w : World) (h : RI w A n xs) (h' : RI w A' n' ys) (hn : n ≤ 1048576) (hn' : n' ≤ 1048576) :
    Calls Tryd.prog 41 #[.agg #[.slice A n c, .slice A' n' c']] w fun e w' => e = .returned (.bool (shp xs ys)) ∧ Below w.heap.size w w' := by
  have HL := Lib.hid (And.intro h.1 h'.1)
  have hb0 : Below w.heap.size w (w.alloc (.cells #[.slice A n c, .slice A' n' c'] 26)) := (Below.refl _ _).alloc (Nat.le_refl _) _
  have h0 := h.below hb0
  by_cases q1 : n = 384
  case neg =>
    have HZ := Lib.hid (shp_no (xs := xs) (ys := ys) (by rw [HL.out.1]; omega))
    have ht : ((n : Int) != 384) = true := by rw [bne_iff_ne]; omega
    go_enter Tryd.func41, Tryd.ntmps41
    go_wp2
    go_ret
    exact ⟨ret_bool HZ.out.symm, hb0⟩
  by_cases q2 : n' = 6
  case neg =>
    have HZ := Lib.hid (shp_no (xs := xs) (ys := ys) (by rw [HL.out.2]; omega))
    have ht : ((n : Int) != 384) = false := by rw [bne_eq_false_iff_eq]; omega
    have ht2 : ((n' : Int) != 6) = true := by rw [bne_iff_ne]; omega
    clear q1
    go_enter Tryd.func41, Tryd.ntmps41
    go_wp2
    go_ret
    exact ⟨ret_bool HZ.out.symm, hb0⟩
  have ht : ((n : Int) != 384) = false := by rw [bne_eq_false_iff_eq]; omega
  have ht2 : ((n' : Int) != 6) = false := by rw [bne_eq_false_iff_eq]; omega
  have Hq := Lib.hid (And.intro q1 q2)
  have qle : n' ≤ 6 ∧ 6 ≤ n' := by omega
  obtain ⟨qle1, qle2⟩ := qle
  clear q1 q2
  have HB := Lib.hid (fun W r => sBytesOk_any A n c xs W r (by omega))
  cases q3 : bytesOk xs
  · have HZ := Lib.hid (shp_no (xs := xs) (ys := ys) (by rw [q3]; simp))
    go_enter Tryd.func41, Tryd.ntmps41
    go_wp2_with (go_at_call 64; refine (HB.out _ h0).mono ?_; rintro e w' ⟨rfl, rfl⟩)
    go_ret
    exact ⟨ret_bool HZ.out.symm, hb0⟩
  have H3 := Lib.hid q3
  have h0' := h'.below hb0
  go_enter Tryd.func41, Tryd.ntmps41
  go_wp2_with (go_at_call 64; refine (HB.out _ h0).mono ?_; rintro e w' ⟨rfl, rfl⟩)
  go_loop [3] (fun i => ∃ j : Nat, j ≤ 6 ∧ i = .int .i64 j ∧ AllIn (ys.take j)) (fun i => 6 - (intOf i).toNat)
  case atStart => exact ⟨0, Nat.zero_le _, rfl, by intro x hx; simp at hx⟩
  case round =>
    obtain ⟨j, hj, rfl, hall⟩ := hrel
    by_cases hlt : j < 6
    · obtain ⟨b, o, y, rfl, hy, hw, hc⟩ := h0'.at_ (k := j) (by omega)
      have hne : b < w.heap.size := h'.lt b o rfl (by omega)
      have hc' : w.cell? ⟨b, o + j, none⟩ = some (.int .i64 y) := (hb0.cell (p := ⟨b, o + j, none⟩) hne).symm.trans hc
      have HY := Lib.hid hy; clear hy
      cases hi : inB y (-1) 2
      · have HZ := Lib.hid (shp_no (xs := xs) (ys := ys) (fun hh => by
          have := hh.2.2.2 y (List.mem_of_getElem? HY.out)
          have := inB_no.1 hi
          omega))
        go_wp2_with (go_at_call 44; refine (l1In_any _ _ _ _).mono ?_; rintro e w' ⟨rfl, rfl⟩)
        go_ret
        exact ⟨ret_bool HZ.out.symm, hb0⟩
      · have HI := Lib.hid (inB_iff.1 hi)
        go_wp2_with (go_at_call 44; refine (l1In_any _ _ _ _).mono ?_; rintro e w' ⟨rfl, rfl⟩)
        go_round
        case rel => exact ⟨j + 1, by omega, by go_num, all_snoc HY.out hall (by have := HI.out; omega)⟩
        case measure => simp [intOf]; omega
    · obtain rfl : j = 6 := by omega
      have HZ : Hid (shp xs ys = true) := by
        show _ = _
        rw [shp_iff]
        refine ⟨HL.out.1.trans Hq.out.1, HL.out.2.trans Hq.out.2, H3.out, ?_⟩
        have e : ys.take 6 = ys := List.take_of_length_le (Nat.le_of_eq (HL.out.2.trans Hq.out.2))
        rw [← e]; exact hall
      go_wp2
      go_ret
      exact ⟨ret_bool HZ.out.symm, hb0⟩
end Go.Proofs.YthnihgnboelipacDoor
