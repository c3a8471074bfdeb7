/- Contracts of the class of a slot in both packages (a heap of the right shape). -/
import Derived.Test.YthnihgnboelipacDoorShp
import Derived.Test.YthnihgnboelipacDoorGen
import Derived.BigQuiet
import Derived.Deep.QuietTactic
namespace Go.Proofs.YthnihgnboelipacDoor
open Go Go.RowKit

theorem quiet_left {P : Program} {f : FuncId} {args : Array Value} {w : World} {n : Nat} {v : Value}
    (h : Calls P f args (w.drewN n) fun e w' => e = .returned v ∧ w.drewN n = w') : Calls P f args (w.drewN n) fun e w'' => e = .returned v ∧ ∃ m, w'' = w.drewN m :=
  h.mono fun _ _ ⟨he, hm⟩ => ⟨he, n, hm.symm⟩

/-- The class of a slot in a heap of the right shape. -/
def clsIn (ys : List Int) (s : Int) : Int := if inB s 0 23 && genOk s (ys.getD (s / 4).toNat 0) then ys.getD (s / 4).toNat 0 else -1
theorem cin_no1 {ys : List Int} {s : Int} (h : inB s 0 23 = false) : clsIn ys s = -1 := by rw [clsIn, h]; rfl
theorem cin_no2 {ys : List Int} {s y : Int} (hy : ys.getD (s / 4).toNat 0 = y) (h : genOk s y = false) : clsIn ys s = -1 := by rw [clsIn, hy, h, Bool.and_false]; rfl
theorem cin_yes {ys : List Int} {s y : Int} (hy : ys.getD (s / 4).toNat 0 = y) (hb : inB s 0 23 = true) (h : genOk s y = true) : clsIn ys s = y := by rw [clsIn, hy, hb, h]; rfl
theorem at_page {w : World} {A' : Option Addr} {ys : List Int} {s : Int} (h' : RI w A' 6 ys) (hb : inB s 0 23 = true) :
    ∃ b o y, A' = some ⟨b, o, none⟩ ∧ b < w.heap.size ∧ ys.getD (s / 4).toNat 0 = y ∧ w.cell? ⟨b, o + (s / 4).toNat, none⟩ = some (.int .i64 y) := by
  have hi := inB_iff.1 hb
  obtain ⟨b, o, y, e, hy, _, hc⟩ := h'.at_ (k := (s / 4).toNat) (by omega)
  exact ⟨b, o, y, e, h'.lt b o e (by omega), by simp [List.getD, hy], hc⟩

set_option maxHeartbeats 400000 in
theorem iClassIn_any (A A' : Option Addr) (n c c' : Nat) (ys : List Int) (s : Int) (w : World) (h' : RI w A' 6 ys) (ht : Tab w) :
    Calls Tryd.prog 47 #[.agg #[.slice A n c, .slice A' 6 c'], .int .i64 s] w fun e w' => e = .returned (.int .i64 (clsIn ys s)) ∧ Below w.heap.size w w' := by
  have hb0 : Below w.heap.size w (w.alloc (.cells #[.slice A n c, .slice A' 6 c'] 26)) := (Below.refl _ _).alloc (Nat.le_refl _) _
  have ht0 := ht.below hb0
  cases hb : inB s 0 23
  · have HZ := Lib.hid (cin_no1 (ys := ys) hb)
    go_enter Tryd.func47, Tryd.ntmps47
    go_wp2_with (go_at_call 61; refine (slotOk_any _ _).mono ?_; rintro e w' ⟨rfl, rfl⟩)
    go_ret
    exact ⟨ret_int HZ.out.symm, hb0⟩
  · have hi := inB_iff.1 hb
    obtain ⟨b, o, y, rfl, hlt, hy, hc⟩ := at_page h' hb
    have hpg : pgOf s = s / 4 := by rw [pgOf, hb]; rfl
    have hl1 : (0 : Int) ≤ s / 4 := by omega
    have hl2 : s / 4 < 6 := by omega
    have HY := Lib.hid hy; clear hy
    rcases gen_rng s y with ⟨e1, e2⟩ | ⟨e1, e3, e2⟩
    · have hg : genOk s y = false := by
        cases hg : genOk s y
        · rfl
        · have := (gen_yes hg).1
          rw [e1] at this
          have hp := str_bd y
          have hm := mul_bd (a := s % 4) (b := strOf y) (by omega) (by omega) hp.1 hp.2
          omega
      have HZ := Lib.hid (cin_no2 HY.out hg)
      clear e2 hg
      go_enter Tryd.func47, Tryd.ntmps47
      go_wp2_with (go_at_call 61; refine (slotOk_any _ _).mono ?_; rintro e w' ⟨rfl, rfl⟩)
      go_quiet ((go_at_call 63; exact quiet_left (iPageOf_any _ _)))
      go_wp2_with (go_at_call 40; refine (iGenAt_any _ _ _ (by exact ht0)).mono ?_; rintro e w' ⟨rfl, rfl⟩)
      go_ret
      exact ⟨ret_int HZ.out.symm, below_drewN hb0 _⟩
    · have hg : genOk s y = true := by
        cases hg : genOk s y
        · have := (gen_no hg).1
          omega
        · rfl
      have HZ := Lib.hid (cin_yes HY.out hb hg)
      clear e2 hg
      go_enter Tryd.func47, Tryd.ntmps47
      go_wp2_with (go_at_call 61; refine (slotOk_any _ _).mono ?_; rintro e w' ⟨rfl, rfl⟩)
      go_quiet ((go_at_call 63; exact quiet_left (iPageOf_any _ _)))
      go_wp2_with (go_at_call 40; refine (iGenAt_any _ _ _ (by exact ht0)).mono ?_; rintro e w' ⟨rfl, rfl⟩)
      go_ret
      exact ⟨ret_int HZ.out.symm, below_drewN hb0 _⟩

theorem gen_no_of {s y : Int} (hb : inB s 0 23 = true) (h : genOk s y = false) : perOf y ≤ s % 4 := by
  simp [genOk, hb] at h
  omega
theorem per_neg {y : Int} (h : y < 0) : perOf y = 0 := by
  rcases cls_cases y with rfl | rfl | rfl | h'
  · omega
  · omega
  · omega
  · exact h'.2.2.2.2.2.2

set_option maxHeartbeats 400000 in
theorem sClassIn_any (A A' : Option Addr) (n c c' : Nat) (ys : List Int) (s : Int) (w : World) (h' : RI w A' 6 ys) :
    Calls Tryd.prog 48 #[.agg #[.slice A n c, .slice A' 6 c'], .int .i64 s] w fun e w' => e = .returned (.int .i64 (clsIn ys s)) ∧ Below w.heap.size w w' := by
  have hb0 : Below w.heap.size w (w.alloc (.cells #[.slice A n c, .slice A' 6 c'] 26)) := (Below.refl _ _).alloc (Nat.le_refl _) _
  cases hb : inB s 0 23
  · have HZ := Lib.hid (cin_no1 (ys := ys) hb)
    have hpg : pgOf s = -1 := by rw [pgOf, hb]; rfl
    go_enter Tryd.func48, Tryd.ntmps48
    go_wp2_with (go_at_call 17; refine (sPageOf_any _ _).mono ?_; rintro e w' ⟨rfl, rfl⟩)
    go_quiet (fail)
    go_wp2
    go_ret
    exact ⟨ret_int HZ.out.symm, below_drewN hb0 _⟩
  · have hi := inB_iff.1 hb
    obtain ⟨b, o, y, rfl, hlt, hy, hc⟩ := at_page h' hb
    have hpg : pgOf s = s / 4 := by rw [pgOf, hb]; rfl
    have hix : ixOf s = s % 4 := by rw [ixOf, hb]; rfl
    have hl1 : (0 : Int) ≤ s / 4 := by omega
    have hl2 : s / 4 < 6 := by omega
    have hl3 : decide (s / 4 < 0) = false := by simp; omega
    have HY := Lib.hid hy; clear hy
    by_cases hyn : y < 0
    · have hg : genOk s y = false := by rw [genOk, per_neg hyn]; simp; omega
      have HZ := Lib.hid (cin_no2 HY.out hg)
      have hd : decide (y < 0) = true := by simpa using hyn
      clear hg
      go_enter Tryd.func48, Tryd.ntmps48
      go_wp2_with (go_at_call 17; refine (sPageOf_any _ _).mono ?_; rintro e w' ⟨rfl, rfl⟩)
      go_quiet (fail)
      go_wp2
      go_ret
      exact ⟨ret_int HZ.out.symm, below_drewN hb0 _⟩
    · have hd : decide (y < 0) = false := by simpa using hyn
      by_cases hp : perOf y ≤ s % 4
      · have hg : genOk s y = false := by rw [genOk]; simp; omega
        have HZ := Lib.hid (cin_no2 HY.out hg)
        have hd2 : decide (perOf y ≤ s % 4) = true := by simpa using hp
        clear hg
        go_enter Tryd.func48, Tryd.ntmps48
        go_wp2_with (go_at_call 17; refine (sPageOf_any _ _).mono ?_; rintro e w' ⟨rfl, rfl⟩)
        go_quiet ((first | (go_at_call 70; exact quiet_left (sIndexOf_any _ _)) | (go_at_call 13; exact quiet_left (sPerPage_any _ _))))
        go_wp2
        go_ret
        exact ⟨ret_int HZ.out.symm, below_drewN hb0 _⟩
      · have hg : genOk s y = true := by rw [genOk, hb]; simp; omega
        have HZ := Lib.hid (cin_yes HY.out hb hg)
        have hd2 : decide (perOf y ≤ s % 4) = false := by simpa using hp
        clear hg
        go_enter Tryd.func48, Tryd.ntmps48
        go_wp2_with (go_at_call 17; refine (sPageOf_any _ _).mono ?_; rintro e w' ⟨rfl, rfl⟩)
        go_quiet ((first | (go_at_call 70; exact quiet_left (sIndexOf_any _ _)) | (go_at_call 13; exact quiet_left (sPerPage_any _ _))))
        go_wp2
        go_ret
        exact ⟨ret_int HZ.out.symm, below_drewN hb0 _⟩

/-- What ClassAt gives. -/
def clsAt (xs ys : List Int) (s : Int) : Int := if shp xs ys then clsIn ys s else -1
theorem cat_no {xs ys : List Int} {s : Int} (h : shp xs ys = false) : clsAt xs ys s = -1 := by rw [clsAt, h]; rfl
theorem cat_yes {xs ys : List Int} {s : Int} (h : shp xs ys = true) : clsAt xs ys s = clsIn ys s := by rw [clsAt, h]; rfl

theorem iClassAt_any (A A' : Option Addr) (n c n' c' : Nat) (xs ys : List Int) (s : Int) (w : World) (h : RI w A n xs) (h' : RI w A' n' ys) (hn : n ≤ 1048576) (hn' : n' ≤ 1048576) (ht : Tab w) :
    Calls Tryd.prog 18 #[.agg #[.slice A n c, .slice A' n' c'], .int .i64 s] w fun e w' => e = .returned (.int .i64 (clsAt xs ys s)) ∧ Below w.heap.size w w' := by
  have hb0 : Below w.heap.size w (w.alloc (.cells #[.slice A n c, .slice A' n' c'] 26)) := (Below.refl _ _).alloc (Nat.le_refl _) _
  have HS := Lib.hid (iShape_any A A' n c n' c' xs ys _ (h.below hb0) (h'.below hb0) hn hn')
  cases hs : shp xs ys
  · have HZ := Lib.hid (cat_no (s := s) hs)
    go_enter Tryd.func18, Tryd.ntmps18
    go_wp2_with fail
    refine HS.out.mono ?_
    rintro e w1 ⟨rfl, b1⟩
    go_wp2_with fail
    go_ret
    exact ⟨ret_int HZ.out.symm, hb0.trans (b1.mono hb0.size)⟩
  · have HZ := Lib.hid (cat_yes (s := s) hs)
    have h6 : n' = 6 := h'.1.symm.trans (shp_iff.1 hs).2.1
    subst h6
    go_enter Tryd.func18, Tryd.ntmps18
    go_wp2_with fail
    refine HS.out.mono ?_
    rintro e w1 ⟨rfl, b1⟩
    have c0 : w1.cell? ⟨w.heap.size, 0, none⟩ = some (.slice A n c) := by rw [b1.cell (p := ⟨w.heap.size, 0, none⟩) (by simp)]; simp [go_sem]
    have c1 : w1.cell? ⟨w.heap.size, 1, none⟩ = some (.slice A' 6 c') := by rw [b1.cell (p := ⟨w.heap.size, 1, none⟩) (by simp)]; simp [go_sem]
    have t1 := hb0.trans (b1.mono hb0.size)
    have HC := Lib.hid (iClassIn_any A A' n c c' ys s w1 (h'.below t1) (ht.below t1))
    go_wp2_with fail
    refine HC.out.mono ?_
    rintro e w2 ⟨rfl, b2⟩
    go_wp2_with fail
    go_ret
    exact ⟨ret_int HZ.out.symm, t1.trans (b2.mono t1.size)⟩

theorem sClassAt_any (A A' : Option Addr) (n c n' c' : Nat) (xs ys : List Int) (s : Int) (w : World) (h : RI w A n xs) (h' : RI w A' n' ys) (hn : n ≤ 1048576) (hn' : n' ≤ 1048576) :
    Calls Tryd.prog 20 #[.agg #[.slice A n c, .slice A' n' c'], .int .i64 s] w fun e w' => e = .returned (.int .i64 (clsAt xs ys s)) ∧ Below w.heap.size w w' := by
  have hb0 : Below w.heap.size w (w.alloc (.cells #[.slice A n c, .slice A' n' c'] 26)) := (Below.refl _ _).alloc (Nat.le_refl _) _
  have HS := Lib.hid (sShape_any A A' n c n' c' xs ys _ (h.below hb0) (h'.below hb0) hn hn')
  cases hs : shp xs ys
  · have HZ := Lib.hid (cat_no (s := s) hs)
    go_enter Tryd.func20, Tryd.ntmps20
    go_wp2_with fail
    refine HS.out.mono ?_
    rintro e w1 ⟨rfl, b1⟩
    go_wp2_with fail
    go_ret
    exact ⟨ret_int HZ.out.symm, hb0.trans (b1.mono hb0.size)⟩
  · have HZ := Lib.hid (cat_yes (s := s) hs)
    have h6 : n' = 6 := h'.1.symm.trans (shp_iff.1 hs).2.1
    subst h6
    go_enter Tryd.func20, Tryd.ntmps20
    go_wp2_with fail
    refine HS.out.mono ?_
    rintro e w1 ⟨rfl, b1⟩
    have c0 : w1.cell? ⟨w.heap.size, 0, none⟩ = some (.slice A n c) := by rw [b1.cell (p := ⟨w.heap.size, 0, none⟩) (by simp)]; simp [go_sem]
    have c1 : w1.cell? ⟨w.heap.size, 1, none⟩ = some (.slice A' 6 c') := by rw [b1.cell (p := ⟨w.heap.size, 1, none⟩) (by simp)]; simp [go_sem]
    have t1 := hb0.trans (b1.mono hb0.size)
    have HC := Lib.hid (sClassIn_any A A' n c c' ys s w1 (h'.below t1))
    go_wp2_with fail
    refine HC.out.mono ?_
    rintro e w2 ⟨rfl, b2⟩
    go_wp2_with fail
    go_ret
    exact ⟨ret_int HZ.out.symm, t1.trans (b2.mono t1.size)⟩
end Go.Proofs.YthnihgnboelipacDoor
