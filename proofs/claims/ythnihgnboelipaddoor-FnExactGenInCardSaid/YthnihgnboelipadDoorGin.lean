/- Contracts of the generation of a slot in both packages. -/
import Derived.Test.YthnihgnboelipadDoorCin
import Derived.Test.YthnihgnboelipadDoorBy1n
namespace Go.Proofs.YthnihgnboelipadDoor
open Go Go.RowKit

/-- The generation of a slot in a heap of the right shape. -/
def genN (xs ys : List Int) (s : Int) : Int := if clsIn ys s = -1 then 0 else beI (cut xs (genAt s (clsIn ys s)).toNat 4)
def genInN (xs ys : List Int) (s : Int) : Int := if shp xs ys then genN xs ys s else 0

theorem gen_384 {s c : Int} (h : genOk s c = true) : 0 ≤ genAt s c ∧ genAt s c ≤ 380 := by
  have e := (gen_yes h).1
  simp only [genOk, Bool.and_eq_true, decide_eq_true_eq] at h
  have hi := inB_iff.1 h.1
  have hl := h.2
  rw [e]
  rcases cls_cases c with rfl | rfl | rfl | h'
  · rw [show strOf 0 = 12 from rfl]
    rw [show perOf 0 = 4 from rfl] at hl
    omega
  · rw [show strOf 1 = 20 from rfl]
    rw [show perOf 1 = 2 from rfl] at hl
    omega
  · rw [show strOf 2 = 44 from rfl]
    rw [show perOf 2 = 1 from rfl] at hl
    omega
  · have := h'.2.2.2.2.2.2
    omega
theorem cin_ok {ys : List Int} {s : Int} (h : clsIn ys s ≠ -1) : genOk s (clsIn ys s) = true := by
  unfold clsIn at h ⊢
  split at h
  · rename_i hh
    rw [if_pos hh]
    rw [Bool.and_eq_true] at hh
    exact hh.2
  · exact absurd rfl h
theorem cin_rng {xs ys : List Int} {s : Int} (hs : shp xs ys = true) : -1 ≤ clsIn ys s ∧ clsIn ys s ≤ 2 := by
  unfold clsIn
  split
  · rename_i hh
    rw [Bool.and_eq_true] at hh
    have hi := inB_iff.1 hh.1
    have := shp_iff.1 hs
    have hlt : (s / 4).toNat < ys.length := by omega
    exact this.2.2.2 _ (by simp [List.getD, hlt])
  · omega

theorem numAt_int (A : Option Addr) (n c : Nat) (xs : List Int) (p : Int) (w : World) (h : RI w A n xs) (hn : n ≤ c) (hcm : c ≤ 9223372036854775807) (hb : bytesOk xs = true) (h0 : 0 ≤ p) (hs : p + 4 ≤ n) :
    Calls Tryd.prog 48 #[.slice A n c, .int .i64 p, .int .i64 4] w fun e w' => e = .returned (.int .i64 (beI (cut xs p.toNat 4))) ∧ w = w' := by
  obtain ⟨q, rfl⟩ : ∃ q : Nat, p = q := ⟨p.toNat, by omega⟩
  exact numAt_any A n c xs q 4 w h hn hcm hb (by omega) (by omega) (by omega)
theorem l3Load_int (A : Option Addr) (n c : Nat) (xs : List Int) (p : Int) (w : World) (h : RI w A n xs) (hn : n ≤ 9223372036854775807) (hb : bytesOk xs = true) (h0 : 0 ≤ p) (hs : p + 4 ≤ n) :
    Calls Tryd.prog 45 #[.slice A n c, .int .i64 p, .int .i64 4] w fun e w' => e = .returned (.int .i64 (beI (cut xs p.toNat 4))) ∧ w = w' := by
  obtain ⟨q, rfl⟩ : ∃ q : Nat, p = q := ⟨p.toNat, by omega⟩
  exact l3Load_any A n c xs q 4 w h hn hb (by omega) (by omega)

set_option maxHeartbeats 400000 in
theorem iGenN_any (A A' : Option Addr) (c c' : Nat) (xs ys : List Int) (s : Int) (w : World) (h : RI w A 384 xs) (h' : RI w A' 6 ys) (hb : bytesOk xs = true) (hc : 384 ≤ c) (hcm : c ≤ 9223372036854775807) (ht : Tab w) :
    Calls Tryd.prog 25 #[.agg #[.slice A 384 c, .slice A' 6 c'], .int .i64 s] w fun e w' => e = .returned (.int .i64 (genN xs ys s)) ∧ Below w.heap.size w w' := by
  have hb0 : Below w.heap.size w (w.alloc (.cells #[.slice A 384 c, .slice A' 6 c'] 27)) := (Below.refl _ _).alloc (Nat.le_refl _) _
  have HC := Lib.hid (iClassIn_any A A' 384 c c' ys s _ (h'.below hb0) (ht.below hb0))
  by_cases e : clsIn ys s = -1
  · have HZ := Lib.hid (show genN xs ys s = 0 by rw [genN, if_pos e])
    have hq : (clsIn ys s == -1) = true := by rw [e]; rfl
    clear e
    go_enter Tryd.func25, Tryd.ntmps25
    go_wp2_with fail
    refine HC.out.mono ?_
    rintro e w1 ⟨rfl, b1⟩
    go_wp2_with fail
    go_ret
    exact ⟨ret_int HZ.out.symm, hb0.trans (b1.mono hb0.size)⟩
  · have HZ := Lib.hid (show genN xs ys s = beI (cut xs (genAt s (clsIn ys s)).toNat 4) by rw [genN, if_neg e])
    have hq : (clsIn ys s == -1) = false := by simpa using e
    have hg := gen_384 (cin_ok e)
    obtain ⟨hg0, hg1⟩ := hg
    clear e
    go_enter Tryd.func25, Tryd.ntmps25
    go_wp2_with fail
    refine HC.out.mono ?_
    rintro e w1 ⟨rfl, b1⟩
    have c0 : w1.cell? ⟨w.heap.size, 0, none⟩ = some (.slice A 384 c) := by rw [b1.cell (p := ⟨w.heap.size, 0, none⟩) (by simp)]; simp [go_sem]
    have t1 := hb0.trans (b1.mono hb0.size)
    have ht1 := ht.below t1
    have r1 := h.below t1
    go_wp2_with fail
    go_quiet ((first | (go_at_call 35; exact quiet_left (iGenAt_any _ _ _ (by exact ht1))) | (go_at_call 48; exact quiet_left (numAt_int _ _ _ _ _ _ (by exact r1) hc hcm hb hg0 (by omega)))))
    go_wp2
    go_ret
    exact ⟨ret_int HZ.out.symm, below_drewN t1 _⟩

theorem iGenIn_any (A A' : Option Addr) (n c n' c' : Nat) (xs ys : List Int) (s : Int) (w : World) (h : RI w A n xs) (h' : RI w A' n' ys) (hn : n ≤ 1048576) (hn' : n' ≤ 1048576) (ht : Tab w) (hc : n ≤ c) (hcm : c ≤ 9223372036854775807) :
    Calls Tryd.prog 9 #[.agg #[.slice A n c, .slice A' n' c'], .int .i64 s] w fun e w' => e = .returned (.int .i64 (genInN xs ys s)) ∧ Below w.heap.size w w' := by
  have hb0 : Below w.heap.size w (w.alloc (.cells #[.slice A n c, .slice A' n' c'] 27)) := (Below.refl _ _).alloc (Nat.le_refl _) _
  have HS := Lib.hid (iShape_any A A' n c n' c' xs ys _ (h.below hb0) (h'.below hb0) hn hn')
  cases hs : shp xs ys
  · have HZ := Lib.hid (show genInN xs ys s = 0 by rw [genInN, hs]; rfl)
    go_enter Tryd.func9, Tryd.ntmps9
    go_wp2_with fail
    refine HS.out.mono ?_
    rintro e w1 ⟨rfl, b1⟩
    go_wp2_with fail
    go_ret
    exact ⟨ret_int HZ.out.symm, hb0.trans (b1.mono hb0.size)⟩
  · have HZ := Lib.hid (show genInN xs ys s = genN xs ys s by rw [genInN, hs]; rfl)
    have hsp := shp_iff.1 hs
    have h6 : n' = 6 := h'.1.symm.trans hsp.2.1
    have h3 : n = 384 := h.1.symm.trans hsp.1
    have hbo := Lib.hid hsp.2.2.1
    clear hsp
    subst h6 h3
    go_enter Tryd.func9, Tryd.ntmps9
    go_wp2_with fail
    refine HS.out.mono ?_
    rintro e w1 ⟨rfl, b1⟩
    have c0 : w1.cell? ⟨w.heap.size, 0, none⟩ = some (.slice A 384 c) := by rw [b1.cell (p := ⟨w.heap.size, 0, none⟩) (by simp)]; simp [go_sem]
    have c1 : w1.cell? ⟨w.heap.size, 1, none⟩ = some (.slice A' 6 c') := by rw [b1.cell (p := ⟨w.heap.size, 1, none⟩) (by simp)]; simp [go_sem]
    have t1 := hb0.trans (b1.mono hb0.size)
    have HC := Lib.hid (iGenN_any A A' c c' xs ys s w1 (h.below t1) (h'.below t1) hbo.out hc hcm (ht.below t1))
    go_wp2_with fail
    refine HC.out.mono ?_
    rintro e w2 ⟨rfl, b2⟩
    go_wp2_with fail
    go_ret
    exact ⟨ret_int HZ.out.symm, t1.trans (b2.mono t1.size)⟩

set_option maxHeartbeats 400000 in
theorem l7Gen_any (A A' : Option Addr) (c c' : Nat) (xs ys : List Int) (s : Int) (w : World) (h : RI w A 384 xs) (h' : RI w A' 6 ys) (hb : bytesOk xs = true) (he : clsIn ys s ≠ -1) :
    Calls Tryd.prog 22 #[.agg #[.slice A 384 c, .slice A' 6 c'], .int .i64 s] w fun e w' => e = .returned (.int .i64 (beI (cut xs (genAt s (clsIn ys s)).toNat 4))) ∧ Below w.heap.size w w' := by
  have hb0 : Below w.heap.size w (w.alloc (.cells #[.slice A 384 c, .slice A' 6 c'] 27)) := (Below.refl _ _).alloc (Nat.le_refl _) _
  have hg := gen_384 (cin_ok he)
  obtain ⟨hg0, hg1⟩ := hg
  have HC := Lib.hid (fun W (hb : Below w.heap.size w W) => sClassIn_any A A' 384 c c' ys s W (h'.below hb))
  clear he
  go_enter Tryd.func22, Tryd.ntmps22
  go_wp2_with fail
  go_region_with (first
    | (go_at_call 30; refine (HC.out _ (by first | exact hb0.drew | exact hb0)).mono ?_; rintro e w1 ⟨rfl, b1⟩; have b1' := b1; replace b1 := below_undrew b1; have c0 : w1.cell? ⟨w.heap.size, 0, none⟩ = some (.slice A 384 c) := by (rw [b1.cell (p := ⟨w.heap.size, 0, none⟩) (by simp)]; simp [go_sem]))
    | (go_at_call 29; refine (sGenAt_any _ _ _).mono ?_; rintro e w' ⟨rfl, rfl⟩)
    | (go_at_call 45; refine (l3Load_int _ _ _ _ _ _ ((h.below hb0).below b1) (by omega) hb hg0 (by omega)).mono ?_; rintro e w' ⟨rfl, rfl⟩))
  all_goals
    go_wp2
    go_ret
    exact ⟨rfl, hb0.trans (b1.mono (by simp))⟩

theorem sGenIn_any (A A' : Option Addr) (n c n' c' : Nat) (xs ys : List Int) (s : Int) (w : World) (h : RI w A n xs) (h' : RI w A' n' ys) (hn : n ≤ 1048576) (hn' : n' ≤ 1048576) :
    Calls Tryd.prog 7 #[.agg #[.slice A n c, .slice A' n' c'], .int .i64 s] w fun e w' => e = .returned (.int .i64 (genInN xs ys s)) ∧ Below w.heap.size w w' := by
  have hb0 : Below w.heap.size w (w.alloc (.cells #[.slice A n c, .slice A' n' c'] 27)) := (Below.refl _ _).alloc (Nat.le_refl _) _
  have HS := Lib.hid (sClassAt_any A A' n c n' c' xs ys s _ (h.below hb0) (h'.below hb0) hn hn')
  by_cases hk : clsAt xs ys s < 0
  · have HZ : Hid (genInN xs ys s = 0) := by
      show _ = _
      cases hs : shp xs ys
      · rw [genInN, hs]; rfl
      · rw [cat_yes hs] at hk
        have := cin_rng (s := s) hs
        rw [genInN, hs, if_pos rfl, genN, if_pos (by omega)]
    go_enter Tryd.func7, Tryd.ntmps7
    go_wp2_with fail
    refine HS.out.mono ?_
    rintro e w1 ⟨rfl, b1⟩
    go_wp2_with fail
    go_ret
    exact ⟨ret_int HZ.out.symm, hb0.trans (b1.mono hb0.size)⟩
  · have hs : shp xs ys = true := by
      cases hs : shp xs ys
      · rw [cat_no hs] at hk; omega
      · rfl
    have he : clsIn ys s ≠ -1 := by rw [cat_yes hs] at hk; omega
    have HZ := Lib.hid (show genInN xs ys s = beI (cut xs (genAt s (clsIn ys s)).toNat 4) by rw [genInN, hs, if_pos rfl, genN, if_neg he])
    have hsp := shp_iff.1 hs
    have h6 : n' = 6 := h'.1.symm.trans hsp.2.1
    have h3 : n = 384 := h.1.symm.trans hsp.1
    have hbo := Lib.hid hsp.2.2.1
    have HE := Lib.hid he
    clear hsp he hs
    subst h6 h3
    go_enter Tryd.func7, Tryd.ntmps7
    go_wp2_with fail
    refine HS.out.mono ?_
    rintro e w1 ⟨rfl, b1⟩
    have c0 : w1.cell? ⟨w.heap.size, 0, none⟩ = some (.slice A 384 c) := by rw [b1.cell (p := ⟨w.heap.size, 0, none⟩) (by simp)]; simp [go_sem]
    have c1 : w1.cell? ⟨w.heap.size, 1, none⟩ = some (.slice A' 6 c') := by rw [b1.cell (p := ⟨w.heap.size, 1, none⟩) (by simp)]; simp [go_sem]
    have t1 := hb0.trans (b1.mono hb0.size)
    have HC := Lib.hid (l7Gen_any A A' c c' xs ys s w1 (h.below t1) (h'.below t1) hbo.out HE.out)
    go_wp2_with fail
    refine HC.out.mono ?_
    rintro e w2 ⟨rfl, b2⟩
    go_wp2_with fail
    go_ret
    exact ⟨ret_int HZ.out.symm, t1.trans (b2.mono t1.size)⟩
end Go.Proofs.YthnihgnboelipadDoor
