/- Contracts of Carved in both packages. -/
import Derived.Test.YthnihgnboelipacDoorCin
import Derived.Test.YthnihgnboelipacDoorApp
import Derived.Test.YthnihgnboelipacDoorGin0
namespace Go.Proofs.YthnihgnboelipacDoor
open Go Go.RowKit

/-- The carved slots below j. -/
def carv (ys : List Int) : Nat → List Int
  | 0 => []
  | j + 1 => if clsIn ys (j : Int) = -1 then carv ys j else carv ys j ++ [(j : Int)]
theorem carv_len (ys : List Int) : ∀ j, (carv ys j).length ≤ j
  | 0 => Nat.le_refl _
  | j + 1 => by
    have := carv_len ys j
    rw [carv]
    split
    · omega
    · simp; omega
def carved (xs ys : List Int) : List Int := if shp xs ys then carv ys 24 else []
theorem carved_len (xs ys : List Int) : (carved xs ys).length ≤ 24 := by
  unfold carved
  split
  · exact carv_len ys 24
  · simp
theorem OI_nil' (w : World) (B : Nat) : OI w B none 0 0 [] := ⟨by simp, World.ownsRow_nil w B _ 1⟩

set_option maxHeartbeats 1000000 in
theorem iCarved_any (A A' : Option Addr) (n c n' c' : Nat) (xs ys : List Int) (w : World) (h : RI w A n xs) (h' : RI w A' n' ys) (hn : n ≤ 1048576) (hn' : n' ≤ 1048576) (ht : Tab w) :
    Calls Tryd.prog 15 #[.agg #[.slice A n c, .slice A' n' c']] w (RetI w (carved xs ys).length (carved xs ys)) := by
  have hb0 : Below w.heap.size w (w.alloc (.cells #[.slice A n c, .slice A' n' c'] 26)) := (Below.refl _ _).alloc (Nat.le_refl _) _
  have HS := Lib.hid (iShape_any A A' n c n' c' xs ys _ (h.below hb0) (h'.below hb0) hn hn')
  cases hs : shp xs ys
  · have HZ := Lib.hid (show carved xs ys = [] by rw [carved, hs]; rfl)
    go_enter Tryd.func15, Tryd.ntmps15
    go_wp2_with fail
    refine HS.out.mono ?_
    rintro e w1 ⟨rfl, b1⟩
    go_wp2_with fail
    go_ret
    rw [RetI, HZ.out]
    exact ⟨none, 0, rfl, OI_nil' _ _, hb0.trans (b1.mono hb0.size)⟩
  · have HZ := Lib.hid (show carved xs ys = carv ys 24 by rw [carved, hs]; rfl)
    have h6 : n' = 6 := h'.1.symm.trans (shp_iff.1 hs).2.1
    subst h6
    go_enter Tryd.func15, Tryd.ntmps15
    go_wp2_with fail
    refine HS.out.mono ?_
    rintro e w1 ⟨rfl, b1⟩
    have c0 : w1.cell? ⟨w.heap.size, 0, none⟩ = some (.slice A n c) := by rw [b1.cell (p := ⟨w.heap.size, 0, none⟩) (by simp)]; simp [go_sem]
    have c1 : w1.cell? ⟨w.heap.size, 1, none⟩ = some (.slice A' 6 c') := by rw [b1.cell (p := ⟨w.heap.size, 1, none⟩) (by simp)]; simp [go_sem]
    have t1 := hb0.trans (b1.mono hb0.size)
    have s1 : w.heap.size + 1 ≤ w1.heap.size := by have := b1.size; simp at this; omega
    have HB := Lib.hid (And.intro c0 c1)
    clear c0 c1
    go_wp2_with fail
    go_loopw [3, 8] (fun v i wr => ∃ (j m : Nat) (A1 : Option Addr) (k1 : Nat), j ≤ 24 ∧ m = (carv ys j).length ∧ i = .int .i64 j ∧ v = .slice A1 m k1 ∧ OI wr (w.heap.size + 1) A1 m k1 (carv ys j) ∧ Below (w.heap.size + 1) w1 wr) (fun _ i _ => 24 - (intOf i).toNat)
    case atStart => exact ⟨0, 0, none, 0, by omega, rfl, rfl, rfl, OI_nil' _ _, Below.refl _ _⟩
    case round =>
      obtain ⟨j, m, A1, k1, hj, hm, rfl, rfl, ho, hb⟩ := hrel
      have hm24 : m ≤ 24 := by have := carv_len ys j; omega
      have HM := Lib.hid hm; clear hm
      have hsz := hb.size
      by_cases hlt : j < 24
      · have d0 : wr.cell? ⟨w.heap.size, 0, none⟩ = some (.slice A n c) := (hb.cell (p := ⟨w.heap.size, 0, none⟩) (by simp)).trans HB.out.1
        have d1 : wr.cell? ⟨w.heap.size, 1, none⟩ = some (.slice A' 6 c') := (hb.cell (p := ⟨w.heap.size, 1, none⟩) (by simp)).trans HB.out.2
        have tr : Below w.heap.size w wr := t1.trans (hb.mono (by omega))
        have HC := Lib.hid (iClassIn_any A A' n c c' ys (j : Int) wr (h'.below tr) (ht.below tr))
        by_cases e : clsIn ys (j : Int) = -1
        · have hq : (clsIn ys (j : Int) != -1) = false := by rw [e]; rfl
          have HE := Lib.hid (show carv ys (j + 1) = carv ys j by rw [carv, if_pos e])
          clear e
          go_wp2_with fail
          refine HC.out.mono ?_
          rintro e w2 ⟨rfl, b2⟩
          go_wp2_with fail
          go_roundw
          case rel => exact ⟨j + 1, m, A1, k1, by omega, by rw [HE.out]; exact HM.out, by go_num, rfl, by rw [HE.out]; exact ho.below b2, hb.trans (b2.mono (by omega))⟩
          case measure => simp [intOf]; omega
        · have hq : (clsIn ys (j : Int) != -1) = true := by simpa using e
          have HE := Lib.hid (show carv ys (j + 1) = carv ys j ++ [(j : Int)] by rw [carv, if_neg e])
          clear e
          go_wp2_with fail
          refine HC.out.mono ?_
          rintro e w2 ⟨rfl, b2⟩
          have o2 := ho.below b2
          have s2 := b2.size
          go_wp2_with (at_builtin; refine wpList_appendI w2 rfl _ _ rfl (w.heap.size + 1) A1 m k1 (carv ys j) rfl o2 (j : Int) (wf_mk (by omega)) rfl (by omega) (by omega) ?_; intro A3 k3 w3 o3 b3)
          go_roundw
          case rel => exact ⟨j + 1, m + 1, A3, k3, by omega, by rw [HE.out, List.length_append, ← HM.out]; rfl, by go_num, rfl, by rw [HE.out]; exact o3, (hb.trans (b2.mono (by omega))).trans b3⟩
          case measure => simp [intOf]; omega
      · obtain rfl : j = 24 := by omega
        go_wp2
        go_ret
        rw [RetI, HZ.out, ← HM.out]
        exact ⟨_, _, rfl, ho.base (by omega), t1.trans (hb.mono (by omega))⟩

set_option maxHeartbeats 1000000 in
theorem sCarved_any (A A' : Option Addr) (n c n' c' : Nat) (xs ys : List Int) (w : World) (h : RI w A n xs) (h' : RI w A' n' ys) (hn : n ≤ 1048576) (hn' : n' ≤ 1048576) :
    Calls Tryd.prog 16 #[.agg #[.slice A n c, .slice A' n' c']] w (RetI w (carved xs ys).length (carved xs ys)) := by
  have HS := Lib.hid (fun W (hb : Below w.heap.size w W) => sShape_any A A' n c n' c' xs ys W (h.below hb) (h'.below hb) hn hn')
  have hlit := World.ownsRow_lit (e := 3) (size := 1) (w.alloc (.cells #[.slice A n c, .slice A' n' c'] 26)) #[] 0 (base := w.heap.size + 1) (by simp) (by decide) rfl
  have HLit := Lib.hid hlit; clear hlit
  have hb0 : Below w.heap.size w ((w.alloc (.cells #[.slice A n c, .slice A' n' c'] 26)).alloc (.cells #[] 3)) := ((Below.refl _ _).alloc (Nat.le_refl _) _).alloc (by simp) _
  cases hs : shp xs ys
  · have HZ := Lib.hid (show carved xs ys = [] by rw [carved, hs]; rfl)
    go_enter Tryd.func16, Tryd.ntmps16
    go_wp2_with fail
    go_loopw [3, 4] (fun v i wr => v = .slice (some ⟨w.heap.size + 1, 0, none⟩) 0 0 ∧ i = .int .i64 0 ∧ wr = (w.alloc (.cells #[.slice A n c, .slice A' n' c'] 26)).alloc (.cells #[] 3)) (fun _ _ _ => 0)
    case atStart => exact ⟨by simp, rfl, rfl⟩
    case round =>
      obtain ⟨rfl, rfl, rfl⟩ := hrel
      go_wp2_with fail
      refine (HS.out _ hb0).mono ?_
      rintro e w1 ⟨rfl, b1⟩
      go_wp2_with fail
      go_ret
      rw [RetI, HZ.out]
      have o : OI ((w.alloc (.cells #[.slice A n c, .slice A' n' c'] 26)).alloc (.cells #[] 3)) (w.heap.size + 1) (some ⟨w.heap.size + 1, 0, none⟩) 0 0 [] := ⟨by simp, by simpa using HLit.out⟩
      exact ⟨_, _, rfl, (o.below b1).base (by omega), hb0.trans (b1.mono (by simp; omega))⟩
  · have HZ := Lib.hid (show carved xs ys = carv ys 24 by rw [carved, hs]; rfl)
    have h6 : n' = 6 := h'.1.symm.trans (shp_iff.1 hs).2.1
    have HR := Lib.hid (fun s => cin_rng (s := s) hs)
    subst h6
    go_enter Tryd.func16, Tryd.ntmps16
    go_wp2_with fail
    go_loopw [3, 4] (fun v i wr => ∃ (j m : Nat) (A1 : Option Addr) (k1 : Nat), j ≤ 24 ∧ m = (carv ys j).length ∧ i = .int .i64 j ∧ v = .slice A1 m k1 ∧ OI wr (w.heap.size + 1) A1 m k1 (carv ys j) ∧ Below (w.heap.size + 1) (w.alloc (.cells #[.slice A n c, .slice A' 6 c'] 26)) wr) (fun _ i _ => 24 - (intOf i).toNat)
    case atStart => exact ⟨0, 0, some ⟨w.heap.size + 1, 0, none⟩, 0, by omega, rfl, rfl, (by simp), ⟨(by simp [carv]), (by simpa [carv] using HLit.out)⟩, (Below.refl _ _).alloc (by simp) _⟩
    case round =>
      obtain ⟨j, m, A1, k1, hj, hm, rfl, rfl, ho, hb⟩ := hrel
      have hm24 : m ≤ 24 := by have := carv_len ys j; omega
      have HM := Lib.hid hm; clear hm
      have hsz : w.heap.size + 1 ≤ wr.heap.size := by have := hb.size; simp at this; omega
      have tr : Below w.heap.size w wr := ((Below.refl _ _).alloc (Nat.le_refl _) _).trans (hb.mono (by omega))
      by_cases hlt : j < 24
      · have d0 : wr.cell? ⟨w.heap.size, 0, none⟩ = some (.slice A n c) := by rw [hb.cell (p := ⟨w.heap.size, 0, none⟩) (by simp)]; simp [go_sem]
        have d1 : wr.cell? ⟨w.heap.size, 1, none⟩ = some (.slice A' 6 c') := by rw [hb.cell (p := ⟨w.heap.size, 1, none⟩) (by simp)]; simp [go_sem]
        go_wp2_with fail
        refine (HS.out _ tr).mono ?_
        rintro e w1 ⟨rfl, b1⟩
        have e0 := (b1.cell (p := ⟨w.heap.size, 0, none⟩) (by simp; omega)).trans d0
        have e1 := (b1.cell (p := ⟨w.heap.size, 1, none⟩) (by simp; omega)).trans d1
        clear d0 d1
        have tr1 := tr.trans (b1.mono tr.size)
        have s1 := b1.size
        have HC := Lib.hid (sClassIn_any A A' n c c' ys (j : Int) w1 (h'.below tr1))
        have hr1 := (HR.out (j : Int)).1
        by_cases e : clsIn ys (j : Int) = -1
        · have hq : ¬ 0 ≤ clsIn ys (j : Int) := by omega
          have HE := Lib.hid (show carv ys (j + 1) = carv ys j by rw [carv, if_pos e])
          clear e
          go_wp2_with fail
          refine HC.out.mono ?_
          rintro e w2 ⟨rfl, b2⟩
          go_wp2_with fail
          go_roundw
          case rel => exact ⟨j + 1, m, A1, k1, by omega, by rw [HE.out]; exact HM.out, by go_num, rfl, by rw [HE.out]; exact (ho.below b1).below b2, (hb.trans (b1.mono hsz)).trans (b2.mono (by omega))⟩
          case measure => simp [intOf]; omega
        · have hq : 0 ≤ clsIn ys (j : Int) := by omega
          have HE := Lib.hid (show carv ys (j + 1) = carv ys j ++ [(j : Int)] by rw [carv, if_neg e])
          clear e
          go_wp2_with fail
          refine HC.out.mono ?_
          rintro e w2 ⟨rfl, b2⟩
          have o2 := (ho.below b1).below b2
          have s2 := b2.size
          go_wp2_with (at_builtin; refine wpList_appendI w2 rfl _ _ rfl (w.heap.size + 1) A1 m k1 (carv ys j) rfl o2 (j : Int) (wf_mk (by omega)) rfl (by omega) (by omega) ?_; intro A3 k3 w3 o3 b3)
          go_roundw
          case rel => exact ⟨j + 1, m + 1, A3, k3, by omega, by rw [HE.out, List.length_append, ← HM.out]; rfl, by go_num, rfl, by rw [HE.out]; exact o3, ((hb.trans (b1.mono hsz)).trans (b2.mono (by omega))).trans b3⟩
          case measure => simp [intOf]; omega
      · obtain rfl : j = 24 := by omega
        go_wp2
        go_ret
        rw [RetI, HZ.out, ← HM.out]
        exact ⟨_, _, rfl, ho.base (by omega), tr⟩
end Go.Proofs.YthnihgnboelipacDoor
