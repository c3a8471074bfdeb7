/- Contracts of RangeOf in both packages, and of the comparison of spans. -/
import Derived.Test.YthnihgnboelipabDoorGen
import Derived.Test.YthnihgnboelipabDoorSz
namespace Go.Proofs.YthnihgnboelipabDoor
open Go Go.RowKit

def rgA (s c : Int) : Int := if genOk s c then stAt s c else 0
def rgB (s c : Int) : Int := if genOk s c then stAt s c + szOf c else 0
theorem rng_cases (s c : Int) : (stAt s c = -1 ∧ rgA s c = 0 ∧ rgB s c = 0) ∨ (0 ≤ stAt s c ∧ stAt s c ≤ 504 ∧ rgA s c = stAt s c ∧ rgB s c = stAt s c + szOf c) := by
  cases h : genOk s c
  · exact .inl ⟨(gen_no h).2, by rw [rgA, h]; rfl, by rw [rgB, h]; rfl⟩
  · rcases gen_rng s c with ⟨_, h2⟩ | ⟨h1, h3, h2⟩
    · have := (gen_yes h).2
      simp only [genOk, Bool.and_eq_true] at h
      have hi := inB_iff.1 h.1
      have hst := str_bd c
      have hm := mul_bd (a := s % 4) (b := strOf c) (by omega) (by omega) hst.1 hst.2
      omega
    · exact .inr ⟨by omega, by omega, by rw [rgA, if_pos h], by rw [rgB, if_pos h]⟩
theorem ret_agg2 {a b a' b' : Int} (h : a = a') (h' : b = b') : Ending.returned (.agg #[.int .i64 a, .int .i64 b]) = .returned (.agg #[.int .i64 a', .int .i64 b']) := by rw [h, h']

theorem sRangeOf_any (s c : Int) (w : World) :
    Calls Tryd.prog 32 #[.int .i64 s, .int .i64 c] w fun e w' => e = .returned (.agg #[.int .i64 (rgA s c), .int .i64 (rgB s c)]) ∧ Below w.heap.size w w' := by
  have HG := Lib.hid (fun w => sStartOf_any s c w)
  have hsz := sz_bd c
  rcases rng_cases s c with ⟨h1, h2, h3⟩ | ⟨h1, h4, h2, h3⟩
  · have HZ := Lib.hid (And.intro h2 h3)
    rw [h1] at HG
    clear h1 h2 h3
    go_enter Tryd.func32, Tryd.ntmps32
    go_wp2_with (go_at_call 31; refine (HG.out _).mono ?_; rintro e w' ⟨rfl, rfl⟩)
    refine bodyPost_ret (v := .agg #[.int .i64 0, .int .i64 0]) (by simp [results, Tryd.results32, go_sem]) rfl ⟨ret_agg2 HZ.out.1.symm HZ.out.2.symm, ?_⟩
    exact (Below.refl _ _).alloc (Nat.le_refl _) _
  · have HZ := Lib.hid (And.intro h2 h3)
    clear h2 h3
    go_enter Tryd.func32, Tryd.ntmps32
    go_wp2_with (first | (go_at_call 31; refine (HG.out _).mono ?_; rintro e w' ⟨rfl, rfl⟩) | (go_at_call 27; refine (sSizeOf_any _ _).mono ?_; rintro e w' ⟨rfl, rfl⟩))
    refine bodyPost_ret (v := .agg #[.int .i64 (stAt s c), .int .i64 (stAt s c + szOf c)]) (by simp [results, Tryd.results32, go_sem]) rfl ⟨ret_agg2 HZ.out.1.symm HZ.out.2.symm, ?_⟩
    exact (Below.refl _ _).alloc (Nat.le_refl _) _

theorem iRangeOf_any (s c : Int) (w : World) (ht : Tab w) :
    Calls Tryd.prog 25 #[.int .i64 s, .int .i64 c] w fun e w' => e = .returned (.agg #[.int .i64 (rgA s c), .int .i64 (rgB s c)]) ∧ Below w.heap.size w w' := by
  have ht2 : ∀ o, Tab (w.alloc o) := fun o => ht.below ((Below.refl _ _).alloc (Nat.le_refl _) _)
  have HT := Lib.hid ht2; clear ht2
  have HG := Lib.hid (fun w => iStartOf_any s c w)
  have hsz := sz_bd c
  rcases rng_cases s c with ⟨h1, h2, h3⟩ | ⟨h1, h4, h2, h3⟩
  · have HZ := Lib.hid (And.intro h2 h3)
    rw [h1] at HG
    clear h1 h2 h3
    go_enter Tryd.func25, Tryd.ntmps25
    go_wp2_with (go_at_call 26; refine (HG.out _ (HT.out _)).mono ?_; rintro e w' ⟨rfl, rfl⟩)
    refine bodyPost_ret (v := .agg #[.int .i64 0, .int .i64 0]) (by simp [results, Tryd.results25, go_sem]) rfl ⟨ret_agg2 HZ.out.1.symm HZ.out.2.symm, ?_⟩
    exact (Below.refl _ _).alloc (Nat.le_refl _) _
  · have HZ := Lib.hid (And.intro h2 h3)
    clear h2 h3
    go_enter Tryd.func25, Tryd.ntmps25
    go_wp2_with (first | (go_at_call 26; refine (HG.out _ (HT.out _)).mono ?_; rintro e w' ⟨rfl, rfl⟩) | (go_at_call 36; refine (iSizeOf_any _ _ (HT.out _)).mono ?_; rintro e w' ⟨rfl, rfl⟩))
    refine bodyPost_ret (v := .agg #[.int .i64 (stAt s c), .int .i64 (stAt s c + szOf c)]) (by simp [results, Tryd.results25, go_sem]) rfl ⟨ret_agg2 HZ.out.1.symm HZ.out.2.symm, ?_⟩
    exact (Below.refl _ _).alloc (Nat.le_refl _) _
end Go.Proofs.YthnihgnboelipabDoor
