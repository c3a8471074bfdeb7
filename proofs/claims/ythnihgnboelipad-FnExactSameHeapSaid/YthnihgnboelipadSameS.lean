/- Contracts of spec.SameBytes. -/
import Derived.Test.YthnihgnboelipadMem
import Derived.BigQuiet
import Derived.Deep.QuietTactic
namespace Go.Proofs.Ythnihgnboelipad
open Go Go.RowKit

theorem sSameBytes_any (A B : Option Addr) (n m c d : Nat) (xs ys : List Int) (w : World) (h : RI w A n xs) (k : RI w B m ys) (hn : n ≤ 1048576) (hm : m ≤ 9223372036854775807) :
    Calls Try.prog 42 #[.slice A n c, .slice B m d] w fun e w' => e = .returned (.bool (xs == ys)) ∧ ∃ q, w' = w.drewN q := by
  have HL := Lib.hid h.1
  have HM := Lib.hid k.1
  by_cases hnm : n = m
  · subst hnm
    go_enter Try.func42, Try.ntmps42
    go_wp2
    go_loopw [5] (fun i wr => ∃ (j q : Nat), j ≤ n ∧ i = .int .i64 j ∧ wr = w.drewN q ∧ xs.take j = ys.take j) (fun i _ => n - (intOf i).toNat)
    case atStart => exact ⟨0, 0, Nat.zero_le _, rfl, rfl, rfl⟩
    case round =>
      obtain ⟨j, q, hj, rfl, rfl, heq⟩ := hrel
      have HE := Lib.hid heq; clear heq
      by_cases hlt : j < n
      · obtain ⟨b, o, x, rfl, hx, hw, hc⟩ := h.at_ hlt
        obtain ⟨b2, o2, y, rfl, hy, hw2, hc2⟩ := k.at_ hlt
        have HX := Lib.hid hx; clear hx
        have HY := Lib.hid hy; clear hy
        by_cases hxy : x = y
        · subst hxy
          go_wp2
          go_quiet (fail)
          go_wp2
          go_roundw
          case rel => exact ⟨j + 1, _, by omega, by go_num, rfl, by rw [take_succ_of HX.out, take_succ_of HY.out, HE.out]⟩
          case measure => simp [intOf]; omega
        · have hne : (x != y) = true := by simpa using hxy
          have HN := Lib.hid hxy; clear hxy
          go_wp2
          go_quiet (fail)
          go_wp2
          go_ret
          refine ⟨ret_bool (Eq.symm ?_), _, World.drewN_drewN _ _ _⟩
          rw [beq_eq_false_iff_ne]
          rintro rfl
          have := HX.out.symm.trans HY.out
          injection this with this
          exact HN.out this
      · obtain rfl : j = n := by omega
        go_wp2
        go_ret
        refine ⟨ret_bool (Eq.symm ?_), _, rfl⟩
        have := HE.out
        rw [List.take_of_length_le (Nat.le_of_eq HL.out), List.take_of_length_le (Nat.le_of_eq HM.out)] at this
        rw [this]; simp
  · have hne : ((n : Int) != (m : Int)) = true := by simp; omega
    have HN := Lib.hid hnm; clear hnm
    go_enter Try.func42, Try.ntmps42
    go_wp2
    go_ret
    refine ⟨ret_bool (Eq.symm ?_), 0, rfl⟩
    rw [beq_eq_false_iff_ne]
    rintro rfl
    exact HN.out (HL.out.symm.trans HM.out)

end Go.Proofs.Ythnihgnboelipad
