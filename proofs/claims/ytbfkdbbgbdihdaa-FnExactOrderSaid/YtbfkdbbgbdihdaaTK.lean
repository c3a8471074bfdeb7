/- Marks of commands, results and events. -/
import Derived.Test.YtbfkdbbgbdihdaaTH
import Derived.Test.YtbfkdbbgbdihdaaUP
import Derived.Test.YtbfkdbbgbdihdaaMkL
namespace Go.Proofs.Ytbfkdbbgbdihdaa
open Go Go.Tr
set_option maxRecDepth 100000
set_option maxHeartbeats 4000000
set_option linter.unusedVariables false
set_option linter.unusedSimpArgs false
abbrev fC (m : Int) (j : Nat) : CmdT := (m + 3 * j, m + 3 * j + 1, m + 3 * j + 1 + 1)
abbrev fRs (m : Int) (j : Nat) : ResT := ((m + 2 * j).tmod 3 == 0, m + 2 * j + 1)
abbrev bCmd (e κ : Nat) (xs xs' : List CmdT) : Bt := ⟨κ, 0, true, .sl e 3 CmdT encCmd decCmd zCmd xs, .sl e 3 CmdT encCmd decCmd zCmd xs', .ty .own true e 3 CmdT encCmd decCmd zCmd xs'⟩
abbrev bRes (e κ : Nat) (xs xs' : List ResT) : Bt := ⟨κ, 0, true, .sl e 2 ResT encRes decRes zRes xs, .sl e 2 ResT encRes decRes zRes xs', .ty .own true e 2 ResT encRes decRes zRes xs'⟩
theorem markC_run (e : Nat) (xs : List CmdT) (m : Int) (h0 : 0 ≤ m) (h1 : m ≤ 4503599627370496) (hn : xs.length ≤ 4000000) : RunT Try.prog 63 [.one (.h 0 xs.length), ti m] [.sl e 3 CmdT encCmd decCmd zCmd xs] [oi (m + 3 * xs.length)] [.sl e 3 CmdT encCmd decCmd zCmd (mkL zCmd (fC m) xs xs.length)] := by
  refine RunT.of_vc gOk Try.func63 rfl rfl (Nat.le_of_ble_eq_true rfl) (by repeat' (first | exact trivial | exact ⟨_, rfl, Nat.le_refl _⟩ | exact Nat.le_of_ble_eq_true rfl | refine And.intro ?_ ?_)) (Nat.le_of_ble_eq_true rfl) rfl (fun F hE => ?_)
  repeat' (first | exact trivial | refine BS.d (fun h => ?_) (fun h => ?_) | refine BS.e (fun h => ?_) (fun h => ?_) | refine BS.ne (fun h => ?_) (fun h => ?_) | refine BS.n ?_ | refine BS.s (fun h => ?_) (fun h => ?_) | refine And.intro ?_ ?_ | (refine Need.mk ?_; first | with_reducible rfl | (show @Eq TC _ _; rfl) | omega | (simp only [adN_zero]; omega)) | exact OutS.whole rfl rfl | refine ListO.go gOk hE ?_)
  refine CodeK.loop gOk hE (fun i : Nat => ⟨[(0, vr 1000000 xs.length), (1, vi (m + 3 * i)), (5, vi i)], [(1000000, rCmd .own false 0 (mkL zCmd (fC m) xs i))]⟩) (fun i => i ≤ xs.length) (fun i => xs.length - i) 0 (by refine leT.of ?_ ?_ rfl <;> repeat' (first | exact trivial | refine And.intro rfl ?_ | refine And.intro (by simp [mkL_zero] <;> rfl) ?_)) (Nat.zero_le _) ?_
  rintro i hi
  have hl := mkL_len zCmd (fC m) xs i
  repeat' (first | exact trivial | refine BS.d (fun h => ?_) (fun h => ?_) | refine BS.e (fun h => ?_) (fun h => ?_) | refine BS.ne (fun h => ?_) (fun h => ?_) | refine BS.n ?_ | refine BS.s (fun h => ?_) (fun h => ?_) | refine And.intro ?_ ?_ | (refine Need.mk ?_; first | with_reducible rfl | (show @Eq TC _ _; rfl) | omega | (simp only [adN_zero]; omega)) | exact OutS.whole rfl rfl | refine ListO.go gOk hE ?_)
  all_goals (try simp only [adN_zero] at *)
  all_goals first
    | (refine Need.mk ?_; first | omega | (simp only [List.length_set]; omega) | rw [show i = xs.length by omega])
    | (refine ⟨i + 1, (by refine leT.of ?_ ?_ rfl <;> repeat' (first | exact trivial | refine And.intro rfl ?_ | refine And.intro (by first | rfl | (refine litInt ?_; omega) | (refine congrArg (fun l => some (rCmd .own false 0 l)) ?_; have hlt : i < (mkL zCmd (fC m) xs i).length := (by omega); simp only [List.set_set]; simp only [set_getD _ _ _ _ hlt]; exact mkL_set zCmd (fC m) _ _ (by omega))) ?_)), by omega, by first | omega | (dsimp only; omega)⟩)
    | trace_state
theorem markR_run (e : Nat) (xs : List ResT) (m : Int) (h0 : 0 ≤ m) (h1 : m ≤ 4503599627370496) (hn : xs.length ≤ 4000000) : RunT Try.prog 64 [.one (.h 0 xs.length), ti m] [.sl e 2 ResT encRes decRes zRes xs] [oi (m + 2 * xs.length)] [.sl e 2 ResT encRes decRes zRes (mkL zRes (fRs m) xs xs.length)] := by
  refine RunT.of_vc gOk Try.func64 rfl rfl (Nat.le_of_ble_eq_true rfl) (by repeat' (first | exact trivial | exact ⟨_, rfl, Nat.le_refl _⟩ | exact Nat.le_of_ble_eq_true rfl | refine And.intro ?_ ?_)) (Nat.le_of_ble_eq_true rfl) rfl (fun F hE => ?_)
  repeat' (first | exact trivial | refine BS.d (fun h => ?_) (fun h => ?_) | refine BS.e (fun h => ?_) (fun h => ?_) | refine BS.ne (fun h => ?_) (fun h => ?_) | refine BS.n ?_ | refine BS.s (fun h => ?_) (fun h => ?_) | refine And.intro ?_ ?_ | (refine Need.mk ?_; first | with_reducible rfl | (show @Eq TC _ _; rfl) | omega | (simp only [adN_zero]; omega)) | exact OutS.whole rfl rfl | refine ListO.go gOk hE ?_)
  refine CodeK.loop gOk hE (fun i : Nat => ⟨[(0, vr 1000000 xs.length), (1, vi (m + 2 * i)), (5, vi i)], [(1000000, rRes .own false 0 (mkL zRes (fRs m) xs i))]⟩) (fun i => i ≤ xs.length) (fun i => xs.length - i) 0 (by refine leT.of ?_ ?_ rfl <;> repeat' (first | exact trivial | refine And.intro rfl ?_ | refine And.intro (by simp [mkL_zero] <;> rfl) ?_)) (Nat.zero_le _) ?_
  rintro i hi
  have hl := mkL_len zRes (fRs m) xs i
  repeat' (first | exact trivial | refine BS.d (fun h => ?_) (fun h => ?_) | refine BS.e (fun h => ?_) (fun h => ?_) | refine BS.ne (fun h => ?_) (fun h => ?_) | refine BS.n ?_ | refine BS.s (fun h => ?_) (fun h => ?_) | refine And.intro ?_ ?_ | (refine Need.mk ?_; first | with_reducible rfl | (show @Eq TC _ _; rfl) | omega | (simp only [adN_zero]; omega)) | exact OutS.whole rfl rfl | refine ListO.go gOk hE ?_)
  all_goals (try simp only [adN_zero] at *)
  all_goals first
    | (refine Need.mk ?_; first | omega | (simp only [List.length_set]; omega) | rw [show i = xs.length by omega])
    | (refine ⟨i + 1, (by refine leT.of ?_ ?_ rfl <;> repeat' (first | exact trivial | refine And.intro rfl ?_ | refine And.intro (by first | rfl | (refine litInt ?_; omega) | (refine congrArg (fun l => some (rRes .own false 0 l)) ?_; have hlt : i < (mkL zRes (fRs m) xs i).length := (by omega); simp only [List.set_set]; simp only [set_getD _ _ _ _ hlt]; exact mkL_set zRes (fRs m) _ _ (by omega))) ?_)), by omega, by first | omega | (dsimp only; omega)⟩)
    | trace_state
end Go.Proofs.Ytbfkdbbgbdihdaa
