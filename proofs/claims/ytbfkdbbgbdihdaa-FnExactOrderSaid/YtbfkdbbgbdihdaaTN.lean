import Derived.Test.YtbfkdbbgbdihdaaTK
namespace Go.Proofs.Ytbfkdbbgbdihdaa
open Go Go.Tr
set_option maxRecDepth 100000
set_option maxHeartbeats 8000000
set_option linter.unusedVariables false
set_option linter.unusedSimpArgs false
/-- The number that an event begins with. -/
def offT (m : Int) (xs : List TEvT) : Nat → Int
  | 0 => m
  | i + 1 => offT m xs i + 1 + 1 + 1 + 1 + 3 * (xs.getD i zTEv).2.2.2.2.1.length + 2 * (xs.getD i zTEv).2.2.2.2.2.length
theorem offT_bd {m : Int} {xs : List TEvT} (h0 : 0 ≤ m) (hx : ∀ i, (xs.getD i zTEv).2.2.2.2.1.length ≤ 1048576 ∧ (xs.getD i zTEv).2.2.2.2.2.length ≤ 1048576) : ∀ i : Nat, 0 ≤ offT m xs i ∧ offT m xs i ≤ m + i * 5242884
  | 0 => ⟨h0, by show m ≤ m + ((0 : Nat) : Int) * 5242884; omega⟩
  | i + 1 => by
    have ih := offT_bd (m := m) h0 hx i
    have := hx i
    unfold offT
    omega
abbrev gTE (m : Int) (xs : List TEvT) (j : Nat) : TEvT :=
  (offT m xs j, offT m xs j + 1, offT m xs j + 1 + 1, offT m xs j + 1 + 1 + 1,
    mkL zCmd (fC (offT m xs j + 1 + 1 + 1 + 1)) (xs.getD j zTEv).2.2.2.2.1 (xs.getD j zTEv).2.2.2.2.1.length,
    mkL zRes (fRs (offT m xs j + 1 + 1 + 1 + 1 + 3 * (xs.getD j zTEv).2.2.2.2.1.length)) (xs.getD j zTEv).2.2.2.2.2 (xs.getD j zTEv).2.2.2.2.2.length)
theorem markTE_run (e eC eR : Nat) (xs : List TEvT) (m : Int) (h0 : 0 ≤ m) (h1 : m ≤ 1) (hn : xs.length ≤ 1048576) (hx : ∀ i, (xs.getD i zTEv).2.2.2.2.1.length ≤ 1048576 ∧ (xs.getD i zTEv).2.2.2.2.2.length ≤ 1048576) : RunT Try.prog 29 [.one (.h 0 xs.length), ti m] [.sl e 6 TEvT (encTEv eC eR) decTEv zTEv xs] [oi (offT m xs xs.length)] [.sl e 6 TEvT (encTEv eC eR) decTEv zTEv (mkL zTEv (gTE m xs) xs xs.length)] := by
  refine RunT.of_vc gOk Try.func29 rfl rfl (Nat.le_of_ble_eq_true rfl) (by repeat' (first | exact trivial | exact ⟨_, rfl, Nat.le_refl _⟩ | exact Nat.le_of_ble_eq_true rfl | refine And.intro ?_ ?_)) (Nat.le_of_ble_eq_true rfl) rfl (fun F hE => ?_)
  repeat' (first | exact trivial | refine BS.d (fun h => ?_) (fun h => ?_) | refine BS.e (fun h => ?_) (fun h => ?_) | refine BS.ne (fun h => ?_) (fun h => ?_) | refine BS.n ?_ | refine BS.s (fun h => ?_) (fun h => ?_) | refine And.intro ?_ ?_ | (refine Need.mk ?_; first | with_reducible rfl | (show @Eq TC _ _; rfl) | omega | (simp only [adN_zero]; omega)) | exact OutS.whole rfl rfl | refine ListO.go gOk hE ?_)
  refine CodeK.loop gOk hE (fun i : Nat => ⟨[(0, vr 1000000 xs.length), (1, vi (offT m xs i)), (5, vi i)], [(1000000, rTEv .own false 0 eC eR (mkL zTEv (gTE m xs) xs i))]⟩) (fun i => i ≤ xs.length) (fun i => xs.length - i) 0 (by refine leT.of ?_ ?_ rfl <;> repeat' (first | exact trivial | refine And.intro rfl ?_ | refine And.intro (by first | rfl | (simp [mkL_zero] <;> rfl)) ?_)) (Nat.zero_le _) ?_
  rintro i hi
  have hl := mkL_len zTEv (gTE m xs) xs i
  have hb := offT_bd (xs := xs) h0 hx i
  by_cases hi2 : i < xs.length
  · have hgi := mkL_ge zTEv (gTE m xs) xs i i (Nat.le_refl _)
    have hxi := hx i
    have hmul : (i : Int) * 5242884 ≤ 1048576 * 5242884 := by omega
    have hG : gTE m xs i = (offT m xs i, offT m xs i + 1, offT m xs i + 1 + 1, offT m xs i + 1 + 1 + 1, mkL zCmd (fC (offT m xs i + 1 + 1 + 1 + 1)) (xs.getD i zTEv).2.2.2.2.1 (xs.getD i zTEv).2.2.2.2.1.length, mkL zRes (fRs (offT m xs i + 1 + 1 + 1 + 1 + 3 * (xs.getD i zTEv).2.2.2.2.1.length)) (xs.getD i zTEv).2.2.2.2.2 (xs.getD i zTEv).2.2.2.2.2.length) := rfl
    have hS := mkL_set zTEv (gTE m xs) xs i hi2
    have hO : offT m xs (i + 1) = offT m xs i + 1 + 1 + 1 + 1 + 3 * (xs.getD i zTEv).2.2.2.2.1.length + 2 * (xs.getD i zTEv).2.2.2.2.2.length := rfl
    rw [hG] at hS
    generalize mkL zTEv (gTE m xs) xs i = Y at *
    generalize offT m xs i = w at *
    generalize xs.getD i zTEv = x at *
    obtain ⟨a0, a1, a2, a3, C, R⟩ := x
    dsimp only at hxi hO hS
    have hY : i < Y.length := by omega
    have s1 : ∀ v, (Y.set i v).getD i zTEv = v := fun v => set_getD _ _ _ _ hY
    have c1 := markC_run eC C (w + 1 + 1 + 1 + 1) (by omega) (by omega) (by omega)
    have c2 := markR_run eR R (w + 1 + 1 + 1 + 1 + 3 * C.length) (by omega) (by omega) (by omega)
    have k1 : ∀ r', r' < 6 → r' ≠ 0 → encTEv eC eR (w, a1, a2, a3, C, R) r' = encTEv eC eR (Y.getD i zTEv) r' := fun r' h8 h9 => by
      rw [hgi]
      match r', h8, h9 with
      | 1, _, _ => rfl
      | 2, _, _ => rfl
      | 3, _, _ => rfl
      | 4, _, _ => rfl
      | 5, _, _ => rfl
    repeat' (first | exact trivial | refine BS.d (fun h => ?_) (fun h => ?_) | refine BS.e (fun h => ?_) (fun h => ?_) | refine BS.ne (fun h => ?_) (fun h => ?_) | refine BS.n ?_ | refine BS.s (fun h => ?_) (fun h => ?_) | refine And.intro ?_ ?_ | (refine Need.mk ?_; first | with_reducible rfl | (show @Eq TC _ _; rfl) | omega | (simp only [adN_zero]; omega)) | exact OutS.whole rfl rfl | refine ListO.go gOk hE ?_)
    all_goals (try simp only [adN_zero] at *)
    all_goals first | (exfalso; omega) | (refine Need.mk ?_; omega) | skip
    have hYs : ∀ v, i < (Y.set i v).length := fun v => by rw [List.length_set]; exact hY
    have k2 : ∀ r', r' < 6 → r' ≠ 1 → encTEv eC eR (w, w + 1, a2, a3, C, R) r' = encTEv eC eR ((Y.set i (w, a1, a2, a3, C, R)).getD i zTEv) r' := fun r' h8 h9 => by
      rw [s1]
      match r', h8, h9 with
      | 0, _, _ => rfl
      | 2, _, _ => rfl
      | 3, _, _ => rfl
      | 4, _, _ => rfl
      | 5, _, _ => rfl
    have k3 : ∀ r', r' < 6 → r' ≠ 2 → encTEv eC eR (w, w + 1, w + 1 + 1, a3, C, R) r' = encTEv eC eR ((Y.set i (w, w + 1, a2, a3, C, R)).getD i zTEv) r' := fun r' h8 h9 => by
      rw [s1]
      match r', h8, h9 with
      | 0, _, _ => rfl
      | 1, _, _ => rfl
      | 3, _, _ => rfl
      | 4, _, _ => rfl
      | 5, _, _ => rfl
    have k4 : ∀ r', r' < 6 → r' ≠ 3 → encTEv eC eR (w, w + 1, w + 1 + 1, w + 1 + 1 + 1, C, R) r' = encTEv eC eR ((Y.set i (w, w + 1, w + 1 + 1, a3, C, R)).getD i zTEv) r' := fun r' h8 h9 => by
      rw [s1]
      match r', h8, h9 with
      | 0, _, _ => rfl
      | 1, _, _ => rfl
      | 2, _, _ => rfl
      | 4, _, _ => rfl
      | 5, _, _ => rfl
    have k5 : ∀ r', r' < 6 → r' ≠ 4 → encTEv eC eR (w, w + 1, w + 1 + 1, w + 1 + 1 + 1, mkL zCmd (fC (w + 1 + 1 + 1 + 1)) C C.length, R) r' = encTEv eC eR ((Y.set i (w, w + 1, w + 1 + 1, w + 1 + 1 + 1, C, R)).getD i zTEv) r' := fun r' h8 h9 => by
      rw [s1]
      match r', h8, h9 with
      | 0, _, _ => rfl
      | 1, _, _ => rfl
      | 2, _, _ => rfl
      | 3, _, _ => rfl
      | 5, _, _ => rfl
    have k6 : ∀ r', r' < 6 → r' ≠ 5 → encTEv eC eR (w, w + 1, w + 1 + 1, w + 1 + 1 + 1, mkL zCmd (fC (w + 1 + 1 + 1 + 1)) C C.length, mkL zRes (fRs (w + 1 + 1 + 1 + 1 + 3 * C.length)) R R.length) r' = encTEv eC eR ((Y.set i (w, w + 1, w + 1 + 1, w + 1 + 1 + 1, mkL zCmd (fC (w + 1 + 1 + 1 + 1)) C C.length, R)).getD i zTEv) r' := fun r' h8 h9 => by
      rw [s1]
      match r', h8, h9 with
      | 0, _, _ => rfl
      | 1, _, _ => rfl
      | 2, _, _ => rfl
      | 3, _, _ => rfl
      | 4, _, _ => rfl
      | 5, _, h9 => exact absurd rfl h9
    refine OpK.stE gOk (w, a1, a2, a3, C, R) rfl rfl rfl rfl rfl rfl rfl hY (by decide) rfl k1 ?_
    repeat' (first | exact trivial | refine BS.d (fun h => ?_) (fun h => ?_) | refine BS.e (fun h => ?_) (fun h => ?_) | refine BS.ne (fun h => ?_) (fun h => ?_) | refine BS.n ?_ | refine BS.s (fun h => ?_) (fun h => ?_) | refine And.intro ?_ ?_ | (refine Need.mk ?_; first | with_reducible rfl | (show @Eq TC _ _; rfl) | omega | (simp only [adN_zero]; omega)) | exact OutS.whole rfl rfl | refine ListO.go gOk hE ?_)
    all_goals (try simp only [adN_zero, List.set_set] at *)
    all_goals first | (exfalso; omega) | (refine Need.mk ?_; first | omega | (rw [List.length_set]; omega)) | skip
    refine OpK.stE gOk (w, w + 1, a2, a3, C, R) rfl rfl rfl rfl rfl rfl rfl (hYs _) (by decide) rfl k2 ?_
    repeat' (first | exact trivial | refine BS.d (fun h => ?_) (fun h => ?_) | refine BS.e (fun h => ?_) (fun h => ?_) | refine BS.ne (fun h => ?_) (fun h => ?_) | refine BS.n ?_ | refine BS.s (fun h => ?_) (fun h => ?_) | refine And.intro ?_ ?_ | (refine Need.mk ?_; first | with_reducible rfl | (show @Eq TC _ _; rfl) | omega | (simp only [adN_zero]; omega)) | exact OutS.whole rfl rfl | refine ListO.go gOk hE ?_)
    all_goals (try simp only [adN_zero, List.set_set] at *)
    all_goals first | (exfalso; omega) | (refine Need.mk ?_; first | omega | (rw [List.length_set]; omega)) | skip
    refine OpK.stE gOk (w, w + 1, w + 1 + 1, a3, C, R) rfl rfl rfl rfl rfl rfl rfl (hYs _) (by decide) rfl k3 ?_
    repeat' (first | exact trivial | refine BS.d (fun h => ?_) (fun h => ?_) | refine BS.e (fun h => ?_) (fun h => ?_) | refine BS.ne (fun h => ?_) (fun h => ?_) | refine BS.n ?_ | refine BS.s (fun h => ?_) (fun h => ?_) | refine And.intro ?_ ?_ | (refine Need.mk ?_; first | with_reducible rfl | (show @Eq TC _ _; rfl) | omega | (simp only [adN_zero]; omega)) | exact OutS.whole rfl rfl | refine ListO.go gOk hE ?_)
    all_goals (try simp only [adN_zero, List.set_set] at *)
    all_goals first | (exfalso; omega) | (refine Need.mk ?_; first | omega | (rw [List.length_set]; omega)) | skip
    have hYt : ∀ v u, i < ((Y.set i v).set i u).length := fun v u => by rw [List.length_set, List.length_set]; exact hY
    have hYu : ∀ v u t, i < (((Y.set i v).set i u).set i t).length := fun v u t => by rw [List.length_set, List.length_set, List.length_set]; exact hY
    have e4 : encTEv eC eR (((Y.set i (w, w + 1, w + 1 + 1, a3, C, R)).set i (w, w + 1, w + 1 + 1, w + 1 + 1 + 1, C, R)).getD i zTEv) (0 + 4) = .sl eC 3 CmdT encCmd decCmd zCmd C := by rw [List.set_set, s1]; rfl
    have e5 : encTEv eC eR ((((Y.set i (w, w + 1, w + 1 + 1, a3, C, R)).set i (w, w + 1, w + 1 + 1, w + 1 + 1 + 1, C, R)).set i (w, w + 1, w + 1 + 1, w + 1 + 1 + 1, mkL zCmd (fC (w + 1 + 1 + 1 + 1)) C C.length, R)).getD i zTEv) (0 + 5) = .sl eR 2 ResT encRes decRes zRes R := by rw [List.set_set, List.set_set, s1]; rfl
    have j5 : ∀ r', r' < 6 → r' ≠ 0 + 4 → encTEv eC eR (w, w + 1, w + 1 + 1, w + 1 + 1 + 1, mkL zCmd (fC (w + 1 + 1 + 1 + 1)) C C.length, R) r' = encTEv eC eR (((Y.set i (w, w + 1, w + 1 + 1, a3, C, R)).set i (w, w + 1, w + 1 + 1, w + 1 + 1 + 1, C, R)).getD i zTEv) r' := fun r' h8 h9 => by rw [List.set_set]; exact k5 r' h8 h9
    have j6 : ∀ r', r' < 6 → r' ≠ 0 + 5 → encTEv eC eR (w, w + 1, w + 1 + 1, w + 1 + 1 + 1, mkL zCmd (fC (w + 1 + 1 + 1 + 1)) C C.length, mkL zRes (fRs (w + 1 + 1 + 1 + 1 + 3 * C.length)) R R.length) r' = encTEv eC eR ((((Y.set i (w, w + 1, w + 1 + 1, a3, C, R)).set i (w, w + 1, w + 1 + 1, w + 1 + 1 + 1, C, R)).set i (w, w + 1, w + 1 + 1, w + 1 + 1 + 1, mkL zCmd (fC (w + 1 + 1 + 1 + 1)) C C.length, R)).getD i zTEv) r' := fun r' h8 h9 => by rw [List.set_set, List.set_set]; exact k6 r' h8 h9
    refine OpK.stE gOk (w, w + 1, w + 1 + 1, w + 1 + 1 + 1, C, R) rfl rfl rfl rfl rfl rfl rfl (hYs _) (by decide) rfl k4 ?_
    repeat' (first | exact trivial | refine BS.d (fun h => ?_) (fun h => ?_) | refine BS.e (fun h => ?_) (fun h => ?_) | refine BS.ne (fun h => ?_) (fun h => ?_) | refine BS.n ?_ | refine BS.s (fun h => ?_) (fun h => ?_) | refine And.intro ?_ ?_ | (refine Need.mk ?_; first | with_reducible rfl | (show @Eq TC _ _; rfl) | omega | (simp only [adN_zero]; omega)) | exact OutS.whole rfl rfl | (refine ListO.open_ gOk hE 5000 rfl rfl rfl rfl rfl rfl rfl rfl (hYt _ _) (show 0 + 4 < 6 by decide) e4 rfl rfl rfl ?_) | (refine OpK.callB (bCmd eC 5000 C (mkL zCmd (fC (w + 1 + 1 + 1 + 1)) C C.length)) c1 rfl rfl rfl rfl hE (BtOk.sl rfl (mkL_len _ _ _ _)) rfl (QsVs.cons (.one (.h rfl rfl rfl)) (.cons (.one (.c (.lit _) rfl)) .nil)) rfl rfl ?_) | (refine ListO.close gOk hE (κ := 1000000) (key := 5000) (w, w + 1, w + 1 + 1, w + 1 + 1 + 1, mkL zCmd (fC (w + 1 + 1 + 1 + 1)) C C.length, R) rfl rfl (mkL_len _ _ _ _).symm rfl rfl (hYt _ _) (show 0 + 4 < 6 by decide) rfl j5 ?_) | (refine ListO.open_ gOk hE 5001 rfl rfl rfl rfl rfl rfl rfl rfl (hYu _ _ _) (show 0 + 5 < 6 by decide) e5 rfl rfl rfl ?_) | (refine OpK.callB (bRes eR 5001 R (mkL zRes (fRs (w + 1 + 1 + 1 + 1 + 3 * C.length)) R R.length)) c2 rfl rfl rfl rfl hE (BtOk.sl rfl (mkL_len _ _ _ _)) rfl (QsVs.cons (.one (.h rfl rfl rfl)) (.cons (.one (.c (.lit _) rfl)) .nil)) rfl rfl ?_) | refine ListO.go gOk hE ?_)
    all_goals (try simp only [adN_zero] at *)
    all_goals first | (exfalso; omega) | (refine Need.mk ?_; first | omega | (simp only [List.length_set]; omega)) | skip
    refine ⟨i + 1, ?_, by omega, by first | omega | (dsimp only; omega)⟩
    refine St.le.trans (close_le (κ := 1000000) (key := 5001) (w, w + 1, w + 1 + 1, w + 1 + 1 + 1, mkL zCmd (fC (w + 1 + 1 + 1 + 1)) C C.length, mkL zRes (fRs (w + 1 + 1 + 1 + 1 + 3 * C.length)) R R.length) (by rfl) (by rfl) (by exact (mkL_len _ _ _ _).symm) (by rfl) (by rfl) (hYu _ _ _) (show 0 + 5 < 6 by decide) (by rfl) j6) ?_
    exact (by refine leT.of ?_ ?_ rfl <;> repeat' (first | exact trivial | refine And.intro rfl ?_ | refine And.intro (by first | rfl | (rw [hO]; rfl) | (refine congrArg (fun l => some (rTEv .own false 0 eC eR l)) ?_; rw [List.set_set, List.set_set, List.set_set]; exact hS)) ?_))
  · repeat' (first | exact trivial | refine BS.d (fun h => ?_) (fun h => ?_) | refine BS.e (fun h => ?_) (fun h => ?_) | refine BS.ne (fun h => ?_) (fun h => ?_) | refine BS.n ?_ | refine BS.s (fun h => ?_) (fun h => ?_) | refine And.intro ?_ ?_ | (refine Need.mk ?_; first | with_reducible rfl | (show @Eq TC _ _; rfl) | omega | (simp only [adN_zero]; omega)) | exact OutS.whole rfl rfl | refine ListO.go gOk hE ?_)
    all_goals (try simp only [adN_zero] at *)
    all_goals first
      | (exfalso; omega)
      | (refine Need.mk ?_; first | omega | rw [show i = xs.length by omega])
      | (refine Need.mk ?_; (try rw [show i = xs.length by omega]); rfl)
end Go.Proofs.Ytbfkdbbgbdihdaa
