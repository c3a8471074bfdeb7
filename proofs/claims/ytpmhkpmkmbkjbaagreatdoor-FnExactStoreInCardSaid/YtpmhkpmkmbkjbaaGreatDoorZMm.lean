import Derived.Test.YtpmhkpmkmbkjbaaGreatDoorZA
import Derived.Test.YtpmhkpmkmbkjbaaGreatDoorVRs
import Derived.Test.YtpmhkpmkmbkjbaaGreatDoorMkL
section
/- Marks of numbers. -/
namespace Go.Proofs.YtpmhkpmkmbkjbaaGreatDoor
open Go Go.Tr
set_option maxRecDepth 100000
set_option maxHeartbeats 4000000
set_option linter.unusedVariables false
set_option linter.unusedSimpArgs false
abbrev fI (m : Int) (j : Nat) : Int := m + j
abbrev bInt (e κ : Nat) (xs xs' : List Int) : Bt := ⟨κ, 0, true, .sl e 1 Int encI decI 0 xs, .sl e 1 Int encI decI 0 xs', .ty .own true e 1 Int encI decI 0 xs'⟩
abbrev bIntX (κ : Nat) (xs xs' : List Int) : Bt := ⟨κ, 0, true, .sl 0 1 Int encI decI 0 xs, .sl 0 1 Int encI decI 0 xs', .ty .own false 0 1 Int encI decI 0 xs'⟩
theorem markI_run (e : Nat) (xs : List Int) (m : Int) (h0 : 0 ≤ m) (h1 : m ≤ 33554432) (hn : xs.length ≤ 4000000) : RunT Tryz.prog 34 [.one (.h 0 xs.length), ti m] [.sl e 1 Int encI decI 0 xs] [oi (m + xs.length)] [.sl e 1 Int encI decI 0 (mkL 0 (fI m) xs xs.length)] := by
  refine RunT.of_vc gOk Tryz.func34 rfl rfl (Nat.le_of_ble_eq_true rfl) (by repeat' (first | exact trivial | exact ⟨_, rfl, Nat.le_refl _⟩ | exact Nat.le_of_ble_eq_true rfl | refine And.intro ?_ ?_)) (Nat.le_of_ble_eq_true rfl) rfl (fun F hE => ?_)
  repeat' (first | exact trivial | refine BS.d (fun h => ?_) (fun h => ?_) | refine BS.e (fun h => ?_) (fun h => ?_) | refine BS.ne (fun h => ?_) (fun h => ?_) | refine BS.n ?_ | refine BS.s (fun h => ?_) (fun h => ?_) | refine And.intro ?_ ?_ | (refine Need.mk ?_; first | with_reducible rfl | (show @Eq TC _ _; rfl) | omega | (simp only [adN_zero]; omega)) | exact OutS.whole rfl rfl | refine ListO.go gOk hE ?_)
  refine CodeK.loop gOk hE (fun i : Nat => ⟨[(0, vr 1000000 xs.length), (1, vi (m + i)), (5, vi i)], [(1000000, .ty .own false 0 1 Int encI decI 0 (mkL 0 (fI m) xs i))]⟩) (fun i => i ≤ xs.length) (fun i => xs.length - i) 0 (by refine leT.of ?_ ?_ rfl <;> repeat' (first | exact trivial | refine And.intro rfl ?_ | refine And.intro (by simp [mkL_zero] <;> rfl) ?_)) (Nat.zero_le _) ?_
  rintro i hi
  have hl := mkL_len 0 (fI m) xs i
  repeat' (first | exact trivial | refine BS.d (fun h => ?_) (fun h => ?_) | refine BS.e (fun h => ?_) (fun h => ?_) | refine BS.ne (fun h => ?_) (fun h => ?_) | refine BS.n ?_ | refine BS.s (fun h => ?_) (fun h => ?_) | refine And.intro ?_ ?_ | (refine Need.mk ?_; first | with_reducible rfl | (show @Eq TC _ _; rfl) | omega | (simp only [adN_zero]; omega)) | exact OutS.whole rfl rfl | refine ListO.go gOk hE ?_)
  all_goals (try simp only [adN_zero] at *)
  all_goals first
    | (refine Need.mk ?_; first | omega | (rw [List.length_set]; omega) | rw [show i = xs.length by omega])
    | (refine ⟨i + 1, (by refine leT.of ?_ ?_ rfl <;> repeat' (first | exact trivial | refine And.intro rfl ?_ | refine And.intro (by first | rfl | (refine litInt ?_; omega) | (refine congrArg (fun l => some (TRoot.ty .own false 0 1 Int encI decI 0 l)) ?_; exact mkL_set 0 (fI m) _ _ (by omega))) ?_)), by omega, by first | omega | (dsimp only; omega)⟩)
theorem heldI_run (xs : List Int) (m : Int) (h0 : 0 ≤ m) (h1 : m ≤ 33554432) (hn : xs.length ≤ 4000000) : RunT Tryz.prog 35 [.one (.c (tI (mkL 0 (fI m) xs xs.length))), ti m] [] [oi (m + xs.length)] [] := by
  have hl := mkL_len 0 (fI m) xs xs.length
  refine RunT.of_vc gOk Tryz.func35 rfl rfl (Nat.le_of_ble_eq_true rfl) (by repeat' (first | exact trivial | exact ⟨_, rfl, Nat.le_refl _⟩ | exact Nat.le_of_ble_eq_true rfl | refine And.intro ?_ ?_)) (Nat.le_of_ble_eq_true rfl) rfl (fun F hE => ?_)
  repeat' (first | exact trivial | refine BS.d (fun h => ?_) (fun h => ?_) | refine BS.e (fun h => ?_) (fun h => ?_) | refine BS.ne (fun h => ?_) (fun h => ?_) | refine BS.n ?_ | refine BS.s (fun h => ?_) (fun h => ?_) | refine And.intro ?_ ?_ | (refine Need.mk ?_; first | with_reducible rfl | (show @Eq TC _ _; rfl) | omega | (simp only [adN_zero]; omega)) | exact OutS.whole rfl rfl | refine ListO.go gOk hE ?_)
  refine CodeK.loop gOk hE (fun i : Nat => ⟨[(0, vr 1000000 (mkL 0 (fI m) xs xs.length).length), (1, vi (m + i)), (5, vi i)], [(1000000, rI .fro false (mkL 0 (fI m) xs xs.length))]⟩) (fun i => i ≤ xs.length) (fun i => xs.length - i) 0 (by refine leT.of ?_ ?_ rfl <;> repeat' (first | exact trivial | refine And.intro rfl ?_ | refine And.intro (by simp <;> rfl) ?_)) (Nat.zero_le _) ?_
  rintro i hi
  have hg : i < xs.length → (mkL 0 (fI m) xs xs.length).getD i 0 = fI m i := fun h => mkL_get _ _ _ _ _ h h
  repeat' (first | exact trivial | refine BS.d (fun h => ?_) (fun h => ?_) | refine BS.e (fun h => ?_) (fun h => ?_) | refine BS.ne (fun h => ?_) (fun h => ?_) | refine BS.n ?_ | refine BS.s (fun h => ?_) (fun h => ?_) | refine And.intro ?_ ?_ | (refine Need.mk ?_; first | with_reducible rfl | (show @Eq TC _ _; rfl) | omega | (simp only [adN_zero]; omega)) | exact OutS.whole rfl rfl | refine ListO.go gOk hE ?_)
  all_goals (try simp only [adN_zero] at *)
  all_goals first
    | (exfalso; have h9 := hg (by omega); rw [h9] at *; first | omega | (simp_all; done))
    | (refine Need.mk ?_; first | omega | rw [show i = xs.length by omega])
    | (refine ⟨i + 1, (by refine leT.of ?_ ?_ rfl <;> repeat' (first | exact trivial | refine And.intro rfl ?_ | refine And.intro (by first | rfl | (refine litInt ?_; omega)) ?_)), by omega, by first | omega | (dsimp only; omega)⟩)
end Go.Proofs.YtpmhkpmkmbkjbaaGreatDoor
end

section
/- Marks of a heap. -/
namespace Go.Proofs.YtpmhkpmkmbkjbaaGreatDoor
open Go Go.Tr
set_option maxRecDepth 100000
set_option maxHeartbeats 4000000
set_option linter.unusedVariables false
set_option linter.unusedSimpArgs false
theorem markH_run (e : Nat) (b c : List Int) (m : Int) (h0 : 0 ≤ m) (h1 : m ≤ 1048577) (hb : b.length ≤ 1048576) (hc : c.length ≤ 1048576) : RunT Tryz.prog 53 [.agg [.h 0 b.length, .h 1 c.length], ti m] [.sl e 1 Int encI decI 0 b, .sl e 1 Int encI decI 0 c] [oi (m + b.length + c.length)]
    [.sl e 1 Int encI decI 0 (mkL 0 (fI m) b b.length), .sl e 1 Int encI decI 0 (mkL 0 (fI (m + b.length)) c c.length)] := by
  have c1 := markI_run 0 b m h0 (by omega) (by omega)
  have c2 := markI_run 0 c (m + b.length) (by omega) (by omega) (by omega)
  refine RunT.of_vc gOk Tryz.func53 rfl rfl (Nat.le_of_ble_eq_true rfl) (by repeat' (first | exact trivial | exact ⟨_, rfl, Nat.le_refl _⟩ | exact Nat.le_of_ble_eq_true rfl | refine And.intro ?_ ?_)) (Nat.le_of_ble_eq_true rfl) rfl (fun F hE => ?_)
  repeat' (first | exact trivial | refine BS.d (fun h => ?_) (fun h => ?_) | refine BS.e (fun h => ?_) (fun h => ?_) | refine BS.ne (fun h => ?_) (fun h => ?_) | refine BS.n ?_ | refine BS.s (fun h => ?_) (fun h => ?_) | refine And.intro ?_ ?_ | (refine Need.mk ?_; first | with_reducible rfl | (show @Eq TC _ _; rfl) | omega | (simp only [adN_zero]; omega)) | exact OutS.whole rfl rfl | (refine OpK.callB (bIntX 1000000 b (mkL 0 (fI m) b b.length)) c1 rfl rfl rfl rfl hE (BtOk.sl rfl (mkL_len _ _ _ _)) rfl (QsVs.cons (.one (.h rfl rfl rfl)) (.cons (.one (.c (.lit _) rfl)) .nil)) rfl rfl ?_) | (refine OpK.callB (bIntX 1000001 c (mkL 0 (fI (m + b.length)) c c.length)) c2 rfl rfl rfl rfl hE (BtOk.sl rfl (mkL_len _ _ _ _)) rfl (QsVs.cons (.one (.h rfl rfl rfl)) (.cons (.one (.c (.lit _) rfl)) .nil)) rfl rfl ?_) | refine ListO.go gOk hE ?_)
  all_goals first | exact Need.mk rfl | trace_state
theorem heldH_run (b c : List Int) (m : Int) (h0 : 0 ≤ m) (h1 : m ≤ 1048577) (hb : b.length ≤ 1048576) (hc : c.length ≤ 1048576) : RunT Tryz.prog 55 [.agg [.c (tI (mkL 0 (fI m) b b.length)), .c (tI (mkL 0 (fI (m + b.length)) c c.length))], ti m] [] [oi (m + b.length + c.length)] [] := by
  have c1 := heldI_run b m h0 (by omega) (by omega)
  have c2 := heldI_run c (m + b.length) (by omega) (by omega) (by omega)
  refine RunT.of_vc gOk Tryz.func55 rfl rfl (Nat.le_of_ble_eq_true rfl) (by repeat' (first | exact trivial | exact ⟨_, rfl, Nat.le_refl _⟩ | exact Nat.le_of_ble_eq_true rfl | refine And.intro ?_ ?_)) (Nat.le_of_ble_eq_true rfl) rfl (fun F hE => ?_)
  repeat' (first | exact trivial | refine BS.d (fun h => ?_) (fun h => ?_) | refine BS.e (fun h => ?_) (fun h => ?_) | refine BS.ne (fun h => ?_) (fun h => ?_) | refine BS.n ?_ | refine BS.s (fun h => ?_) (fun h => ?_) | refine And.intro ?_ ?_ | (refine Need.mk ?_; first | with_reducible rfl | (show @Eq TC _ _; rfl) | omega | (simp only [adN_zero]; omega)) | exact OutS.whole rfl rfl | (refine OpK.call c1 rfl rfl rfl rfl hE ?_ rfl rfl ?_; focus ((repeat' (first | exact PsA.lit _ | exact PsA.ref rfl rfl | exact PsA.ref rfl (mkL_len _ _ _ _).symm | constructor)); all_goals (fail "ps"))) | (refine OpK.call c2 rfl rfl rfl rfl hE ?_ rfl rfl ?_; focus ((repeat' (first | exact PsA.lit _ | exact PsA.ref rfl rfl | exact PsA.ref rfl (mkL_len _ _ _ _).symm | constructor)); all_goals (fail "ps"))) | refine ListO.go gOk hE ?_)
  all_goals first | exact Need.mk rfl | (exfalso; omega) | trace_state
end Go.Proofs.YtpmhkpmkmbkjbaaGreatDoor
end

section
/- Marks of lists. -/
namespace Go.Proofs.YtpmhkpmkmbkjbaaGreatDoor
open Go Go.Tr
set_option maxRecDepth 100000
set_option maxHeartbeats 4000000
set_option linter.unusedVariables false
set_option linter.unusedSimpArgs false
abbrev bSL (e κ : Nat) (xs xs' : List (List Int)) : Bt := ⟨κ, 0, true, .sl e 1 (List Int) encL decL [] xs, .sl e 1 (List Int) encL decL [] xs', .ty .own true e 1 (List Int) encL decL [] xs'⟩
abbrev bSLX (κ : Nat) (xs xs' : List (List Int)) : Bt := ⟨κ, 0, true, .sl 0 1 (List Int) encL decL [] xs, .sl 0 1 (List Int) encL decL [] xs', .ty .own false 0 1 (List Int) encL decL [] xs'⟩
/-- The number that a list begins with. -/
def offI (m : Int) (xs : List (List Int)) : Nat → Int
  | 0 => m
  | i + 1 => offI m xs i + (xs.getD i []).length
theorem offI_eq (m : Int) (xs : List (List Int)) : ∀ i, i ≤ xs.length → offI m xs i = m + (xs.take i).flatten.length
  | 0, _ => by simp [offI]
  | i + 1, h => by
    have e : (xs.take (i + 1)).flatten = (xs.take i).flatten ++ xs.getD i [] := by
      rw [List.take_succ_eq_append_getElem (show i < xs.length by omega), List.flatten_append]
      simp [List.getD, show i < xs.length by omega]
    rw [offI, offI_eq m xs i (by omega), e, List.length_append]; omega
theorem offI_bd {m : Int} {xs : List (List Int)} {i : Nat} (hi : i ≤ xs.length) : m ≤ offI m xs i ∧ offI m xs i ≤ m + xs.flatten.length := by
  rw [offI_eq m xs i hi]
  have : (xs.take i).flatten.length ≤ xs.flatten.length := by
    conv => rhs; rw [← List.take_append_drop i xs, List.flatten_append, List.length_append]
    omega
  omega
abbrev gSL (m : Int) (xs : List (List Int)) (j : Nat) : List Int := mkL 0 (fI (offI m xs j)) (xs.getD j []) (xs.getD j []).length
theorem markSL_run (e : Nat) (xs : List (List Int)) (m : Int) (h0 : 0 ≤ m) (h1 : m ≤ 3145728) (hn : xs.length ≤ 1048576) (hc : xs.flatten.length ≤ 1048576) (hx : ∀ i, (xs.getD i []).length ≤ 1048576) : RunT Tryz.prog 123 [.one (.h 0 xs.length), ti m] [.sl e 1 (List Int) encL decL [] xs] [oi (offI m xs xs.length)] [.sl e 1 (List Int) encL decL [] (mkL [] (gSL m xs) xs xs.length)] := by
  refine RunT.of_vc gOk Tryz.func123 rfl rfl (Nat.le_of_ble_eq_true rfl) (by repeat' (first | exact trivial | exact ⟨_, rfl, Nat.le_refl _⟩ | exact Nat.le_of_ble_eq_true rfl | refine And.intro ?_ ?_)) (Nat.le_of_ble_eq_true rfl) rfl (fun F hE => ?_)
  repeat' (first | exact trivial | refine BS.d (fun h => ?_) (fun h => ?_) | refine BS.e (fun h => ?_) (fun h => ?_) | refine BS.ne (fun h => ?_) (fun h => ?_) | refine BS.n ?_ | refine BS.s (fun h => ?_) (fun h => ?_) | refine And.intro ?_ ?_ | (refine Need.mk ?_; first | with_reducible rfl | (show @Eq TC _ _; rfl) | omega | (simp only [adN_zero]; omega)) | exact OutS.whole rfl rfl | refine ListO.go gOk hE ?_)
  refine CodeK.loop gOk hE (fun i : Nat => ⟨[(0, vr 1000000 xs.length), (1, vi (offI m xs i)), (5, vi i)], [(1000000, rSL .own false 0 (mkL [] (gSL m xs) xs i))]⟩) (fun i => i ≤ xs.length) (fun i => xs.length - i) 0 (by refine leT.of ?_ ?_ rfl <;> repeat' (first | exact trivial | refine And.intro rfl ?_ | refine And.intro (by first | rfl | (simp [mkL_zero] <;> rfl)) ?_)) (Nat.zero_le _) ?_
  rintro i hi
  have hl := mkL_len [] (gSL m xs) xs i
  have hb := offI_bd (m := m) hi
  by_cases hi2 : i < xs.length
  · have hgi := mkL_ge [] (gSL m xs) xs i i (Nat.le_refl _)
    have hxi := hx i
    have c1 := markI_run 3 ((mkL [] (gSL m xs) xs i).getD i []) (offI m xs i) (by omega) (by omega) (by rw [hgi]; omega)
    repeat' (first | exact trivial | refine BS.d (fun h => ?_) (fun h => ?_) | refine BS.e (fun h => ?_) (fun h => ?_) | refine BS.ne (fun h => ?_) (fun h => ?_) | refine BS.n ?_ | refine BS.s (fun h => ?_) (fun h => ?_) | refine And.intro ?_ ?_ | (refine Need.mk ?_; first | with_reducible rfl | (show @Eq TC _ _; rfl) | omega | (simp only [adN_zero]; omega)) | exact OutS.whole rfl rfl | (refine ListO.open_ gOk hE 5000 rfl rfl rfl rfl rfl rfl rfl rfl (by (try simp only [adN_zero]); omega) (by decide) rfl rfl rfl rfl ?_) | (refine OpK.callB (bInt 3 5000 ((mkL [] (gSL m xs) xs i).getD i []) (mkL 0 (fI (offI m xs i)) ((mkL [] (gSL m xs) xs i).getD i []) ((mkL [] (gSL m xs) xs i).getD i []).length)) c1 rfl rfl rfl rfl hE (BtOk.sl rfl (mkL_len _ _ _ _)) rfl (QsVs.cons (.one (.h rfl rfl rfl)) (.cons (.one (.c (.lit _) rfl)) .nil)) rfl rfl ?_) | refine ListO.go gOk hE ?_)
    all_goals (try simp only [adN_zero] at *)
    all_goals first
      | (exfalso; omega)
      | (refine Need.mk ?_; omega)
      | (refine ⟨i + 1, ?_, by omega, by first | omega | (dsimp only; omega)⟩
         refine St.le.trans (close_le (κ := 1000000) (key := 5000) (mkL 0 (fI (offI m xs i)) ((mkL [] (gSL m xs) xs i).getD i []) ((mkL [] (gSL m xs) xs i).getD i []).length) (by rfl) (by rfl) (by exact (mkL_len _ _ _ _).symm) (by rfl) (by rfl) (by omega) (by decide) (by rfl) (fun r' h8 h9 => absurd (Nat.lt_one_iff.1 h8) h9)) ?_
         exact (by refine leT.of ?_ ?_ rfl <;> repeat' (first | exact trivial | refine And.intro rfl ?_ | refine And.intro (by first | rfl | (rw [hgi]; rfl) | (refine congrArg (fun l => some (rSL .own false 0 l)) ?_; rw [hgi]; exact mkL_set [] (gSL m xs) _ _ (by omega))) ?_)))
  · repeat' (first | exact trivial | refine BS.d (fun h => ?_) (fun h => ?_) | refine BS.e (fun h => ?_) (fun h => ?_) | refine BS.ne (fun h => ?_) (fun h => ?_) | refine BS.n ?_ | refine BS.s (fun h => ?_) (fun h => ?_) | refine And.intro ?_ ?_ | (refine Need.mk ?_; first | with_reducible rfl | (show @Eq TC _ _; rfl) | omega | (simp only [adN_zero]; omega)) | exact OutS.whole rfl rfl | refine ListO.go gOk hE ?_)
    all_goals (try simp only [adN_zero] at *)
    all_goals first
      | (exfalso; omega)
      | (refine Need.mk ?_; first | omega | rw [show i = xs.length by omega])
      | (refine Need.mk ?_; (try rw [show i = xs.length by omega]); rfl)
theorem markLs_run (e e' : Nat) (g o : List (List Int)) (m : Int) (h0 : 0 ≤ m) (h1 : m ≤ 1048577) (hg : g.length ≤ 1048576) (hcg : g.flatten.length ≤ 1048576) (hxg : ∀ i, (g.getD i []).length ≤ 1048576) (ho : o.length ≤ 1048576) (hco : o.flatten.length ≤ 1048576) (hxo : ∀ i, (o.getD i []).length ≤ 1048576) (hs : m + g.flatten.length ≤ 3145728) :
    RunT Tryz.prog 54 [.agg [.h 0 g.length, .h 1 o.length], ti m] [.sl e 1 (List Int) encL decL [] g, .sl e' 1 (List Int) encL decL [] o] [oi (offI (offI m g g.length) o o.length)]
      [.sl e 1 (List Int) encL decL [] (mkL [] (gSL m g) g g.length), .sl e' 1 (List Int) encL decL [] (mkL [] (gSL (offI m g g.length) o) o o.length)] := by
  have hb := offI_bd (m := m) (Nat.le_refl g.length)
  have c1 := markSL_run 0 g m h0 (by omega) hg hcg hxg
  have c2 := markSL_run 0 o (offI m g g.length) (by omega) (by omega) ho hco hxo
  generalize hq : offI m g g.length = m2 at *
  refine RunT.of_vc gOk Tryz.func54 rfl rfl (Nat.le_of_ble_eq_true rfl) (by repeat' (first | exact trivial | exact ⟨_, rfl, Nat.le_refl _⟩ | exact Nat.le_of_ble_eq_true rfl | refine And.intro ?_ ?_)) (Nat.le_of_ble_eq_true rfl) rfl (fun F hE => ?_)
  repeat' (first | exact trivial | refine BS.d (fun h => ?_) (fun h => ?_) | refine BS.e (fun h => ?_) (fun h => ?_) | refine BS.ne (fun h => ?_) (fun h => ?_) | refine BS.n ?_ | refine BS.s (fun h => ?_) (fun h => ?_) | refine And.intro ?_ ?_ | (refine Need.mk ?_; first | with_reducible rfl | (show @Eq TC _ _; rfl) | omega | (simp only [adN_zero]; omega)) | exact OutS.whole rfl rfl | (refine OpK.callB (bSLX 1000000 g (mkL [] (gSL m g) g g.length)) c1 rfl rfl rfl rfl hE (BtOk.sl rfl (mkL_len _ _ _ _)) rfl (QsVs.cons (.one (.h rfl rfl rfl)) (.cons (.one (.c (.lit _) rfl)) .nil)) rfl rfl ?_) | (refine OpK.callB (bSLX 1000001 o (mkL [] (gSL m2 o) o o.length)) c2 rfl rfl rfl rfl hE (BtOk.sl rfl (mkL_len _ _ _ _)) rfl (QsVs.cons (.one (.h rfl rfl rfl)) (.cons (.one (.c (.lit _) rfl)) .nil)) rfl rfl ?_) | refine ListO.go gOk hE ?_)
  all_goals first | exact Need.mk rfl | trace_state
end Go.Proofs.YtpmhkpmkmbkjbaaGreatDoor
end

section
/- Marks of a memory, told, and read. -/
namespace Go.Proofs.YtpmhkpmkmbkjbaaGreatDoor
open Go Go.Tr
set_option maxRecDepth 100000
set_option maxHeartbeats 4000000
set_option linter.unusedVariables false
set_option linter.unusedSimpArgs false
abbrev mB (b : List Int) : List Int := mkL 0 (fI 1) b b.length
abbrev mC (b c : List Int) : List Int := mkL 0 (fI (1 + b.length)) c c.length
abbrev mG (b c : List Int) (g : List (List Int)) : List (List Int) := mkL [] (gSL (1 + b.length + c.length) g) g g.length
abbrev mO (b c : List Int) (g o : List (List Int)) : List (List Int) := mkL [] (gSL (offI (1 + b.length + c.length) g g.length) o) o o.length
def mZ (b c : List Int) (g o : List (List Int)) : Int := offI (offI (1 + b.length + c.length) g g.length) o o.length
theorem mZ_bd {b c : List Int} {g o : List (List Int)} : 1 ≤ mZ b c g o ∧ mZ b c g o ≤ 1 + b.length + c.length + g.flatten.length + o.flatten.length := by
  have q1 := offI_bd (m := 1 + b.length + c.length) (Nat.le_refl g.length)
  have q2 := offI_bd (m := offI (1 + b.length + c.length) g g.length) (Nat.le_refl o.length)
  unfold mZ; omega
structure MkOk (b c : List Int) (g o : List (List Int)) : Prop where
  ok : MmOk 1048576 b c g o
  bc : b.length + c.length ≤ 1048576
  fg : g.flatten.length + o.flatten.length ≤ 1048576
theorem heldSL_run (e : Nat) (xs : List (List Int)) (m : Int) (h0 : 0 ≤ m) (h1 : m ≤ 3145728) (hn : xs.length ≤ 1048576) (hc : xs.flatten.length ≤ 1048576) (hx : ∀ i, (xs.getD i []).length ≤ 1048576) : RunT Tryz.prog 124 [.one (.c (tSL e (mkL [] (gSL m xs) xs xs.length))), ti m] [] [oi (offI m xs xs.length)] [] := by
  have hl := mkL_len [] (gSL m xs) xs xs.length
  refine RunT.of_vc gOk Tryz.func124 rfl rfl (Nat.le_of_ble_eq_true rfl) (by repeat' (first | exact trivial | exact ⟨_, rfl, Nat.le_refl _⟩ | exact Nat.le_of_ble_eq_true rfl | refine And.intro ?_ ?_)) (Nat.le_of_ble_eq_true rfl) rfl (fun F hE => ?_)
  repeat' (first | exact trivial | refine BS.d (fun h => ?_) (fun h => ?_) | refine BS.e (fun h => ?_) (fun h => ?_) | refine BS.ne (fun h => ?_) (fun h => ?_) | refine BS.n ?_ | refine BS.s (fun h => ?_) (fun h => ?_) | refine And.intro ?_ ?_ | (refine Need.mk ?_; first | with_reducible rfl | (show @Eq TC _ _; rfl) | omega | (simp only [adN_zero]; omega)) | exact OutS.whole rfl rfl | refine ListO.go gOk hE ?_)
  refine CodeK.loop gOk hE (fun i : Nat => ⟨[(0, vr 1000000 (mkL [] (gSL m xs) xs xs.length).length), (1, vi (offI m xs i)), (5, vi i)], [(1000000, rSL .fro false e (mkL [] (gSL m xs) xs xs.length))]⟩) (fun i => i ≤ xs.length) (fun i => xs.length - i) 0 (by refine leT.of ?_ ?_ rfl <;> repeat' (first | exact trivial | refine And.intro rfl ?_ | refine And.intro (by first | rfl | (simp [offI] <;> rfl)) ?_)) (Nat.zero_le _) ?_
  rintro i hi
  have hb := offI_bd (m := m) hi
  by_cases hi2 : i < xs.length
  · have hg : (mkL [] (gSL m xs) xs xs.length).getD i [] = gSL m xs i := mkL_get _ _ _ _ _ hi2 hi2
    have hxi := hx i
    have c1 := heldI_run (xs.getD i []) (offI m xs i) (by omega) (by omega) (by omega)
    have hb2 := offI_bd (m := m) (xs := xs) (i := i + 1) (by omega)
    have hofs : offI m xs (i + 1) = offI m xs i + (xs.getD i []).length := rfl
    rw [show mkL 0 (fI (offI m xs i)) (xs.getD i []) (xs.getD i []).length = (mkL [] (gSL m xs) xs xs.length).getD i [] from hg.symm, ← hofs] at c1
    repeat' (first | exact trivial | refine BS.d (fun h => ?_) (fun h => ?_) | refine BS.e (fun h => ?_) (fun h => ?_) | refine BS.ne (fun h => ?_) (fun h => ?_) | refine BS.n ?_ | refine BS.s (fun h => ?_) (fun h => ?_) | refine And.intro ?_ ?_ | (refine Need.mk ?_; first | with_reducible rfl | (show @Eq TC _ _; rfl) | omega | (simp only [adN_zero]; omega)) | exact OutS.whole rfl rfl | (refine OpK.call c1 rfl rfl rfl rfl hE ?_ rfl rfl ?_; focus ((repeat' (first | exact PsA.lit _ | exact PsA.ref rfl rfl | constructor)); all_goals (fail "ps"))) | refine ListO.go gOk hE ?_)
    all_goals (try simp only [adN_zero] at *)
    all_goals first
      | (exfalso; omega)
      | (refine Need.mk ?_; omega)
      | (refine ⟨i + 1, (by refine leT.of ?_ ?_ rfl <;> repeat' (first | exact trivial | refine And.intro rfl ?_ | refine And.intro (by first | rfl | (simp; done)) ?_)), by omega, by first | omega | (dsimp only; omega)⟩)
      | trace_state
  · repeat' (first | exact trivial | refine BS.d (fun h => ?_) (fun h => ?_) | refine BS.e (fun h => ?_) (fun h => ?_) | refine BS.ne (fun h => ?_) (fun h => ?_) | refine BS.n ?_ | refine BS.s (fun h => ?_) (fun h => ?_) | refine And.intro ?_ ?_ | (refine Need.mk ?_; first | with_reducible rfl | (show @Eq TC _ _; rfl) | omega | (simp only [adN_zero]; omega)) | exact OutS.whole rfl rfl | refine ListO.go gOk hE ?_)
    all_goals (try simp only [adN_zero] at *)
    all_goals first
      | (exfalso; omega)
      | (refine Need.mk ?_; first | omega | rw [show i = xs.length by omega])
      | (refine Need.mk ?_; (try rw [show i = xs.length by omega]); rfl)
      | trace_state
theorem markMemX_run (ei e e' : Nat) (b c : List Int) (g o : List (List Int)) (h : MkOk b c g o) : RunT Tryz.prog 16 [.agg [.h 0 b.length, .h 1 c.length, .h 2 g.length, .h 3 o.length], ti 1] [.sl ei 1 Int encI decI 0 b, .sl ei 1 Int encI decI 0 c, .sl e 1 (List Int) encL decL [] g, .sl e' 1 (List Int) encL decL [] o] [oi (mZ b c g o)]
      [.sl ei 1 Int encI decI 0 (mB b), .sl ei 1 Int encI decI 0 (mC b c), .sl e 1 (List Int) encL decL [] (mG b c g), .sl e' 1 (List Int) encL decL [] (mO b c g o)] := by
  have hb := h.ok.hb
  have hc := h.ok.hc
  have hg := h.ok.hg
  have ho := h.ok.ho
  have hfg := h.fg
  have hbc := h.bc
  have hxg := h.ok.hg'
  have hxo := h.ok.ho'
  have c1 := markH_run 0 b c 1 (by omega) (by omega) hb hc
  have c2 := markLs_run 0 0 g o (1 + b.length + c.length) (by omega) (by omega) (by omega) (by omega) hxg (by omega) (by omega) hxo (by omega)
  have q1 := offI_bd (m := 1 + b.length + c.length) (Nat.le_refl g.length)
  have q2 := offI_bd (m := offI (1 + b.length + c.length) g g.length) (Nat.le_refl o.length)
  unfold mZ
  generalize offI (offI (1 + b.length + c.length) g g.length) o o.length = z at *
  refine RunT.of_vc gOk Tryz.func16 rfl rfl (Nat.le_of_ble_eq_true rfl) (by repeat' (first | exact trivial | exact ⟨_, rfl, Nat.le_refl _⟩ | exact Nat.le_of_ble_eq_true rfl | refine And.intro ?_ ?_)) (Nat.le_of_ble_eq_true rfl) rfl (fun F hE => ?_)
  repeat' (first | exact trivial | refine BS.d (fun h => ?_) (fun h => ?_) | refine BS.e (fun h => ?_) (fun h => ?_) | refine BS.ne (fun h => ?_) (fun h => ?_) | refine BS.n ?_ | refine BS.s (fun h => ?_) (fun h => ?_) | refine And.intro ?_ ?_ | (refine Need.mk ?_; first | with_reducible rfl | (show @Eq TC _ _; rfl) | omega | (simp only [adN_zero]; omega)) | exact OutS.whole rfl rfl | (refine OpK.callBs [bIntX 1000000 b (mkL 0 (fI 1) b b.length), bIntX 1000001 c (mkL 0 (fI (1 + b.length)) c c.length)] c1 rfl rfl rfl rfl hE (List.forall_mem_cons.2 ⟨BtOk.sl rfl (mkL_len _ _ _ _), List.forall_mem_cons.2 ⟨BtOk.sl rfl (mkL_len _ _ _ _), fun _ h => nomatch h⟩⟩) (List.forall_mem_cons.2 ⟨rfl, List.forall_mem_cons.2 ⟨rfl, fun _ h => nomatch h⟩⟩) (show List.Nodup [1000000, 1000001] by decide) (QsVs.cons (.agg (.cons (.h rfl rfl rfl) (.cons (.h rfl rfl rfl) .nil))) (.cons (.one (.c (.lit _) rfl)) .nil)) rfl rfl ?_) | (refine OpK.callBs [bSLX 1000002 g (mkL [] (gSL (1 + b.length + c.length) g) g g.length), bSLX 1000003 o (mkL [] (gSL (offI (1 + b.length + c.length) g g.length) o) o o.length)] c2 rfl rfl rfl rfl hE (List.forall_mem_cons.2 ⟨BtOk.sl rfl (mkL_len _ _ _ _), List.forall_mem_cons.2 ⟨BtOk.sl rfl (mkL_len _ _ _ _), fun _ h => nomatch h⟩⟩) (List.forall_mem_cons.2 ⟨rfl, List.forall_mem_cons.2 ⟨rfl, fun _ h => nomatch h⟩⟩) (show List.Nodup [1000002, 1000003] by decide) (QsVs.cons (.agg (.cons (.h rfl rfl rfl) (.cons (.h rfl rfl rfl) .nil))) (.cons (.one (.c (.lit _) rfl)) .nil)) rfl rfl ?_) | refine ListO.go gOk hE ?_)
  all_goals first | exact Need.mk rfl | trace_state
theorem heldMem_run (e e' : Nat) (b c : List Int) (g o : List (List Int)) (h : MkOk b c g o) : RunT Tryz.prog 17 [.agg [.c (tI (mB b)), .c (tI (mC b c)), .c (tSL e (mG b c g)), .c (tSL e' (mO b c g o))], ti 1] [] [oi (mZ b c g o)] [] := by
  have hb := h.ok.hb
  have hc := h.ok.hc
  have hg := h.ok.hg
  have ho := h.ok.ho
  have hfg := h.fg
  have hbc := h.bc
  have q1 := offI_bd (m := 1 + b.length + c.length) (Nat.le_refl g.length)
  have q2 := offI_bd (m := offI (1 + b.length + c.length) g g.length) (Nat.le_refl o.length)
  have c1 := heldH_run b c 1 (by omega) (by omega) hb hc
  have c2 := heldSL_run e g (1 + b.length + c.length) (by omega) (by omega) hg (by omega) h.ok.hg'
  have c3 := heldSL_run e' o (offI (1 + b.length + c.length) g g.length) (by omega) (by omega) ho (by omega) h.ok.ho'
  have c4 : RunT Tryz.prog 56 [.agg [.c (tSL e (mG b c g)), .c (tSL e' (mO b c g o))], ti (1 + b.length + c.length)] [] [oi (mZ b c g o)] [] := by
    unfold mZ
    refine RunT.of_vc gOk Tryz.func56 rfl rfl (Nat.le_of_ble_eq_true rfl) (by repeat' (first | exact trivial | exact ⟨_, rfl, Nat.le_refl _⟩ | exact Nat.le_of_ble_eq_true rfl | refine And.intro ?_ ?_)) (Nat.le_of_ble_eq_true rfl) rfl (fun F hE => ?_)
    repeat' (first | exact trivial | refine BS.d (fun h => ?_) (fun h => ?_) | refine BS.e (fun h => ?_) (fun h => ?_) | refine BS.ne (fun h => ?_) (fun h => ?_) | refine BS.n ?_ | refine BS.s (fun h => ?_) (fun h => ?_) | refine And.intro ?_ ?_ | (refine Need.mk ?_; first | with_reducible rfl | (show @Eq TC _ _; rfl) | omega | (simp only [adN_zero]; omega)) | exact OutS.whole rfl rfl | (refine OpK.call c2 rfl rfl rfl rfl hE ?_ rfl rfl ?_; focus ((repeat' (first | exact PsA.lit _ | exact PsA.ref rfl rfl | exact PsA.ref rfl (mkL_len _ _ _ _).symm | constructor)); all_goals (fail "ps"))) | (refine OpK.call c3 rfl rfl rfl rfl hE ?_ rfl rfl ?_; focus ((repeat' (first | exact PsA.lit _ | exact PsA.ref rfl rfl | exact PsA.ref rfl (mkL_len _ _ _ _).symm | constructor)); all_goals (fail "ps"))) | refine ListO.go gOk hE ?_)
    all_goals first | exact Need.mk rfl | (exfalso; omega) | trace_state
  have q3 : 0 ≤ mZ b c g o := by unfold mZ; omega
  refine RunT.of_vc gOk Tryz.func17 rfl rfl (Nat.le_of_ble_eq_true rfl) (by repeat' (first | exact trivial | exact ⟨_, rfl, Nat.le_refl _⟩ | exact Nat.le_of_ble_eq_true rfl | refine And.intro ?_ ?_)) (Nat.le_of_ble_eq_true rfl) rfl (fun F hE => ?_)
  repeat' (first | exact trivial | refine BS.d (fun h => ?_) (fun h => ?_) | refine BS.e (fun h => ?_) (fun h => ?_) | refine BS.ne (fun h => ?_) (fun h => ?_) | refine BS.n ?_ | refine BS.s (fun h => ?_) (fun h => ?_) | refine And.intro ?_ ?_ | (refine Need.mk ?_; first | with_reducible rfl | (show @Eq TC _ _; rfl) | omega | (simp only [adN_zero]; omega)) | exact OutS.whole rfl rfl | (refine OpK.call c1 rfl rfl rfl rfl hE ?_ rfl rfl ?_; focus ((repeat' (first | exact PsA.lit _ | exact PsA.ref rfl rfl | exact PsA.ref rfl (mkL_len _ _ _ _).symm | constructor)); all_goals (fail "ps"))) | (refine OpK.call c4 rfl rfl rfl rfl hE ?_ rfl rfl ?_; focus ((repeat' (first | exact PsA.lit _ | exact PsA.ref rfl rfl | exact PsA.ref rfl (mkL_len _ _ _ _).symm | constructor)); all_goals (fail "ps"))) | refine ListO.go gOk hE ?_)
  all_goals first | exact Need.mk rfl | (exfalso; omega) | trace_state
end Go.Proofs.YtpmhkpmkmbkjbaaGreatDoor
end
