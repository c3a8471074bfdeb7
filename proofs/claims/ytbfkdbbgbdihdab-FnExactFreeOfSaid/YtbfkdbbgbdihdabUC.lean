import Derived.Test.YtbfkdbbgbdihdabUB
import Derived.Test.YtbfkdbbgbdihdabL8E
namespace Go.Proofs.Ytbfkdbbgbdihdab
open Go Go.Tr
set_option maxRecDepth 100000
set_option maxHeartbeats 4000000
set_option linter.unusedVariables false
set_option linter.unusedSimpArgs false
theorem Grow_run (n : Nat) (hn : n ≤ 1048576) : RunT Try.prog 59 [.one (.c (.lit (.slice none 0 0))), ti n] [] [.one (tH 52 [])] [] := by
  refine RunH.toT ?_
  by_cases h0 : n = 0
  · subst h0
    refine RunH.nilOut _ _ _ _ _ _ ?_
    refine RunH.of_vc gOk Try.func59 rfl rfl (Nat.le_of_ble_eq_true rfl) (by repeat' (first | exact trivial | exact ⟨_, rfl, Nat.le_refl _⟩ | exact Nat.le_of_ble_eq_true rfl | refine And.intro ?_ ?_)) (Nat.le_of_ble_eq_true rfl) rfl (fun F hE hA => ?_)
    repeat' (first | exact trivial | refine BS.d (fun h => ?_) (fun h => ?_) | refine BS.e (fun h => ?_) (fun h => ?_) | refine BS.ne (fun h => ?_) (fun h => ?_) | refine BS.n ?_ | refine BS.s (fun h => ?_) (fun h => ?_) | refine And.intro ?_ ?_ | (refine Need.mk ?_; first | with_reducible rfl | (show @Eq TC _ _; rfl) | omega | (simp only [adN_zero]; omega)) | exact OutS.whole rfl rfl | (refine ListK.go gOk hE ?_) | (refine PK.lenL gOk rfl rfl rfl ?_) | (refine OpK.capL gOk rfl rfl rfl rfl rfl ?_))
    all_goals first | (exfalso; simp at *; done) | trace_state
  · refine RunH.of_vc gOk Try.func59 rfl rfl (Nat.le_of_ble_eq_true rfl) (by repeat' (first | exact trivial | exact ⟨_, rfl, Nat.le_refl _⟩ | exact Nat.le_of_ble_eq_true rfl | refine And.intro ?_ ?_)) (Nat.le_of_ble_eq_true rfl) rfl (fun F hE hA => ?_)
    repeat' (first | exact trivial | refine BS.d (fun h => ?_) (fun h => ?_) | refine BS.e (fun h => ?_) (fun h => ?_) | refine BS.ne (fun h => ?_) (fun h => ?_) | refine BS.n ?_ | refine BS.s (fun h => ?_) (fun h => ?_) | refine And.intro ?_ ?_ | (refine Need.mk ?_; first | with_reducible rfl | (show @Eq TC _ _; rfl) | omega | (simp only [adN_zero]; omega)) | exact OutS.whole rfl rfl | (refine ListK.go gOk hE ?_) | (refine PK.lenL gOk rfl rfl rfl ?_) | (refine OpK.capL gOk rfl rfl rfl rfl rfl ?_) | (refine PK.sliceL gOk rfl rfl (.inr ⟨_, _, rfl, rfl⟩) rfl ?_) | (refine OpK.growZ gOk (m := n) rfl rfl rfl rfl rfl rfl Try.underlying3 rfl rfl (by first | rfl | (simp; done) | omega) (by omega) (by refine ⟨?_, ?_⟩ <;> (try unfold maxLen) <;> omega) rfl (by decide) ?_))
    all_goals first | (exfalso; omega) | exact OutS.pre (Nat.zero_le _) rfl
/-- Two rows of headers behind one another. -/
theorem Concat_run {hc : Hc} (gs os : List Hdr) (A1 A2 : Option Addr) (n1 n2 c1 c2 : Nat) (h1 : RowTold hc A1 n1 c1 1 Hdr encH dH gs) (h2 : RowTold hc A2 n2 c2 1 Hdr encH dH os) (hn : gs.length + os.length ≤ 1048576) :
    RunH Try.prog hc 39 [.one (.c (tH 27 [(A1, n1, c1), (A2, n2, c2)]))] [] [.one (tH 52 (gs ++ os))] [] := by
  obtain ⟨sz, z0, z1, z2⟩ : ∃ f : Nat → Int, f 0 = 0 ∧ f 1 = n1 ∧ f 2 = (n1 : Int) + n2 := ⟨fun i => if i = 0 then 0 else if i = 1 then n1 else (n1 : Int) + n2, rfl, rfl, rfl⟩
  obtain ⟨ac, a0, a1, a2⟩ : ∃ f : Nat → List Hdr, f 0 = [] ∧ f 1 = gs ∧ f 2 = gs ++ os := ⟨fun i => if i = 0 then [] else if i = 1 then gs else gs ++ os, rfl, rfl, rfl⟩
  have l1 := h1.len
  have l2 := h2.len
  have cG := Grow_run (n1 + n2) (by omega)
  refine RunH.of_vc gOk Try.func39 rfl rfl (Nat.le_of_ble_eq_true rfl) (by repeat' (first | exact trivial | exact ⟨_, rfl, Nat.le_refl _⟩ | exact Nat.le_of_ble_eq_true rfl | refine And.intro ?_ ?_)) (Nat.le_of_ble_eq_true rfl) rfl (fun F hE hA => ?_)
  repeat' (first | exact trivial | refine BS.d (fun h => ?_) (fun h => ?_) | refine BS.e (fun h => ?_) (fun h => ?_) | refine BS.ne (fun h => ?_) (fun h => ?_) | refine BS.n ?_ | refine BS.s (fun h => ?_) (fun h => ?_) | refine And.intro ?_ ?_ | (refine Need.mk ?_; first | with_reducible rfl | (show @Eq TC _ _; rfl) | omega | (simp only [adN_zero]; omega)) | exact OutS.whole rfl rfl)
  refine CodeK.loop gOk hE (fun i : Nat => ⟨[(0, vr 1000000 2), (3, vi (sz i)), (9, vr 1000000 2), (10, vi 2), (11, vi i)], [(1000000, rH .fro false 27 [(A1, n1, c1), (A2, n2, c2)])]⟩) (fun i => i ≤ 2) (fun i => 2 - i) 0 (by refine leT.of ?_ ?_ rfl <;> repeat' (first | exact trivial | refine And.intro rfl ?_ | refine And.intro (by first | rfl | (rw [z0]; rfl)) ?_)) (Nat.zero_le _) ?_
  rintro i hi
  obtain rfl | rfl | rfl : i = 0 ∨ i = 1 ∨ i = 2 := by omega
  · rw [z0]
    repeat' (first | exact trivial | refine BS.d (fun h => ?_) (fun h => ?_) | refine BS.e (fun h => ?_) (fun h => ?_) | refine BS.ne (fun h => ?_) (fun h => ?_) | refine BS.n ?_ | refine BS.s (fun h => ?_) (fun h => ?_) | refine And.intro ?_ ?_ | (refine Need.mk ?_; first | with_reducible rfl | (show @Eq TC _ _; rfl) | omega | (simp only [adN_zero]; omega)) | exact OutS.whole rfl rfl | (refine ListK.go gOk hE ?_) | (refine PK.lenL gOk rfl rfl rfl ?_))
    all_goals (try simp only [adN_zero] at *)
    all_goals first
      | (exfalso; omega)
      | (refine Need.mk ?_; first | omega | exact Nat.le_of_ble_eq_true rfl | (simp; omega) | (dsimp only [List.getD, List.getElem?_cons_zero, List.getElem?_cons_succ, Option.getD_some]; omega))
      | (refine ⟨1, (by refine leT.of ?_ ?_ rfl <;> repeat' (first | exact trivial | refine And.intro rfl ?_ | refine And.intro (by first | rfl | (rw [z1]; simp [lkT, vi]; done) | (rw [z1]; simp [lkT]; rfl)) ?_)), by omega, by decide⟩)
  · rw [z1]
    repeat' (first | exact trivial | refine BS.d (fun h => ?_) (fun h => ?_) | refine BS.e (fun h => ?_) (fun h => ?_) | refine BS.ne (fun h => ?_) (fun h => ?_) | refine BS.n ?_ | refine BS.s (fun h => ?_) (fun h => ?_) | refine And.intro ?_ ?_ | (refine Need.mk ?_; first | with_reducible rfl | (show @Eq TC _ _; rfl) | omega | (simp only [adN_zero]; omega)) | exact OutS.whole rfl rfl | (refine ListK.go gOk hE ?_) | (refine PK.lenL gOk rfl rfl rfl ?_))
    all_goals (try simp only [adN_zero] at *)
    all_goals first
      | (exfalso; omega)
      | (refine Need.mk ?_; first | omega | exact Nat.le_of_ble_eq_true rfl | (simp; omega) | (dsimp only [List.getD, List.getElem?_cons_zero, List.getElem?_cons_succ, Option.getD_some]; omega))
      | (refine ⟨2, (by refine leT.of ?_ ?_ rfl <;> repeat' (first | exact trivial | refine And.intro rfl ?_ | refine And.intro (by first | rfl | (rw [z2]; rfl)) ?_)), by omega, by decide⟩)
  · rw [z2]
    repeat' (first | exact trivial | refine BS.d (fun h => ?_) (fun h => ?_) | refine BS.e (fun h => ?_) (fun h => ?_) | refine BS.ne (fun h => ?_) (fun h => ?_) | refine BS.n ?_ | refine BS.s (fun h => ?_) (fun h => ?_) | refine And.intro ?_ ?_ | (refine Need.mk ?_; first | with_reducible rfl | (show @Eq TC _ _; rfl) | omega | (simp only [adN_zero]; omega)) | exact OutS.whole rfl rfl | (refine OpK.call cG rfl rfl rfl rfl hE ?_ rfl rfl ?_; focus ((repeat' (first | exact PsA.lit _ | exact PsA.ref rfl rfl | constructor)); all_goals (fail "ps"))))
    all_goals first | (exfalso; omega) | skip
    refine CodeK.loop gOk hE (fun i : Nat => ⟨[(0, vr 1000000 2), (6, vr 2003072 (ac i).length), (25, vr 1000000 2), (26, vi 2), (27, vi i)], [(2003072, rH .own true 52 (ac i)), (1000000, rH .fro false 27 [(A1, n1, c1), (A2, n2, c2)])]⟩) (fun i => i ≤ 2) (fun i => 2 - i) 0 (by refine leT.of ?_ ?_ rfl <;> repeat' (first | exact trivial | refine And.intro rfl ?_ | refine And.intro (by first | rfl | (rw [a0]; rfl)) ?_)) (Nat.zero_le _) ?_
    rintro i hi
    obtain rfl | rfl | rfl : i = 0 ∨ i = 1 ∨ i = 2 := by omega
    · rw [a0]
      repeat' (first | exact trivial | refine BS.d (fun h => ?_) (fun h => ?_) | refine BS.e (fun h => ?_) (fun h => ?_) | refine BS.ne (fun h => ?_) (fun h => ?_) | refine BS.n ?_ | refine BS.s (fun h => ?_) (fun h => ?_) | refine And.intro ?_ ?_ | (refine Need.mk ?_; first | with_reducible rfl | (show @Eq TC _ _; rfl) | omega | (simp only [adN_zero]; omega)) | exact OutS.whole rfl rfl | (refine OpK.tell gOk hA hE 32 5000 52 decH h1 rfl rfl rfl rfl rfl ?_) | (refine OpK.apps2 gOk hE rfl rfl rfl rfl rfl rfl rfl rfl rfl rfl l1 (fun x r _ => ⟨_, rfl, rfl⟩) rfl (by refine ⟨?_, ?_⟩ <;> (try unfold maxLen) <;> simp <;> omega) ?_))
      all_goals first
        | (exfalso; omega)
        | (refine Need.mk ?_; first | omega | exact Nat.le_of_ble_eq_true rfl | (simp; omega))
        | (refine ⟨1, (by refine leT.of ?_ ?_ rfl <;> repeat' (first | exact trivial | refine And.intro rfl ?_ | refine And.intro (by first | rfl | (rw [a1]; rfl) | (rw [a1]; simp; done) | (rw [a1]; simp; rfl)) ?_)), by omega, by decide⟩)
    · rw [a1]
      repeat' (first | exact trivial | refine BS.d (fun h => ?_) (fun h => ?_) | refine BS.e (fun h => ?_) (fun h => ?_) | refine BS.ne (fun h => ?_) (fun h => ?_) | refine BS.n ?_ | refine BS.s (fun h => ?_) (fun h => ?_) | refine And.intro ?_ ?_ | (refine Need.mk ?_; first | with_reducible rfl | (show @Eq TC _ _; rfl) | omega | (simp only [adN_zero]; omega)) | exact OutS.whole rfl rfl | (refine OpK.tell gOk hA hE 32 5000 52 decH h2 rfl rfl rfl rfl rfl ?_) | (refine OpK.apps2 gOk hE rfl rfl rfl rfl rfl rfl rfl rfl rfl rfl l2 (fun x r _ => ⟨_, rfl, rfl⟩) rfl (by refine ⟨?_, ?_⟩ <;> (try unfold maxLen) <;> omega) ?_))
      all_goals first
        | (exfalso; omega)
        | (refine Need.mk ?_; first | omega | exact Nat.le_of_ble_eq_true rfl | (simp; omega))
        | (refine ⟨2, (by refine leT.of ?_ ?_ rfl <;> repeat' (first | exact trivial | refine And.intro rfl ?_ | refine And.intro (by first | rfl | (rw [a2]; rfl)) ?_)), by omega, by decide⟩)
    · rw [a2]
      repeat' (first | exact trivial | refine BS.d (fun h => ?_) (fun h => ?_) | refine BS.e (fun h => ?_) (fun h => ?_) | refine BS.ne (fun h => ?_) (fun h => ?_) | refine BS.n ?_ | refine BS.s (fun h => ?_) (fun h => ?_) | refine And.intro ?_ ?_ | (refine Need.mk ?_; first | with_reducible rfl | (show @Eq TC _ _; rfl) | omega | (simp only [adN_zero]; omega)) | exact OutS.whole rfl rfl)
      all_goals first | (exfalso; omega) | exact OutS.whole rfl rfl
end Go.Proofs.Ytbfkdbbgbdihdab
