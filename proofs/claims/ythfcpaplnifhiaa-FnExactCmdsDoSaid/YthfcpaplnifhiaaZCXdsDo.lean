import Derived.Test.YthfcpaplnifhiaaZCA
section
namespace Go.Proofs.Ythfcpaplnifhiaa
open Go Go.Tr
set_option maxRecDepth 100000
set_option maxHeartbeats 1000000
set_option linter.unusedVariables false
set_option linter.unusedSimpArgs false
theorem keyOk_run (x : Int) : RunT Try.prog 117 [ti x] [] [ob (decide (0 ≤ x ∧ x ≤ 99))] [] := by
  refine RunT.of_vc gOk Try.func117 rfl rfl (Nat.le_of_ble_eq_true rfl) (by repeat' (first | exact trivial | exact ⟨_, rfl, Nat.le_refl _⟩ | exact Nat.le_of_ble_eq_true rfl | refine And.intro ?_ ?_)) (Nat.le_of_ble_eq_true rfl) rfl (fun F hE => ?_)
  repeat' (first | exact trivial | refine BS.d (fun h => ?_) (fun h => ?_) | refine BS.e (fun h => ?_) (fun h => ?_) | refine BS.ne (fun h => ?_) (fun h => ?_) | refine BS.n ?_ | refine BS.s (fun h => ?_) (fun h => ?_) | refine And.intro ?_ ?_ | (refine Need.mk ?_; first | with_reducible rfl | (show @Eq TC _ _; rfl) | omega | (simp only [adN_zero]; omega)) | exact OutS.whole rfl rfl | refine ListO.go gOk hE ?_)
  all_goals (refine Need.mk ?_; first | rfl | (symm; apply decide_eq_true; omega) | (symm; apply decide_eq_false; omega) | (apply decide_eq_decide.2; omega) | (simp only [beq_iff_eq, Bool.beq_eq_decide_eq] at *; apply decide_eq_decide.2; omega) | (simp; omega))
theorem valOk_run (x : Int) : RunT Try.prog 118 [ti x] [] [ob (decide (0 ≤ x ∧ x ≤ 65535))] [] := by
  refine RunT.of_vc gOk Try.func118 rfl rfl (Nat.le_of_ble_eq_true rfl) (by repeat' (first | exact trivial | exact ⟨_, rfl, Nat.le_refl _⟩ | exact Nat.le_of_ble_eq_true rfl | refine And.intro ?_ ?_)) (Nat.le_of_ble_eq_true rfl) rfl (fun F hE => ?_)
  repeat' (first | exact trivial | refine BS.d (fun h => ?_) (fun h => ?_) | refine BS.e (fun h => ?_) (fun h => ?_) | refine BS.ne (fun h => ?_) (fun h => ?_) | refine BS.n ?_ | refine BS.s (fun h => ?_) (fun h => ?_) | refine And.intro ?_ ?_ | (refine Need.mk ?_; first | with_reducible rfl | (show @Eq TC _ _; rfl) | omega | (simp only [adN_zero]; omega)) | exact OutS.whole rfl rfl | refine ListO.go gOk hE ?_)
  all_goals (refine Need.mk ?_; first | rfl | (symm; apply decide_eq_true; omega) | (symm; apply decide_eq_false; omega) | (apply decide_eq_decide.2; omega) | (simp only [beq_iff_eq, Bool.beq_eq_decide_eq] at *; apply decide_eq_decide.2; omega) | (simp; omega))
end Go.Proofs.Ythfcpaplnifhiaa
end

section
namespace Go.Proofs.Ythfcpaplnifhiaa
open Go Go.Tr
set_option maxRecDepth 100000
set_option linter.unusedVariables false
set_option linter.unusedSimpArgs false
theorem l1In_run (x a b : Int) : RunT Try.prog 116 [ti x, ti a, ti b] [] [ob (decide (a ≤ x ∧ x ≤ b))] [] := by
  refine RunT.of_vc gOk Try.func116 rfl rfl (Nat.le_of_ble_eq_true rfl) (by repeat' (first | exact trivial | exact ⟨_, rfl, Nat.le_refl _⟩ | exact Nat.le_of_ble_eq_true rfl | refine And.intro ?_ ?_)) (Nat.le_of_ble_eq_true rfl) rfl (fun F hE => ?_)
  repeat' (first | exact trivial | refine BS.d (fun h => ?_) (fun h => ?_) | refine BS.e (fun h => ?_) (fun h => ?_) | refine BS.ne (fun h => ?_) (fun h => ?_) | refine BS.n ?_ | refine BS.s (fun h => ?_) (fun h => ?_) | refine And.intro ?_ ?_ | (refine Need.mk ?_; first | with_reducible rfl | (show @Eq TC _ _; rfl) | omega | (simp only [adN_zero]; omega)) | exact OutS.whole rfl rfl | refine ListO.go gOk hE ?_)
  all_goals (refine Need.mk ?_; simp [*])
/-- Is this number a handle? -/
def hOk (h : Int) : Bool := decide (32 ≤ h ∧ h ≤ 223 ∧ h % 32 < 24)
def hSlot (h : Int) : Int := if hOk h then h % 32 else -1
def hSome (h : Int) : Bool := decide (h = 0) || hOk h
end Go.Proofs.Ythfcpaplnifhiaa
end

section
namespace Go.Proofs.Ythfcpaplnifhiaa
open Go Go.Tr
set_option maxRecDepth 100000
set_option maxHeartbeats 1000000
set_option linter.unusedVariables false
set_option linter.unusedSimpArgs false
/-- Pair j is well formed and its key is greater than the one before. -/
def pmo (xs : List KVT) (j : Nat) : Prop := (0 ≤ (xs.getD j zKV).1 ∧ (xs.getD j zKV).1 ≤ 99) ∧ (0 ≤ (xs.getD j zKV).2 ∧ (xs.getD j zKV).2 ≤ 65535) ∧ (j = 0 ∨ (xs.getD (j - 1) zKV).1 < (xs.getD j zKV).1)
theorem MapOkS_run (e : Nat) (xs : List KVT) (hn : xs.length ≤ 1048576) : RunT Try.prog 58 [.one (.c (tKV e xs))] [] [ob (allP xs.length (pmo xs))] [] := by
  refine RunT.of_vc gOk Try.func58 rfl rfl (Nat.le_of_ble_eq_true rfl) (by repeat' (first | exact trivial | exact ⟨_, rfl, Nat.le_refl _⟩ | exact Nat.le_of_ble_eq_true rfl | refine And.intro ?_ ?_)) (Nat.le_of_ble_eq_true rfl) rfl (fun F hE => ?_)
  repeat' (first | exact trivial | refine BS.d (fun h => ?_) (fun h => ?_) | refine BS.e (fun h => ?_) (fun h => ?_) | refine BS.ne (fun h => ?_) (fun h => ?_) | refine BS.n ?_ | refine BS.s (fun h => ?_) (fun h => ?_) | refine And.intro ?_ ?_ | (refine Need.mk ?_; first | with_reducible rfl | (show @Eq TC _ _; rfl) | omega | (simp only [adN_zero]; omega)) | exact OutS.whole rfl rfl | refine ListO.go gOk hE ?_)
  refine CodeK.loop gOk hE (fun i : Nat => ⟨[(0, vr 1000000 xs.length), (3, vi i)], [(1000000, rKV .fro false e xs)]⟩) (fun i => i ≤ xs.length ∧ ∀ j, j < i → pmo xs j) (fun i => xs.length - i) 0 (by refine leT.of ?_ ?_ rfl <;> repeat' (first | exact trivial | refine And.intro rfl ?_ | refine And.intro (by simp) ?_)) ⟨Nat.zero_le _, fun j hj => absurd hj (Nat.not_lt_zero _)⟩ ?_
  rintro i ⟨hi, hs⟩
  have c1 := l1In_run (xs.getD i zKV).1 0 99
  have c2 := l1In_run (xs.getD i zKV).2 0 65535
  rcases i with _ | i
  · repeat' (first | exact trivial | refine BS.d (fun h => ?_) (fun h => ?_) | refine BS.e (fun h => ?_) (fun h => ?_) | refine BS.ne (fun h => ?_) (fun h => ?_) | refine BS.n ?_ | refine BS.s (fun h => ?_) (fun h => ?_) | refine And.intro ?_ ?_ | (refine Need.mk ?_; first | with_reducible rfl | (show @Eq TC _ _; rfl) | omega | (simp only [adN_zero]; omega)) | exact OutS.whole rfl rfl | (refine CodeK.draw gOk hE rfl (fun _ _ h => h) (.take 0 (.take 1 (.take 2 (.take 3 (.alt 4 (.alt 5 (.take 6 (.take 7 (.take 8 (.take 9 (.take 10 (.take 11 (.alt 12 (.alt 13 (.take 14 (.take 15 (.take 16 (.take 17 (.take 18 (.take 19 (.take 20 (.take 21 (.take 22 (.take 23 (.take 25 (.take 26 (.take 27 (.take 28 (.take 29 (.alt 24 (.alt 30 (.take 31 (.take 32 (.take 33 .done))) .stop) (.alt 30 (.alt 24 (.take 31 (.take 32 (.take 33 .done))) .stop) .stop))))))))))))))))) .stop) .stop))))))) .stop) .stop))))) ?_ ?_; focus (decide +kernel)) | (refine OpK.call c1 rfl rfl rfl rfl hE ?_ rfl rfl ?_; focus ((repeat' (first | exact PsA.lit _ | exact PsA.ref rfl rfl | constructor)); all_goals (fail "ps"))) | (refine OpK.call c2 rfl rfl rfl rfl hE ?_ rfl rfl ?_; focus ((repeat' (first | exact PsA.lit _ | exact PsA.ref rfl rfl | constructor)); all_goals (fail "ps"))) | refine ListO.go gOk hE ?_)
    all_goals (try simp only [Int.natCast_zero, adN_zero] at *)
    (all_goals first
          | (exfalso; omega)
          | (refine Need.mk ?_; omega)
          | (refine Need.mk ?_; refine (allP_false (i := 0) (by omega) (fun hp => ?_)).symm; obtain ⟨p1, p2, p3⟩ := hp; (try simp only [Nat.add_sub_cancel, Nat.zero_sub] at p3); omega)
          | (refine Need.mk ?_; exact (allP_true fun j hj => hs j (by omega)).symm)
          | (have hpm : pmo xs 0 := ?_; rotate_left; (refine ⟨⟨?_, ?_⟩, ⟨?_, ?_⟩, ?_⟩ <;> first | exact Or.inl rfl | ((try simp only [Nat.add_sub_cancel]); omega)); refine ⟨0 + 1, (by refine leT.of ?_ ?_ rfl <;> repeat' (first | exact trivial | refine And.intro rfl ?_ | refine And.intro (by simp) ?_)), ⟨by omega, fun j hj => (Nat.lt_or_ge j 0).elim (hs j) (fun h9 => (show j = 0 by omega) ▸ hpm)⟩, by first | omega | (dsimp only; omega)⟩))
  · repeat' (first | exact trivial | refine BS.d (fun h => ?_) (fun h => ?_) | refine BS.e (fun h => ?_) (fun h => ?_) | refine BS.ne (fun h => ?_) (fun h => ?_) | refine BS.n ?_ | refine BS.s (fun h => ?_) (fun h => ?_) | refine And.intro ?_ ?_ | (refine Need.mk ?_; first | with_reducible rfl | (show @Eq TC _ _; rfl) | omega | (simp only [adN_zero]; omega)) | exact OutS.whole rfl rfl | (refine CodeK.draw gOk hE rfl (fun _ _ h => h) (.take 0 (.take 1 (.take 2 (.take 3 (.alt 4 (.alt 5 (.take 6 (.take 7 (.take 8 (.take 9 (.take 10 (.take 11 (.alt 12 (.alt 13 (.take 14 (.take 15 (.take 16 (.take 17 (.take 18 (.take 19 (.take 20 (.take 21 (.take 22 (.take 23 (.take 25 (.take 26 (.take 27 (.take 28 (.take 29 (.alt 24 (.alt 30 (.take 31 (.take 32 (.take 33 .done))) .stop) (.alt 30 (.alt 24 (.take 31 (.take 32 (.take 33 .done))) .stop) .stop))))))))))))))))) .stop) .stop))))))) .stop) .stop))))) ?_ ?_; focus (decide +kernel)) | (refine OpK.call c1 rfl rfl rfl rfl hE ?_ rfl rfl ?_; focus ((repeat' (first | exact PsA.lit _ | exact PsA.ref rfl rfl | constructor)); all_goals (fail "ps"))) | (refine OpK.call c2 rfl rfl rfl rfl hE ?_ rfl rfl ?_; focus ((repeat' (first | exact PsA.lit _ | exact PsA.ref rfl rfl | constructor)); all_goals (fail "ps"))) | refine ListO.go gOk hE ?_)
    all_goals (try simp only [adN_zero] at *)
    all_goals (try simp only [Int.natCast_add, Int.natCast_one, Int.add_sub_cancel, adN_zero] at *)
    (all_goals first
          | (exfalso; omega)
          | (refine Need.mk ?_; omega)
          | (refine Need.mk ?_; refine (allP_false (i := (i + 1)) (by omega) (fun hp => ?_)).symm; obtain ⟨p1, p2, p3⟩ := hp; (try simp only [Nat.add_sub_cancel, Nat.zero_sub] at p3); omega)
          | (refine Need.mk ?_; exact (allP_true fun j hj => hs j (by omega)).symm)
          | (have hpm : pmo xs (i + 1) := ?_; rotate_left; (refine ⟨⟨?_, ?_⟩, ⟨?_, ?_⟩, ?_⟩ <;> first | exact Or.inl rfl | ((try simp only [Nat.add_sub_cancel]); omega)); refine ⟨(i + 1) + 1, (by refine leT.of ?_ ?_ rfl <;> repeat' (first | exact trivial | refine And.intro rfl ?_ | refine And.intro (by simp) ?_)), ⟨by omega, fun j hj => (Nat.lt_or_ge j (i + 1)).elim (hs j) (fun h9 => (show j = (i + 1) by omega) ▸ hpm)⟩, by first | omega | (dsimp only; omega)⟩))
theorem MapOkI_run (e : Nat) (xs : List KVT) (hn : xs.length ≤ 1048576) : RunT Try.prog 59 [.one (.c (tKV e xs))] [] [ob (allP xs.length (pmo xs))] [] := by
  refine RunT.of_vc gOk Try.func59 rfl rfl (Nat.le_of_ble_eq_true rfl) (by repeat' (first | exact trivial | exact ⟨_, rfl, Nat.le_refl _⟩ | exact Nat.le_of_ble_eq_true rfl | refine And.intro ?_ ?_)) (Nat.le_of_ble_eq_true rfl) rfl (fun F hE => ?_)
  repeat' (first | exact trivial | refine BS.d (fun h => ?_) (fun h => ?_) | refine BS.e (fun h => ?_) (fun h => ?_) | refine BS.ne (fun h => ?_) (fun h => ?_) | refine BS.n ?_ | refine BS.s (fun h => ?_) (fun h => ?_) | refine And.intro ?_ ?_ | (refine Need.mk ?_; first | with_reducible rfl | (show @Eq TC _ _; rfl) | omega | (simp only [adN_zero]; omega)) | exact OutS.whole rfl rfl | refine ListO.go gOk hE ?_)
  refine CodeK.loop gOk hE (fun i : Nat => ⟨[(0, vr 1000000 xs.length), (5, vr 1000000 xs.length), (6, vi xs.length), (7, vi i)], [(1000000, rKV .fro false e xs)]⟩) (fun i => i ≤ xs.length ∧ ∀ j, j < i → pmo xs j) (fun i => xs.length - i) 0 (by refine leT.of ?_ ?_ rfl <;> repeat' (first | exact trivial | refine And.intro rfl ?_ | refine And.intro (by simp) ?_)) ⟨Nat.zero_le _, fun j hj => absurd hj (Nat.not_lt_zero _)⟩ ?_
  rintro i ⟨hi, hs⟩
  have c1 := keyOk_run (xs.getD i zKV).1
  have c2 := valOk_run (xs.getD i zKV).2
  rcases i with _ | i
  · repeat' (first | exact trivial | refine BS.d (fun h => ?_) (fun h => ?_) | refine BS.e (fun h => ?_) (fun h => ?_) | refine BS.ne (fun h => ?_) (fun h => ?_) | refine BS.n ?_ | refine BS.s (fun h => ?_) (fun h => ?_) | refine And.intro ?_ ?_ | (refine Need.mk ?_; first | with_reducible rfl | (show @Eq TC _ _; rfl) | omega | (simp only [adN_zero]; omega)) | exact OutS.whole rfl rfl | (refine CodeK.draw gOk hE rfl (fun _ _ h => h) (.take 0 (.alt 1 (.alt 2 (.take 3 (.take 4 (.take 5 (.alt 6 (.alt 7 (.take 8 (.take 9 (.take 10 (.take 11 (.take 12 (.take 13 (.take 14 (.take 15 (.take 16 (.take 17 (.take 18 (.take 20 (.alt 19 (.alt 21 (.take 22 (.take 23 (.take 24 .done))) .stop) (.alt 21 (.alt 19 (.take 22 (.take 23 (.take 24 .done))) .stop) .stop)))))))))))))) .stop) .stop)))) .stop) .stop)) ?_ ?_; focus (decide +kernel)) | (refine OpK.call c1 rfl rfl rfl rfl hE ?_ rfl rfl ?_; focus ((repeat' (first | exact PsA.lit _ | exact PsA.ref rfl rfl | constructor)); all_goals (fail "ps"))) | (refine OpK.call c2 rfl rfl rfl rfl hE ?_ rfl rfl ?_; focus ((repeat' (first | exact PsA.lit _ | exact PsA.ref rfl rfl | constructor)); all_goals (fail "ps"))) | refine ListO.go gOk hE ?_)
    all_goals (try simp only [Int.natCast_zero, adN_zero] at *)
    (all_goals first
          | (exfalso; omega)
          | (refine Need.mk ?_; omega)
          | (refine Need.mk ?_; refine (allP_false (i := 0) (by omega) (fun hp => ?_)).symm; obtain ⟨p1, p2, p3⟩ := hp; (try simp only [Nat.add_sub_cancel, Nat.zero_sub] at p3); omega)
          | (refine Need.mk ?_; exact (allP_true fun j hj => hs j (by omega)).symm)
          | (have hpm : pmo xs 0 := ?_; rotate_left; (refine ⟨⟨?_, ?_⟩, ⟨?_, ?_⟩, ?_⟩ <;> first | exact Or.inl rfl | ((try simp only [Nat.add_sub_cancel]); omega)); refine ⟨0 + 1, (by refine leT.of ?_ ?_ rfl <;> repeat' (first | exact trivial | refine And.intro rfl ?_ | refine And.intro (by simp) ?_)), ⟨by omega, fun j hj => (Nat.lt_or_ge j 0).elim (hs j) (fun h9 => (show j = 0 by omega) ▸ hpm)⟩, by first | omega | (dsimp only; omega)⟩))
  · repeat' (first | exact trivial | refine BS.d (fun h => ?_) (fun h => ?_) | refine BS.e (fun h => ?_) (fun h => ?_) | refine BS.ne (fun h => ?_) (fun h => ?_) | refine BS.n ?_ | refine BS.s (fun h => ?_) (fun h => ?_) | refine And.intro ?_ ?_ | (refine Need.mk ?_; first | with_reducible rfl | (show @Eq TC _ _; rfl) | omega | (simp only [adN_zero]; omega)) | exact OutS.whole rfl rfl | (refine CodeK.draw gOk hE rfl (fun _ _ h => h) (.take 0 (.alt 1 (.alt 2 (.take 3 (.take 4 (.take 5 (.alt 6 (.alt 7 (.take 8 (.take 9 (.take 10 (.take 11 (.take 12 (.take 13 (.take 14 (.take 15 (.take 16 (.take 17 (.take 18 (.take 20 (.alt 19 (.alt 21 (.take 22 (.take 23 (.take 24 .done))) .stop) (.alt 21 (.alt 19 (.take 22 (.take 23 (.take 24 .done))) .stop) .stop)))))))))))))) .stop) .stop)))) .stop) .stop)) ?_ ?_; focus (decide +kernel)) | (refine OpK.call c1 rfl rfl rfl rfl hE ?_ rfl rfl ?_; focus ((repeat' (first | exact PsA.lit _ | exact PsA.ref rfl rfl | constructor)); all_goals (fail "ps"))) | (refine OpK.call c2 rfl rfl rfl rfl hE ?_ rfl rfl ?_; focus ((repeat' (first | exact PsA.lit _ | exact PsA.ref rfl rfl | constructor)); all_goals (fail "ps"))) | refine ListO.go gOk hE ?_)
    all_goals (try simp only [adN_zero] at *)
    all_goals (try simp only [Int.natCast_add, Int.natCast_one, Int.add_sub_cancel, adN_zero] at *)
    (all_goals first
          | (exfalso; omega)
          | (refine Need.mk ?_; omega)
          | (refine Need.mk ?_; refine (allP_false (i := (i + 1)) (by omega) (fun hp => ?_)).symm; obtain ⟨p1, p2, p3⟩ := hp; (try simp only [Nat.add_sub_cancel, Nat.zero_sub] at p3); omega)
          | (refine Need.mk ?_; exact (allP_true fun j hj => hs j (by omega)).symm)
          | (have hpm : pmo xs (i + 1) := ?_; rotate_left; (refine ⟨⟨?_, ?_⟩, ⟨?_, ?_⟩, ?_⟩ <;> first | exact Or.inl rfl | ((try simp only [Nat.add_sub_cancel]); omega)); refine ⟨(i + 1) + 1, (by refine leT.of ?_ ?_ rfl <;> repeat' (first | exact trivial | refine And.intro rfl ?_ | refine And.intro (by simp) ?_)), ⟨by omega, fun j hj => (Nat.lt_or_ge j (i + 1)).elim (hs j) (fun h9 => (show j = (i + 1) by omega) ▸ hpm)⟩, by first | omega | (dsimp only; omega)⟩))
end Go.Proofs.Ythfcpaplnifhiaa
end

section
namespace Go.Proofs.Ythfcpaplnifhiaa
open Go Go.Tr
set_option maxRecDepth 100000
set_option linter.unusedVariables false
set_option linter.unusedSimpArgs false
def pk (xs : List KVT) (k : Int) (j : Nat) : Bool := decide ((xs.getD j zKV).1 = k)
def mgR (xs : List KVT) : Option Nat → Int × Bool
  | some j => ((xs.getD j zKV).2, true)
  | none => (0, false)
/-- The value of a key. -/
def mget (xs : List KVT) (k : Int) : Int × Bool := mgR xs (firstP (pk xs k) 0 xs.length)
theorem MapGetS_run (e : Nat) (xs : List KVT) (k : Int) (w : -9223372036854775808 ≤ k ∧ k ≤ 9223372036854775807) (hn : xs.length ≤ 1048576) : RunT Try.prog 57 [.one (.c (tKV e xs)), ti k] [] [oi (mget xs k).1, ob (mget xs k).2] [] := by
  refine RunT.of_vc gOk Try.func57 rfl rfl (Nat.le_of_ble_eq_true rfl) (by repeat' (first | exact trivial | exact ⟨_, rfl, Nat.le_refl _⟩ | exact Nat.le_of_ble_eq_true rfl | refine And.intro ?_ ?_)) (Nat.le_of_ble_eq_true rfl) rfl (fun F hE => ?_)
  refine CodeK.loop gOk hE (fun i : Nat => ⟨[(0, vr 1000000 xs.length), (1, vi k), (6, vi i)], [(1000000, rKV .fro false e xs)]⟩) (fun i => i ≤ xs.length ∧ mget xs k = mgR xs (firstP (pk xs k) i (xs.length - i))) (fun i => xs.length - i) 0 (by refine leT.of ?_ ?_ rfl <;> repeat' (first | exact trivial | refine And.intro rfl ?_ | refine And.intro (by simp) ?_)) ⟨Nat.zero_le _, rfl⟩ ?_
  rintro i ⟨hi, hs⟩
  repeat' (first | exact trivial | refine BS.d (fun h => ?_) (fun h => ?_) | refine BS.e (fun h => ?_) (fun h => ?_) | refine BS.ne (fun h => ?_) (fun h => ?_) | refine BS.n ?_ | refine BS.s (fun h => ?_) (fun h => ?_) | refine And.intro ?_ ?_ | (refine Need.mk ?_; first | with_reducible rfl | (show @Eq TC _ _; rfl) | omega | (simp only [adN_zero]; omega)) | exact OutS.whole rfl rfl | refine ListO.go gOk hE ?_)
  (
      all_goals (try simp only [adN_zero] at *)
      all_goals (first
        | (refine Need.mk ?_; rw [hs, firstP_yes (by omega) (by exact decide_eq_true (by assumption))]; rfl)
        | (refine Need.mk ?_; rw [hs, show xs.length - i = 0 by omega]; rfl)
        | (refine ⟨i + 1, (by refine leT.of ?_ ?_ rfl <;> repeat' (first | exact trivial | refine And.intro rfl ?_ | refine And.intro (by simp) ?_)), ⟨by omega, by rw [hs, firstP_no (by omega) (by exact decide_eq_false (by assumption)), show xs.length - i - 1 = xs.length - (i + 1) by omega]⟩, by first | omega | (dsimp only; omega)⟩)))
theorem MapGetI_run (e : Nat) (xs : List KVT) (k : Int) (w : -9223372036854775808 ≤ k ∧ k ≤ 9223372036854775807) (hn : xs.length ≤ 1048576) : RunT Try.prog 56 [.one (.c (tKV e xs)), ti k] [] [oi (mget xs k).1, ob (mget xs k).2] [] := by
  refine RunT.of_vc gOk Try.func56 rfl rfl (Nat.le_of_ble_eq_true rfl) (by repeat' (first | exact trivial | exact ⟨_, rfl, Nat.le_refl _⟩ | exact Nat.le_of_ble_eq_true rfl | refine And.intro ?_ ?_)) (Nat.le_of_ble_eq_true rfl) rfl (fun F hE => ?_)
  repeat' (first | exact trivial | refine BS.d (fun h => ?_) (fun h => ?_) | refine BS.e (fun h => ?_) (fun h => ?_) | refine BS.ne (fun h => ?_) (fun h => ?_) | refine BS.n ?_ | refine BS.s (fun h => ?_) (fun h => ?_) | refine And.intro ?_ ?_ | (refine Need.mk ?_; first | with_reducible rfl | (show @Eq TC _ _; rfl) | omega | (simp only [adN_zero]; omega)) | exact OutS.whole rfl rfl | refine ListO.go gOk hE ?_)
  refine CodeK.loop gOk hE (fun i : Nat => ⟨[(1, vi k), (8, vr 1000000 xs.length), (9, vi xs.length), (10, vi i)], [(1000000, rKV .fro false e xs)]⟩) (fun i => i ≤ xs.length ∧ mget xs k = mgR xs (firstP (pk xs k) i (xs.length - i))) (fun i => xs.length - i) 0 (by refine leT.of ?_ ?_ rfl <;> repeat' (first | exact trivial | refine And.intro rfl ?_ | refine And.intro (by simp) ?_)) ⟨Nat.zero_le _, rfl⟩ ?_
  rintro i ⟨hi, hs⟩
  repeat' (first | exact trivial | refine BS.d (fun h => ?_) (fun h => ?_) | refine BS.e (fun h => ?_) (fun h => ?_) | refine BS.ne (fun h => ?_) (fun h => ?_) | refine BS.n ?_ | refine BS.s (fun h => ?_) (fun h => ?_) | refine And.intro ?_ ?_ | (refine Need.mk ?_; first | with_reducible rfl | (show @Eq TC _ _; rfl) | omega | (simp only [adN_zero]; omega)) | exact OutS.whole rfl rfl | refine ListO.go gOk hE ?_)
  (
      all_goals (try simp only [adN_zero] at *)
      all_goals (first
        | (refine Need.mk ?_; rw [hs, firstP_yes (by omega) (by exact decide_eq_true (by assumption))]; rfl)
        | (refine Need.mk ?_; rw [hs, show xs.length - i = 0 by omega]; rfl)
        | (refine ⟨i + 1, (by refine leT.of ?_ ?_ rfl <;> repeat' (first | exact trivial | refine And.intro rfl ?_ | refine And.intro (by simp) ?_)), ⟨by omega, by rw [hs, firstP_no (by omega) (by exact decide_eq_false (by assumption)), show xs.length - i - 1 = xs.length - (i + 1) by omega]⟩, by first | omega | (dsimp only; omega)⟩)))
end Go.Proofs.Ythfcpaplnifhiaa
end

section
namespace Go.Proofs.Ythfcpaplnifhiaa
open Go Go.Tr
set_option maxRecDepth 100000
set_option linter.unusedVariables false
set_option linter.unusedSimpArgs false
theorem szCmdS_run (e : Nat) (xs : List CmdT) (m : Int) (h0 : 0 ≤ m) (h1 : m ≤ 1048576) (hn : xs.length ≤ 9223372036854775807) : RunT Try.prog 34 [.one (.c (tCmd e xs)), ti m] [] [oi (szI xs m)] [] := by
  refine RunT.of_vc gOk Try.func34 rfl rfl (Nat.le_of_ble_eq_true rfl) (by repeat' (first | exact trivial | exact ⟨_, rfl, Nat.le_refl _⟩ | exact Nat.le_of_ble_eq_true rfl | refine And.intro ?_ ?_)) (Nat.le_of_ble_eq_true rfl) rfl (fun F hE => ?_)
  repeat' (first | exact trivial | refine BS.d (fun h => ?_) (fun h => ?_) | refine BS.e (fun h => ?_) (fun h => ?_) | refine BS.ne (fun h => ?_) (fun h => ?_) | refine BS.n ?_ | refine BS.s (fun h => ?_) (fun h => ?_) | refine And.intro ?_ ?_ | (refine Need.mk ?_; first | with_reducible rfl | (show @Eq TC _ _; rfl) | omega | (simp only [adN_zero]; omega)) | exact OutS.whole rfl rfl | refine ListO.go gOk hE ?_)
  all_goals (refine Need.mk ?_; unfold szI; first | rw [if_pos (by omega)] | rw [if_neg (by omega)])
theorem toCmd_run (x : CmdT) : RunT Try.prog 31 [aCmd x] [] [oCmd x] [] := by
  refine RunT.of_vc gOk Try.func31 rfl rfl (Nat.le_of_ble_eq_true rfl) (by repeat' (first | exact trivial | exact ⟨_, rfl, Nat.le_refl _⟩ | exact Nat.le_of_ble_eq_true rfl | refine And.intro ?_ ?_)) (Nat.le_of_ble_eq_true rfl) rfl (fun F hE => ?_)
  repeat' (first | exact trivial | refine BS.d (fun h => ?_) (fun h => ?_) | refine BS.e (fun h => ?_) (fun h => ?_) | refine BS.ne (fun h => ?_) (fun h => ?_) | refine BS.n ?_ | refine BS.s (fun h => ?_) (fun h => ?_) | refine And.intro ?_ ?_ | (refine Need.mk ?_; first | with_reducible rfl | (show @Eq TC _ _; rfl) | omega | (simp only [adN_zero]; omega)) | exact OutS.whole rfl rfl | refine ListO.go gOk hE ?_)
theorem eqCmd_run (x : CmdT) : RunT Try.prog 103 [aCmd x, aCmd x] [] [ob true] [] := by
  refine RunT.of_vc gOk Try.func103 rfl rfl (Nat.le_of_ble_eq_true rfl) (by repeat' (first | exact trivial | exact ⟨_, rfl, Nat.le_refl _⟩ | exact Nat.le_of_ble_eq_true rfl | refine And.intro ?_ ?_)) (Nat.le_of_ble_eq_true rfl) rfl (fun F hE => ?_)
  repeat' (first | exact trivial | refine BS.d (fun h => ?_) (fun h => ?_) | refine BS.e (fun h => ?_) (fun h => ?_) | refine BS.ne (fun h => ?_) (fun h => ?_) | refine BS.n ?_ | refine BS.s (fun h => ?_) (fun h => ?_) | refine And.intro ?_ ?_ | (refine Need.mk ?_; first | with_reducible rfl | (show @Eq TC _ _; rfl) | omega | (simp only [adN_zero]; omega)) | exact OutS.whole rfl rfl | refine ListO.go gOk hE ?_)
  all_goals exact absurd rfl h
theorem toCmdS_run (e : Nat) (xs : List CmdT) (hn : xs.length ≤ 1048576) : RunT Try.prog 36 [.one (.c (tCmd e xs))] [] [.one (tCmd 48 xs)] [] := by
  refine RunT.of_vc gOk Try.func36 rfl rfl (Nat.le_of_ble_eq_true rfl) (by repeat' (first | exact trivial | exact ⟨_, rfl, Nat.le_refl _⟩ | exact Nat.le_of_ble_eq_true rfl | refine And.intro ?_ ?_)) (Nat.le_of_ble_eq_true rfl) rfl (fun F hE => ?_)
  repeat' (first | exact trivial | refine BS.d (fun h => ?_) (fun h => ?_) | refine BS.e (fun h => ?_) (fun h => ?_) | refine BS.ne (fun h => ?_) (fun h => ?_) | refine BS.n ?_ | refine BS.s (fun h => ?_) (fun h => ?_) | refine And.intro ?_ ?_ | (refine Need.mk ?_; first | with_reducible rfl | (show @Eq TC _ _; rfl) | omega | (simp only [adN_zero]; omega)) | exact OutS.whole rfl rfl | refine ListO.go gOk hE ?_)
  refine CodeK.loop gOk hE (fun i : Nat => ⟨[(0, vr 1000000 xs.length), (3, vr 7 xs.length), (4, vi i)], [(7, rCmd .own true 48 (fl zCmd xs i)), (1000000, rCmd .fro false e xs)]⟩) (fun i => i ≤ xs.length) (fun i => xs.length - i) 0 (by refine leT.of ?_ ?_ rfl <;> repeat' (first | exact trivial | refine And.intro rfl ?_ | refine And.intro (by simp [fl_zero] <;> rfl) ?_)) (Nat.zero_le _) ?_
  rintro i hi
  have hl := fl_len zCmd xs i hi
  repeat' (first | exact trivial | refine BS.d (fun h => ?_) (fun h => ?_) | refine BS.e (fun h => ?_) (fun h => ?_) | refine BS.ne (fun h => ?_) (fun h => ?_) | refine BS.n ?_ | refine BS.s (fun h => ?_) (fun h => ?_) | refine And.intro ?_ ?_ | (refine Need.mk ?_; first | with_reducible rfl | (show @Eq TC _ _; rfl) | omega | (simp only [adN_zero]; omega)) | exact OutS.whole rfl rfl | refine ListO.go gOk hE ?_)
  · refine OpK.call (toCmd_run (xs.getD i zCmd)) rfl rfl rfl rfl hE (by repeat' (first | exact PsA.lit _ | exact PsA.ref rfl rfl | constructor)) rfl rfl ?_
    repeat' (first | exact trivial | refine BS.d (fun h => ?_) (fun h => ?_) | refine BS.e (fun h => ?_) (fun h => ?_) | refine BS.ne (fun h => ?_) (fun h => ?_) | refine BS.n ?_ | refine BS.s (fun h => ?_) (fun h => ?_) | refine And.intro ?_ ?_ | (refine Need.mk ?_; first | with_reducible rfl | (show @Eq TC _ _; rfl) | omega | (simp only [adN_zero]; omega)) | exact OutS.whole rfl rfl | refine ListO.go gOk hE ?_)
    all_goals (refine ⟨i + 1, (by refine leT.of ?_ ?_ rfl <;> repeat' (first | exact trivial | refine And.intro rfl ?_ | refine And.intro (by first | (rw [← fl_set zCmd xs i (by omega)]; rfl) | (simp <;> rfl)) ?_)), ?_⟩; (refine And.intro ?_ ?_) <;> (first | omega | (dsimp only; omega) | trivial))
  · exact OutS.whole hl.symm (by rw [fl_full _ _ _ (by omega) hi]; rfl)
theorem eqCmdS_run (e : Nat) (xs : List CmdT) (hn : xs.length ≤ 4000000) : RunT Try.prog 39 [.one (.c (tCmd e xs)), .one (.c (tCmd e xs))] [] [ob true] [] := by
  refine RunT.of_vc gOk Try.func39 rfl rfl (Nat.le_of_ble_eq_true rfl) (by repeat' (first | exact trivial | exact ⟨_, rfl, Nat.le_refl _⟩ | exact Nat.le_of_ble_eq_true rfl | refine And.intro ?_ ?_)) (Nat.le_of_ble_eq_true rfl) rfl (fun F hE => ?_)
  repeat' (first | exact trivial | refine BS.d (fun h => ?_) (fun h => ?_) | refine BS.e (fun h => ?_) (fun h => ?_) | refine BS.ne (fun h => ?_) (fun h => ?_) | refine BS.n ?_ | refine BS.s (fun h => ?_) (fun h => ?_) | refine And.intro ?_ ?_ | (refine Need.mk ?_; first | with_reducible rfl | (show @Eq TC _ _; rfl) | omega | (simp only [adN_zero]; omega)) | exact OutS.whole rfl rfl | refine ListO.go gOk hE ?_)
  · refine CodeK.loop gOk hE (fun i : Nat => ⟨[(0, vr 1000000 xs.length), (1, vr 1000001 xs.length), (5, vi i)], [(1000000, rCmd .fro false e xs), (1000001, rCmd .fro false e xs)]⟩) (fun i => i ≤ xs.length) (fun i => xs.length - i) 0 (by refine leT.of ?_ ?_ rfl <;> repeat' (first | exact trivial | refine And.intro rfl ?_ | refine And.intro (by simp) ?_)) (Nat.zero_le _) ?_
    rintro i hi
    repeat' (first | exact trivial | refine BS.d (fun h => ?_) (fun h => ?_) | refine BS.e (fun h => ?_) (fun h => ?_) | refine BS.ne (fun h => ?_) (fun h => ?_) | refine BS.n ?_ | refine BS.s (fun h => ?_) (fun h => ?_) | refine And.intro ?_ ?_ | (refine Need.mk ?_; first | with_reducible rfl | (show @Eq TC _ _; rfl) | omega | (simp only [adN_zero]; omega)) | exact OutS.whole rfl rfl | refine ListO.go gOk hE ?_)
    · refine CodeK.draw gOk hE rfl (fun _ _ h => h) (.take 0 (.take 1 (.take 2 (.take 4 (.take 5 (.take 6 (.alt 3 (.alt 7 (.alt 8 (.take 9 .done) .stop) .stop) (.alt 7 (.alt 3 (.alt 8 (.take 9 .done) .stop) .stop) .stop)))))))) (by decide +kernel) ?_
      repeat' (first | exact trivial | refine BS.d (fun h => ?_) (fun h => ?_) | refine BS.e (fun h => ?_) (fun h => ?_) | refine BS.ne (fun h => ?_) (fun h => ?_) | refine BS.n ?_ | refine BS.s (fun h => ?_) (fun h => ?_) | refine And.intro ?_ ?_ | (refine Need.mk ?_; first | with_reducible rfl | (show @Eq TC _ _; rfl) | omega | (simp only [adN_zero]; omega)) | exact OutS.whole rfl rfl | refine ListO.go gOk hE ?_)
      all_goals (refine OpK.call (eqCmd_run _) rfl rfl rfl rfl hE (by repeat' (first | exact PsA.lit _ | exact PsA.ref rfl rfl | constructor)) rfl rfl ?_)
      all_goals (repeat' (first | exact trivial | refine BS.d (fun h => ?_) (fun h => ?_) | refine BS.e (fun h => ?_) (fun h => ?_) | refine BS.ne (fun h => ?_) (fun h => ?_) | refine BS.n ?_ | refine BS.s (fun h => ?_) (fun h => ?_) | refine And.intro ?_ ?_ | (refine Need.mk ?_; first | with_reducible rfl | (show @Eq TC _ _; rfl) | omega | (simp only [adN_zero]; omega)) | exact OutS.whole rfl rfl | refine ListO.go gOk hE ?_))
      all_goals (refine ⟨i + 1, (by refine leT.of ?_ ?_ rfl <;> repeat' (first | exact trivial | refine And.intro rfl ?_ | refine And.intro (by simp) ?_)), ?_⟩; (refine And.intro ?_ ?_) <;> (first | omega | (dsimp only; omega) | trivial))
theorem Cmds_of {e e' n : Nat} {row : Nat → Nat → C} (hn : n ≤ 9223372036854775807) (h : ∀ i r t, i < n → ([Dt.i, Dt.i, Dt.i] : List Dt)[r]? = some t → DtOk t (row i r)) : ∃ xs : List CmdT, xs.length = n ∧ (∀ x ∈ xs, (-9223372036854775808 ≤ x.1 ∧ x.1 ≤ 9223372036854775807) ∧ (-9223372036854775808 ≤ x.2.1 ∧ x.2.1 ≤ 9223372036854775807) ∧ (-9223372036854775808 ≤ x.2.2 ∧ x.2.2 ≤ 9223372036854775807)) ∧ CSame (.sl .fro e 3 n row) ((tCmd e' xs).er .fro) :=
  list_of decCmd zCmd 3 (fun f hf => by
    obtain ⟨z0, hz0, w0⟩ := (hf 0 .i rfl).int
    obtain ⟨z1, hz1, w1⟩ := (hf 1 .i rfl).int
    obtain ⟨z2, hz2, w2⟩ := (hf 2 .i rfl).int
    refine ⟨(z0, z1, z2), ⟨w0, w1, w2⟩, fun r hr => ?_⟩
    match r, hr with
    | 0, _ => rw [hz0]; exact rfl
    | 1, _ => rw [hz1]; exact rfl
    | 2, _ => rw [hz2]; exact rfl
    ) h
end Go.Proofs.Ythfcpaplnifhiaa
end

section
namespace Go.Proofs.Ythfcpaplnifhiaa
open Go Go.Tr
set_option maxRecDepth 100000
set_option maxHeartbeats 1000000
set_option linter.unusedVariables false
set_option linter.unusedSimpArgs false
def cmOk (x : CmdT) : Bool := decide ((0 ≤ x.2.1 ∧ x.2.1 ≤ 99) ∧ (((x.1 = 2 ∨ x.1 = 4) ∧ 0 ≤ x.2.2 ∧ x.2.2 ≤ 65535) ∨ ((x.1 = 1 ∨ x.1 = 3) ∧ x.2.2 = 0)))
theorem CmdOkS_run (x : CmdT) : RunT Try.prog 98 [aCmd x] [] [ob (cmOk x)] [] := by
  unfold cmOk
  refine RunT.of_vc gOk Try.func98 rfl rfl (Nat.le_of_ble_eq_true rfl) (by repeat' (first | exact trivial | exact ⟨_, rfl, Nat.le_refl _⟩ | exact Nat.le_of_ble_eq_true rfl | refine And.intro ?_ ?_)) (Nat.le_of_ble_eq_true rfl) rfl (fun F hE => ?_)
  repeat' (first | exact trivial | refine BS.d (fun h => ?_) (fun h => ?_) | refine BS.e (fun h => ?_) (fun h => ?_) | refine BS.ne (fun h => ?_) (fun h => ?_) | refine BS.n ?_ | refine BS.s (fun h => ?_) (fun h => ?_) | refine And.intro ?_ ?_ | (refine Need.mk ?_; first | with_reducible rfl | (show @Eq TC _ _; rfl) | omega | (simp only [adN_zero]; omega)) | exact OutS.whole rfl rfl | (refine OpK.call (l1In_run ?_ ?_ ?_) rfl rfl rfl rfl hE ?_ rfl rfl ?_; rotate_left 3; focus ((repeat' (first | exact PsA.lit _ | exact PsA.ref rfl rfl | constructor)); all_goals (fail "ps"))) | refine ListO.go gOk hE ?_)
  all_goals (refine Need.mk ?_; first | rfl | (symm; apply decide_eq_true; omega) | (symm; apply decide_eq_false; omega) | (apply decide_eq_decide.2; omega) | (simp only [beq_iff_eq, Bool.beq_eq_decide_eq] at *; apply decide_eq_decide.2; omega) | (simp; omega))
theorem CmdOkI_run (x : CmdT) : RunT Try.prog 100 [aCmd x] [] [ob (cmOk x)] [] := by
  unfold cmOk
  refine RunT.of_vc gOk Try.func100 rfl rfl (Nat.le_of_ble_eq_true rfl) (by repeat' (first | exact trivial | exact ⟨_, rfl, Nat.le_refl _⟩ | exact Nat.le_of_ble_eq_true rfl | refine And.intro ?_ ?_)) (Nat.le_of_ble_eq_true rfl) rfl (fun F hE => ?_)
  repeat' (first | exact trivial | refine BS.d (fun h => ?_) (fun h => ?_) | refine BS.e (fun h => ?_) (fun h => ?_) | refine BS.ne (fun h => ?_) (fun h => ?_) | refine BS.n ?_ | refine BS.s (fun h => ?_) (fun h => ?_) | refine And.intro ?_ ?_ | (refine Need.mk ?_; first | with_reducible rfl | (show @Eq TC _ _; rfl) | omega | (simp only [adN_zero]; omega)) | exact OutS.whole rfl rfl | (refine OpK.call (keyOk_run ?_) rfl rfl rfl rfl hE ?_ rfl rfl ?_; rotate_left 1; focus ((repeat' (first | exact PsA.lit _ | exact PsA.ref rfl rfl | constructor)); all_goals (fail "ps"))) | (refine OpK.call (valOk_run ?_) rfl rfl rfl rfl hE ?_ rfl rfl ?_; rotate_left 1; focus ((repeat' (first | exact PsA.lit _ | exact PsA.ref rfl rfl | constructor)); all_goals (fail "ps"))) | refine ListO.go gOk hE ?_)
  all_goals (refine Need.mk ?_; first | rfl | (symm; apply decide_eq_true; omega) | (symm; apply decide_eq_false; omega) | (apply decide_eq_decide.2; omega) | (simp only [beq_iff_eq, Bool.beq_eq_decide_eq] at *; apply decide_eq_decide.2; omega) | (simp; omega))
end Go.Proofs.Ythfcpaplnifhiaa
end

section
namespace Go.Proofs.Ythfcpaplnifhiaa
open Go Go.Tr
set_option maxRecDepth 100000
set_option linter.unusedVariables false
set_option linter.unusedSimpArgs false
theorem szResS_run (e : Nat) (xs : List ResT) (m : Int) (h0 : 0 ≤ m) (h1 : m ≤ 1048576) (hn : xs.length ≤ 9223372036854775807) : RunT Try.prog 139 [.one (.c (tRes e xs)), ti m] [] [oi (szI xs m)] [] := by
  refine RunT.of_vc gOk Try.func139 rfl rfl (Nat.le_of_ble_eq_true rfl) (by repeat' (first | exact trivial | exact ⟨_, rfl, Nat.le_refl _⟩ | exact Nat.le_of_ble_eq_true rfl | refine And.intro ?_ ?_)) (Nat.le_of_ble_eq_true rfl) rfl (fun F hE => ?_)
  repeat' (first | exact trivial | refine BS.d (fun h => ?_) (fun h => ?_) | refine BS.e (fun h => ?_) (fun h => ?_) | refine BS.ne (fun h => ?_) (fun h => ?_) | refine BS.n ?_ | refine BS.s (fun h => ?_) (fun h => ?_) | refine And.intro ?_ ?_ | (refine Need.mk ?_; first | with_reducible rfl | (show @Eq TC _ _; rfl) | omega | (simp only [adN_zero]; omega)) | exact OutS.whole rfl rfl | refine ListO.go gOk hE ?_)
  all_goals (refine Need.mk ?_; unfold szI; first | rw [if_pos (by omega)] | rw [if_neg (by omega)])
theorem toRes_run (x : ResT) : RunT Try.prog 163 [aRes x] [] [oRes x] [] := by
  refine RunT.of_vc gOk Try.func163 rfl rfl (Nat.le_of_ble_eq_true rfl) (by repeat' (first | exact trivial | exact ⟨_, rfl, Nat.le_refl _⟩ | exact Nat.le_of_ble_eq_true rfl | refine And.intro ?_ ?_)) (Nat.le_of_ble_eq_true rfl) rfl (fun F hE => ?_)
  repeat' (first | exact trivial | refine BS.d (fun h => ?_) (fun h => ?_) | refine BS.e (fun h => ?_) (fun h => ?_) | refine BS.ne (fun h => ?_) (fun h => ?_) | refine BS.n ?_ | refine BS.s (fun h => ?_) (fun h => ?_) | refine And.intro ?_ ?_ | (refine Need.mk ?_; first | with_reducible rfl | (show @Eq TC _ _; rfl) | omega | (simp only [adN_zero]; omega)) | exact OutS.whole rfl rfl | refine ListO.go gOk hE ?_)
theorem eqRes_run (x : ResT) : RunT Try.prog 33 [aRes x, aRes x] [] [ob true] [] := by
  refine RunT.of_vc gOk Try.func33 rfl rfl (Nat.le_of_ble_eq_true rfl) (by repeat' (first | exact trivial | exact ⟨_, rfl, Nat.le_refl _⟩ | exact Nat.le_of_ble_eq_true rfl | refine And.intro ?_ ?_)) (Nat.le_of_ble_eq_true rfl) rfl (fun F hE => ?_)
  repeat' (first | exact trivial | refine BS.d (fun h => ?_) (fun h => ?_) | refine BS.e (fun h => ?_) (fun h => ?_) | refine BS.ne (fun h => ?_) (fun h => ?_) | refine BS.n ?_ | refine BS.s (fun h => ?_) (fun h => ?_) | refine And.intro ?_ ?_ | (refine Need.mk ?_; first | with_reducible rfl | (show @Eq TC _ _; rfl) | omega | (simp only [adN_zero]; omega)) | exact OutS.whole rfl rfl | refine ListO.go gOk hE ?_)
  all_goals exact absurd rfl h
theorem toResS_run (e : Nat) (xs : List ResT) (hn : xs.length ≤ 1048576) : RunT Try.prog 143 [.one (.c (tRes e xs))] [] [.one (tRes 45 xs)] [] := by
  refine RunT.of_vc gOk Try.func143 rfl rfl (Nat.le_of_ble_eq_true rfl) (by repeat' (first | exact trivial | exact ⟨_, rfl, Nat.le_refl _⟩ | exact Nat.le_of_ble_eq_true rfl | refine And.intro ?_ ?_)) (Nat.le_of_ble_eq_true rfl) rfl (fun F hE => ?_)
  repeat' (first | exact trivial | refine BS.d (fun h => ?_) (fun h => ?_) | refine BS.e (fun h => ?_) (fun h => ?_) | refine BS.ne (fun h => ?_) (fun h => ?_) | refine BS.n ?_ | refine BS.s (fun h => ?_) (fun h => ?_) | refine And.intro ?_ ?_ | (refine Need.mk ?_; first | with_reducible rfl | (show @Eq TC _ _; rfl) | omega | (simp only [adN_zero]; omega)) | exact OutS.whole rfl rfl | refine ListO.go gOk hE ?_)
  refine CodeK.loop gOk hE (fun i : Nat => ⟨[(0, vr 1000000 xs.length), (3, vr 7 xs.length), (4, vi i)], [(7, rRes .own true 45 (fl zRes xs i)), (1000000, rRes .fro false e xs)]⟩) (fun i => i ≤ xs.length) (fun i => xs.length - i) 0 (by refine leT.of ?_ ?_ rfl <;> repeat' (first | exact trivial | refine And.intro rfl ?_ | refine And.intro (by simp [fl_zero] <;> rfl) ?_)) (Nat.zero_le _) ?_
  rintro i hi
  have hl := fl_len zRes xs i hi
  repeat' (first | exact trivial | refine BS.d (fun h => ?_) (fun h => ?_) | refine BS.e (fun h => ?_) (fun h => ?_) | refine BS.ne (fun h => ?_) (fun h => ?_) | refine BS.n ?_ | refine BS.s (fun h => ?_) (fun h => ?_) | refine And.intro ?_ ?_ | (refine Need.mk ?_; first | with_reducible rfl | (show @Eq TC _ _; rfl) | omega | (simp only [adN_zero]; omega)) | exact OutS.whole rfl rfl | refine ListO.go gOk hE ?_)
  · refine OpK.call (toRes_run (xs.getD i zRes)) rfl rfl rfl rfl hE (by repeat' (first | exact PsA.lit _ | exact PsA.ref rfl rfl | constructor)) rfl rfl ?_
    repeat' (first | exact trivial | refine BS.d (fun h => ?_) (fun h => ?_) | refine BS.e (fun h => ?_) (fun h => ?_) | refine BS.ne (fun h => ?_) (fun h => ?_) | refine BS.n ?_ | refine BS.s (fun h => ?_) (fun h => ?_) | refine And.intro ?_ ?_ | (refine Need.mk ?_; first | with_reducible rfl | (show @Eq TC _ _; rfl) | omega | (simp only [adN_zero]; omega)) | exact OutS.whole rfl rfl | refine ListO.go gOk hE ?_)
    all_goals (refine ⟨i + 1, (by refine leT.of ?_ ?_ rfl <;> repeat' (first | exact trivial | refine And.intro rfl ?_ | refine And.intro (by first | (rw [← fl_set zRes xs i (by omega)]; rfl) | (simp <;> rfl)) ?_)), ?_⟩; (refine And.intro ?_ ?_) <;> (first | omega | (dsimp only; omega) | trivial))
  · exact OutS.whole hl.symm (by rw [fl_full _ _ _ (by omega) hi]; rfl)
theorem eqResS_run (e : Nat) (xs : List ResT) (hn : xs.length ≤ 4000000) : RunT Try.prog 38 [.one (.c (tRes e xs)), .one (.c (tRes e xs))] [] [ob true] [] := by
  refine RunT.of_vc gOk Try.func38 rfl rfl (Nat.le_of_ble_eq_true rfl) (by repeat' (first | exact trivial | exact ⟨_, rfl, Nat.le_refl _⟩ | exact Nat.le_of_ble_eq_true rfl | refine And.intro ?_ ?_)) (Nat.le_of_ble_eq_true rfl) rfl (fun F hE => ?_)
  repeat' (first | exact trivial | refine BS.d (fun h => ?_) (fun h => ?_) | refine BS.e (fun h => ?_) (fun h => ?_) | refine BS.ne (fun h => ?_) (fun h => ?_) | refine BS.n ?_ | refine BS.s (fun h => ?_) (fun h => ?_) | refine And.intro ?_ ?_ | (refine Need.mk ?_; first | with_reducible rfl | (show @Eq TC _ _; rfl) | omega | (simp only [adN_zero]; omega)) | exact OutS.whole rfl rfl | refine ListO.go gOk hE ?_)
  · refine CodeK.loop gOk hE (fun i : Nat => ⟨[(0, vr 1000000 xs.length), (1, vr 1000001 xs.length), (5, vi i)], [(1000000, rRes .fro false e xs), (1000001, rRes .fro false e xs)]⟩) (fun i => i ≤ xs.length) (fun i => xs.length - i) 0 (by refine leT.of ?_ ?_ rfl <;> repeat' (first | exact trivial | refine And.intro rfl ?_ | refine And.intro (by simp) ?_)) (Nat.zero_le _) ?_
    rintro i hi
    repeat' (first | exact trivial | refine BS.d (fun h => ?_) (fun h => ?_) | refine BS.e (fun h => ?_) (fun h => ?_) | refine BS.ne (fun h => ?_) (fun h => ?_) | refine BS.n ?_ | refine BS.s (fun h => ?_) (fun h => ?_) | refine And.intro ?_ ?_ | (refine Need.mk ?_; first | with_reducible rfl | (show @Eq TC _ _; rfl) | omega | (simp only [adN_zero]; omega)) | exact OutS.whole rfl rfl | refine ListO.go gOk hE ?_)
    · refine CodeK.draw gOk hE rfl (fun _ _ h => h) (.take 0 (.take 1 (.take 2 (.take 4 (.take 5 (.take 6 (.alt 3 (.alt 7 (.alt 8 (.take 9 .done) .stop) .stop) (.alt 7 (.alt 3 (.alt 8 (.take 9 .done) .stop) .stop) .stop)))))))) (by decide +kernel) ?_
      repeat' (first | exact trivial | refine BS.d (fun h => ?_) (fun h => ?_) | refine BS.e (fun h => ?_) (fun h => ?_) | refine BS.ne (fun h => ?_) (fun h => ?_) | refine BS.n ?_ | refine BS.s (fun h => ?_) (fun h => ?_) | refine And.intro ?_ ?_ | (refine Need.mk ?_; first | with_reducible rfl | (show @Eq TC _ _; rfl) | omega | (simp only [adN_zero]; omega)) | exact OutS.whole rfl rfl | refine ListO.go gOk hE ?_)
      all_goals (refine OpK.call (eqRes_run _) rfl rfl rfl rfl hE (by repeat' (first | exact PsA.lit _ | exact PsA.ref rfl rfl | constructor)) rfl rfl ?_)
      all_goals (repeat' (first | exact trivial | refine BS.d (fun h => ?_) (fun h => ?_) | refine BS.e (fun h => ?_) (fun h => ?_) | refine BS.ne (fun h => ?_) (fun h => ?_) | refine BS.n ?_ | refine BS.s (fun h => ?_) (fun h => ?_) | refine And.intro ?_ ?_ | (refine Need.mk ?_; first | with_reducible rfl | (show @Eq TC _ _; rfl) | omega | (simp only [adN_zero]; omega)) | exact OutS.whole rfl rfl | refine ListO.go gOk hE ?_))
      all_goals (refine ⟨i + 1, (by refine leT.of ?_ ?_ rfl <;> repeat' (first | exact trivial | refine And.intro rfl ?_ | refine And.intro (by simp) ?_)), ?_⟩; (refine And.intro ?_ ?_) <;> (first | omega | (dsimp only; omega) | trivial))
theorem Ress_of {e e' n : Nat} {row : Nat → Nat → C} (hn : n ≤ 9223372036854775807) (h : ∀ i r t, i < n → ([Dt.b, Dt.i] : List Dt)[r]? = some t → DtOk t (row i r)) : ∃ xs : List ResT, xs.length = n ∧ (∀ x ∈ xs, True ∧ (-9223372036854775808 ≤ x.2 ∧ x.2 ≤ 9223372036854775807)) ∧ CSame (.sl .fro e 2 n row) ((tRes e' xs).er .fro) :=
  list_of decRes zRes 2 (fun f hf => by
    obtain ⟨z0, hz0⟩ := (hf 0 .b rfl).bool
    obtain ⟨z1, hz1, w1⟩ := (hf 1 .i rfl).int
    refine ⟨(z0, z1), ⟨trivial, w1⟩, fun r hr => ?_⟩
    match r, hr with
    | 0, _ => rw [hz0]; exact rfl
    | 1, _ => rw [hz1]; exact rfl
    ) h
end Go.Proofs.Ythfcpaplnifhiaa
end

section
/- CmdDo in both packages. -/
namespace Go.Proofs.Ythfcpaplnifhiaa
open Go Go.Tr
set_option maxRecDepth 100000
set_option maxHeartbeats 4000000
set_option linter.unusedVariables false
set_option linter.unusedSimpArgs false
theorem and_mask {x : Int} (h0 : 0 ≤ x) (h1 : x ≤ 9223372036854775807) : wr .i64 ((BitVec.ofInt IntKind.i64.bits x &&& BitVec.ofInt IntKind.i64.bits 65535).toNat) = x % 65536 := by
  obtain ⟨n, rfl⟩ := Int.eq_ofNat_of_zero_le h0
  have e : ((BitVec.ofInt IntKind.i64.bits (n : Int) &&& BitVec.ofInt IntKind.i64.bits 65535).toNat) = n % 65536 := by
    show ((BitVec.ofInt 64 (n : Int) &&& BitVec.ofInt 64 65535).toNat) = n % 65536
    rw [BitVec.toNat_and, BitVec.toNat_ofInt, BitVec.toNat_ofInt]
    have e1 : (((n : Int) % ((2 ^ 64 : Nat) : Int)).toNat) = n := by omega
    have e2 : (((65535 : Int) % ((2 ^ 64 : Nat) : Int)).toNat) = 2 ^ 16 - 1 := by decide
    rw [e1, e2, Nat.and_two_pow_sub_one_eq_mod]
  rw [e, wr_in (by omega)]
  omega
theorem sumOf_run (a b : Int) (ha : 0 ≤ a ∧ a ≤ 65535) (hb : 0 ≤ b ∧ b ≤ 65535) : RunT Try.prog 102 [ti a, ti b] [] [oi ((a + b) % 65536)] [] := by
  refine RunT.of_vc gOk Try.func102 rfl rfl (Nat.le_of_ble_eq_true rfl) (by repeat' (first | exact trivial | exact ⟨_, rfl, Nat.le_refl _⟩ | exact Nat.le_of_ble_eq_true rfl | refine And.intro ?_ ?_)) (Nat.le_of_ble_eq_true rfl) rfl (fun F hE => ?_)
  repeat' (first | exact trivial | refine BS.d (fun h => ?_) (fun h => ?_) | refine BS.e (fun h => ?_) (fun h => ?_) | refine BS.ne (fun h => ?_) (fun h => ?_) | refine BS.n ?_ | refine BS.s (fun h => ?_) (fun h => ?_) | refine And.intro ?_ ?_ | (refine Need.mk ?_; first | with_reducible rfl | (show @Eq TC _ _; rfl) | omega | (simp only [adN_zero]; omega)) | exact OutS.whole rfl rfl | refine ListO.go gOk hE ?_)
  all_goals first
    | exact Need.mk trivial
    | (refine Need.mk ?_; exact and_mask (by omega) (by omega))
    | trace_state
theorem l21Sum_run (a b : Int) (ha : 0 ≤ a ∧ a ≤ 65535) (hb : 0 ≤ b ∧ b ≤ 65535) : RunT Try.prog 99 [ti a, ti b] [] [oi ((a + b) % 65536)] [] := by
  have e1 : a.tmod 65536 = a := by rw [Int.tmod_eq_emod_of_nonneg ha.1]; omega
  have e2 : b.tmod 65536 = b := by rw [Int.tmod_eq_emod_of_nonneg hb.1]; omega
  have e3 : (a + b + 65536).tmod 65536 = (a + b) % 65536 := by rw [Int.tmod_eq_emod_of_nonneg (by omega)]; omega
  refine RunT.of_vc gOk Try.func99 rfl rfl (Nat.le_of_ble_eq_true rfl) (by repeat' (first | exact trivial | exact ⟨_, rfl, Nat.le_refl _⟩ | exact Nat.le_of_ble_eq_true rfl | refine And.intro ?_ ?_)) (Nat.le_of_ble_eq_true rfl) rfl (fun F hE => ?_)
  repeat' (first | exact trivial | refine BS.d (fun h => ?_) (fun h => ?_) | refine BS.e (fun h => ?_) (fun h => ?_) | refine BS.ne (fun h => ?_) (fun h => ?_) | refine BS.n ?_ | refine BS.s (fun h => ?_) (fun h => ?_) | refine And.intro ?_ ?_ | (refine Need.mk ?_; first | with_reducible rfl | (show @Eq TC _ _; rfl) | omega | (simp only [adN_zero]; omega)) | exact OutS.whole rfl rfl | refine ListO.go gOk hE ?_)
  all_goals (rw [e1, e2])
  all_goals first
    | (refine Need.mk ?_; omega)
    | (refine Need.mk ?_; exact e3)
    | trace_state
theorem mget_bd {xs : List KVT} (k : Int) (h : allP xs.length (pmo xs) = true) : 0 ≤ (mget xs k).1 ∧ (mget xs k).1 ≤ 65535 := by
  have hp : ∀ j, j < xs.length → pmo xs j := by
    intro j hj
    refine Classical.byContradiction fun hn => ?_
    rw [allP_false hj hn] at h; cases h
  unfold mget
  cases hq : firstP (pk xs k) 0 xs.length with
  | none => exact ⟨Int.le_refl _, by show (0 : Int) ≤ 65535; decide⟩
  | some j =>
    have hj : j < xs.length := by
      have : ∀ (m i j : Nat) (p : Nat → Bool), firstP p i m = some j → j < i + m := by
        intro m
        induction m with
        | zero => intro i j p h; cases h
        | succ m ih =>
          intro i j p h
          unfold firstP at h
          split at h
          · injection h with h; omega
          · have := ih _ _ _ h; omega
      have := this _ _ _ _ hq; omega
    exact (hp j hj).2.1
noncomputable def cdOk (xs : List KVT) (c : CmdT) : Bool := allP xs.length (pmo xs) && cmOk c
noncomputable def cdM (xs : List KVT) (c : CmdT) : List KVT := if cdOk xs c = true then (if c.1 = 2 then mput xs c.2.1 c.2.2 else if c.1 = 3 then mdel xs c.2.1 else if c.1 = 4 then mput xs c.2.1 (((mget xs c.2.1).1 + c.2.2) % 65536) else xs) else xs
noncomputable def cdR (xs : List KVT) (c : CmdT) : ResT := if cdOk xs c = true then (if c.1 = 2 then (false, 0) else if c.1 = 3 then (false, 0) else if c.1 = 4 then (true, ((mget xs c.2.1).1 + c.2.2) % 65536) else ((mget xs c.2.1).2, (mget xs c.2.1).1)) else (false, 0)
theorem cdM_le (xs : List KVT) (c : CmdT) : (cdM xs c).length ≤ xs.length + 1 := by
  unfold cdM
  have h1 := mput_le xs c.2.1 c.2.2
  have h2 := mput_le xs c.2.1 (((mget xs c.2.1).1 + c.2.2) % 65536)
  have h3 := mdel_le xs c.2.1
  split <;> (try split) <;> (try split) <;> (try split) <;> omega
theorem CmdDoI_run (e : Nat) (xs : List KVT) (c : CmdT) (hn : xs.length ≤ 1048576) : RunT Try.prog 32 [.one (.c (tKV e xs)), aCmd c] [] [.one (tKV 120 (cdM xs c)), oRes (cdR xs c)] [] := by
  have c1 := MapOkI_run e xs hn
  have c2 := CmdOkI_run c
  have c3 := CloneKV_run e xs hn
  unfold cdM cdR cdOk
  cases hm : allP xs.length (pmo xs) with
  | false =>
    rw [hm] at c1
    simp only [Bool.false_and, Bool.false_eq_true, if_false]
    generalize cmOk c = q at *
    refine RunT.of_vc gOk Try.func32 rfl rfl (Nat.le_of_ble_eq_true rfl) (by repeat' (first | exact trivial | exact ⟨_, rfl, Nat.le_refl _⟩ | exact Nat.le_of_ble_eq_true rfl | refine And.intro ?_ ?_)) (Nat.le_of_ble_eq_true rfl) rfl (fun F hE => ?_)
    repeat' (first | exact trivial | refine BS.d (fun h => ?_) (fun h => ?_) | refine BS.e (fun h => ?_) (fun h => ?_) | refine BS.ne (fun h => ?_) (fun h => ?_) | refine BS.n ?_ | refine BS.s (fun h => ?_) (fun h => ?_) | refine And.intro ?_ ?_ | (refine Need.mk ?_; first | with_reducible rfl | (show @Eq TC _ _; rfl) | omega | (simp only [adN_zero]; omega)) | exact OutS.whole rfl rfl | (refine OpK.call c1 rfl rfl rfl rfl hE ?_ rfl rfl ?_; focus ((repeat' (first | exact PsA.lit _ | exact PsA.ref rfl rfl | constructor)); all_goals (fail "ps"))) | (refine OpK.call c2 rfl rfl rfl rfl hE ?_ rfl rfl ?_; focus ((repeat' (first | exact PsA.lit _ | exact PsA.ref rfl rfl | constructor)); all_goals (fail "ps"))) | (refine OpK.call c3 rfl rfl rfl rfl hE ?_ rfl rfl ?_; focus ((repeat' (first | exact PsA.lit _ | exact PsA.ref rfl rfl | constructor)); all_goals (fail "ps"))) | refine ListO.go gOk hE ?_)
    all_goals first | exact Need.mk rfl | exact OutS.whole rfl rfl | (exfalso; simp_all; done) | trace_state
  | true =>
    rw [hm] at c1
    cases hq : cmOk c with
    | false =>
      rw [hq] at c2
      simp only [Bool.and_false, Bool.false_eq_true, if_false]
      refine RunT.of_vc gOk Try.func32 rfl rfl (Nat.le_of_ble_eq_true rfl) (by repeat' (first | exact trivial | exact ⟨_, rfl, Nat.le_refl _⟩ | exact Nat.le_of_ble_eq_true rfl | refine And.intro ?_ ?_)) (Nat.le_of_ble_eq_true rfl) rfl (fun F hE => ?_)
      repeat' (first | exact trivial | refine BS.d (fun h => ?_) (fun h => ?_) | refine BS.e (fun h => ?_) (fun h => ?_) | refine BS.ne (fun h => ?_) (fun h => ?_) | refine BS.n ?_ | refine BS.s (fun h => ?_) (fun h => ?_) | refine And.intro ?_ ?_ | (refine Need.mk ?_; first | with_reducible rfl | (show @Eq TC _ _; rfl) | omega | (simp only [adN_zero]; omega)) | exact OutS.whole rfl rfl | (refine OpK.call c1 rfl rfl rfl rfl hE ?_ rfl rfl ?_; focus ((repeat' (first | exact PsA.lit _ | exact PsA.ref rfl rfl | constructor)); all_goals (fail "ps"))) | (refine OpK.call c2 rfl rfl rfl rfl hE ?_ rfl rfl ?_; focus ((repeat' (first | exact PsA.lit _ | exact PsA.ref rfl rfl | constructor)); all_goals (fail "ps"))) | (refine OpK.call c3 rfl rfl rfl rfl hE ?_ rfl rfl ?_; focus ((repeat' (first | exact PsA.lit _ | exact PsA.ref rfl rfl | constructor)); all_goals (fail "ps"))) | refine ListO.go gOk hE ?_)
      all_goals first | exact Need.mk rfl | exact OutS.whole rfl rfl | (exfalso; simp_all; done) | trace_state
    | true =>
      rw [hq] at c2
      simp only [Bool.and_self, if_true]
      unfold cmOk at hq
      simp only [decide_eq_true_eq] at hq
      have hb := mget_bd c.2.1 hm
      have c4 := MapGetI_run e xs c.2.1 (by omega) hn
      have c5 := MapPutI_run e xs c.2.1 c.2.2 hn
      have c6 := MapDelI_run e xs c.2.1 hn
      have c7 := sumOf_run (mget xs c.2.1).1 c.2.2 hb (by omega)
      have c8 := MapPutI_run e xs c.2.1 (((mget xs c.2.1).1 + c.2.2) % 65536) hn
      generalize mput xs c.2.1 (((mget xs c.2.1).1 + c.2.2) % 65536) = r1 at *
      generalize ((mget xs c.2.1).1 + c.2.2) % 65536 = r2 at *
      generalize mput xs c.2.1 c.2.2 = r3 at *
      generalize mdel xs c.2.1 = r4 at *
      generalize (mget xs c.2.1).1 = r5 at *
      generalize (mget xs c.2.1).2 = r6 at *
      by_cases k2 : c.1 = 2
      · simp only [if_pos k2]
        refine RunT.of_vc gOk Try.func32 rfl rfl (Nat.le_of_ble_eq_true rfl) (by repeat' (first | exact trivial | exact ⟨_, rfl, Nat.le_refl _⟩ | exact Nat.le_of_ble_eq_true rfl | refine And.intro ?_ ?_)) (Nat.le_of_ble_eq_true rfl) rfl (fun F hE => ?_)
        repeat' (first | exact trivial | refine BS.d (fun h => ?_) (fun h => ?_) | refine BS.e (fun h => ?_) (fun h => ?_) | refine BS.ne (fun h => ?_) (fun h => ?_) | refine BS.n ?_ | refine BS.s (fun h => ?_) (fun h => ?_) | refine And.intro ?_ ?_ | (refine Need.mk ?_; first | with_reducible rfl | (show @Eq TC _ _; rfl) | omega | (simp only [adN_zero]; omega)) | exact OutS.whole rfl rfl | (refine OpK.call c1 rfl rfl rfl rfl hE ?_ rfl rfl ?_; focus ((repeat' (first | exact PsA.lit _ | exact PsA.ref rfl rfl | constructor)); all_goals (fail "ps"))) | (refine OpK.call c2 rfl rfl rfl rfl hE ?_ rfl rfl ?_; focus ((repeat' (first | exact PsA.lit _ | exact PsA.ref rfl rfl | constructor)); all_goals (fail "ps"))) | (refine OpK.call c3 rfl rfl rfl rfl hE ?_ rfl rfl ?_; focus ((repeat' (first | exact PsA.lit _ | exact PsA.ref rfl rfl | constructor)); all_goals (fail "ps"))) | (refine OpK.call c4 rfl rfl rfl rfl hE ?_ rfl rfl ?_; focus ((repeat' (first | exact PsA.lit _ | exact PsA.ref rfl rfl | constructor)); all_goals (fail "ps"))) | (refine OpK.call c5 rfl rfl rfl rfl hE ?_ rfl rfl ?_; focus ((repeat' (first | exact PsA.lit _ | exact PsA.ref rfl rfl | constructor)); all_goals (fail "ps"))) | (refine OpK.call c6 rfl rfl rfl rfl hE ?_ rfl rfl ?_; focus ((repeat' (first | exact PsA.lit _ | exact PsA.ref rfl rfl | constructor)); all_goals (fail "ps"))) | refine ListO.go gOk hE ?_)
        all_goals first | (exfalso; omega) | exact Need.mk rfl | exact OutS.whole rfl rfl | trace_state
      · by_cases k3 : c.1 = 3
        · simp only [if_neg k2, if_pos k3]
          refine RunT.of_vc gOk Try.func32 rfl rfl (Nat.le_of_ble_eq_true rfl) (by repeat' (first | exact trivial | exact ⟨_, rfl, Nat.le_refl _⟩ | exact Nat.le_of_ble_eq_true rfl | refine And.intro ?_ ?_)) (Nat.le_of_ble_eq_true rfl) rfl (fun F hE => ?_)
          repeat' (first | exact trivial | refine BS.d (fun h => ?_) (fun h => ?_) | refine BS.e (fun h => ?_) (fun h => ?_) | refine BS.ne (fun h => ?_) (fun h => ?_) | refine BS.n ?_ | refine BS.s (fun h => ?_) (fun h => ?_) | refine And.intro ?_ ?_ | (refine Need.mk ?_; first | with_reducible rfl | (show @Eq TC _ _; rfl) | omega | (simp only [adN_zero]; omega)) | exact OutS.whole rfl rfl | (refine OpK.call c1 rfl rfl rfl rfl hE ?_ rfl rfl ?_; focus ((repeat' (first | exact PsA.lit _ | exact PsA.ref rfl rfl | constructor)); all_goals (fail "ps"))) | (refine OpK.call c2 rfl rfl rfl rfl hE ?_ rfl rfl ?_; focus ((repeat' (first | exact PsA.lit _ | exact PsA.ref rfl rfl | constructor)); all_goals (fail "ps"))) | (refine OpK.call c3 rfl rfl rfl rfl hE ?_ rfl rfl ?_; focus ((repeat' (first | exact PsA.lit _ | exact PsA.ref rfl rfl | constructor)); all_goals (fail "ps"))) | (refine OpK.call c4 rfl rfl rfl rfl hE ?_ rfl rfl ?_; focus ((repeat' (first | exact PsA.lit _ | exact PsA.ref rfl rfl | constructor)); all_goals (fail "ps"))) | (refine OpK.call c5 rfl rfl rfl rfl hE ?_ rfl rfl ?_; focus ((repeat' (first | exact PsA.lit _ | exact PsA.ref rfl rfl | constructor)); all_goals (fail "ps"))) | (refine OpK.call c6 rfl rfl rfl rfl hE ?_ rfl rfl ?_; focus ((repeat' (first | exact PsA.lit _ | exact PsA.ref rfl rfl | constructor)); all_goals (fail "ps"))) | refine ListO.go gOk hE ?_)
          all_goals first | (exfalso; omega) | exact Need.mk rfl | exact OutS.whole rfl rfl | trace_state
        · by_cases k4 : c.1 = 4
          · simp only [if_neg k2, if_neg k3, if_pos k4]
            refine RunT.of_vc gOk Try.func32 rfl rfl (Nat.le_of_ble_eq_true rfl) (by repeat' (first | exact trivial | exact ⟨_, rfl, Nat.le_refl _⟩ | exact Nat.le_of_ble_eq_true rfl | refine And.intro ?_ ?_)) (Nat.le_of_ble_eq_true rfl) rfl (fun F hE => ?_)
            repeat' (first | exact trivial | refine BS.d (fun h => ?_) (fun h => ?_) | refine BS.e (fun h => ?_) (fun h => ?_) | refine BS.ne (fun h => ?_) (fun h => ?_) | refine BS.n ?_ | refine BS.s (fun h => ?_) (fun h => ?_) | refine And.intro ?_ ?_ | (refine Need.mk ?_; first | with_reducible rfl | (show @Eq TC _ _; rfl) | omega | (simp only [adN_zero]; omega)) | exact OutS.whole rfl rfl | (refine OpK.call c1 rfl rfl rfl rfl hE ?_ rfl rfl ?_; focus ((repeat' (first | exact PsA.lit _ | exact PsA.ref rfl rfl | constructor)); all_goals (fail "ps"))) | (refine OpK.call c2 rfl rfl rfl rfl hE ?_ rfl rfl ?_; focus ((repeat' (first | exact PsA.lit _ | exact PsA.ref rfl rfl | constructor)); all_goals (fail "ps"))) | (refine OpK.call c3 rfl rfl rfl rfl hE ?_ rfl rfl ?_; focus ((repeat' (first | exact PsA.lit _ | exact PsA.ref rfl rfl | constructor)); all_goals (fail "ps"))) | (refine OpK.call c4 rfl rfl rfl rfl hE ?_ rfl rfl ?_; focus ((repeat' (first | exact PsA.lit _ | exact PsA.ref rfl rfl | constructor)); all_goals (fail "ps"))) | (refine OpK.call c5 rfl rfl rfl rfl hE ?_ rfl rfl ?_; focus ((repeat' (first | exact PsA.lit _ | exact PsA.ref rfl rfl | constructor)); all_goals (fail "ps"))) | (refine OpK.call c6 rfl rfl rfl rfl hE ?_ rfl rfl ?_; focus ((repeat' (first | exact PsA.lit _ | exact PsA.ref rfl rfl | constructor)); all_goals (fail "ps"))) | (refine OpK.call c7 rfl rfl rfl rfl hE ?_ rfl rfl ?_; focus ((repeat' (first | exact PsA.lit _ | exact PsA.ref rfl rfl | constructor)); all_goals (fail "ps"))) | (refine OpK.call c8 rfl rfl rfl rfl hE ?_ rfl rfl ?_; focus ((repeat' (first | exact PsA.lit _ | exact PsA.ref rfl rfl | constructor)); all_goals (fail "ps"))) | refine ListO.go gOk hE ?_)
            all_goals first | (exfalso; omega) | exact Need.mk rfl | exact OutS.whole rfl rfl | trace_state
          · simp only [if_neg k2, if_neg k3, if_neg k4]
            refine RunT.of_vc gOk Try.func32 rfl rfl (Nat.le_of_ble_eq_true rfl) (by repeat' (first | exact trivial | exact ⟨_, rfl, Nat.le_refl _⟩ | exact Nat.le_of_ble_eq_true rfl | refine And.intro ?_ ?_)) (Nat.le_of_ble_eq_true rfl) rfl (fun F hE => ?_)
            repeat' (first | exact trivial | refine BS.d (fun h => ?_) (fun h => ?_) | refine BS.e (fun h => ?_) (fun h => ?_) | refine BS.ne (fun h => ?_) (fun h => ?_) | refine BS.n ?_ | refine BS.s (fun h => ?_) (fun h => ?_) | refine And.intro ?_ ?_ | (refine Need.mk ?_; first | with_reducible rfl | (show @Eq TC _ _; rfl) | omega | (simp only [adN_zero]; omega)) | exact OutS.whole rfl rfl | (refine OpK.call c1 rfl rfl rfl rfl hE ?_ rfl rfl ?_; focus ((repeat' (first | exact PsA.lit _ | exact PsA.ref rfl rfl | constructor)); all_goals (fail "ps"))) | (refine OpK.call c2 rfl rfl rfl rfl hE ?_ rfl rfl ?_; focus ((repeat' (first | exact PsA.lit _ | exact PsA.ref rfl rfl | constructor)); all_goals (fail "ps"))) | (refine OpK.call c3 rfl rfl rfl rfl hE ?_ rfl rfl ?_; focus ((repeat' (first | exact PsA.lit _ | exact PsA.ref rfl rfl | constructor)); all_goals (fail "ps"))) | (refine OpK.call c4 rfl rfl rfl rfl hE ?_ rfl rfl ?_; focus ((repeat' (first | exact PsA.lit _ | exact PsA.ref rfl rfl | constructor)); all_goals (fail "ps"))) | (refine OpK.call c5 rfl rfl rfl rfl hE ?_ rfl rfl ?_; focus ((repeat' (first | exact PsA.lit _ | exact PsA.ref rfl rfl | constructor)); all_goals (fail "ps"))) | (refine OpK.call c6 rfl rfl rfl rfl hE ?_ rfl rfl ?_; focus ((repeat' (first | exact PsA.lit _ | exact PsA.ref rfl rfl | constructor)); all_goals (fail "ps"))) | (refine OpK.call c7 rfl rfl rfl rfl hE ?_ rfl rfl ?_; focus ((repeat' (first | exact PsA.lit _ | exact PsA.ref rfl rfl | constructor)); all_goals (fail "ps"))) | (refine OpK.call c8 rfl rfl rfl rfl hE ?_ rfl rfl ?_; focus ((repeat' (first | exact PsA.lit _ | exact PsA.ref rfl rfl | constructor)); all_goals (fail "ps"))) | refine ListO.go gOk hE ?_)
            all_goals first | (exfalso; omega) | exact Need.mk rfl | exact OutS.whole rfl rfl | trace_state
end Go.Proofs.Ythfcpaplnifhiaa
end

section
/- CmdDo of spec. -/
namespace Go.Proofs.Ythfcpaplnifhiaa
open Go Go.Tr
set_option maxRecDepth 100000
set_option maxHeartbeats 4000000
set_option linter.unusedVariables false
set_option linter.unusedSimpArgs false
theorem CmdDoS_run (e : Nat) (xs : List KVT) (c : CmdT) (hn : xs.length ≤ 1048576) : RunT Try.prog 30 [.one (.c (tKV e xs)), aCmd c] [] [.one (tKV 120 (cdM xs c)), oRes (cdR xs c)] [] := by
  have c1 := MapOkS_run e xs hn
  have c2 := CmdOkS_run c
  unfold cdM cdR cdOk
  cases hm : allP xs.length (pmo xs) with
  | false =>
    rw [hm] at c1
    simp only [Bool.false_and, Bool.false_eq_true, if_false]
    generalize cmOk c = q at *
    refine RunT.of_vc gOk Try.func30 rfl rfl (Nat.le_of_ble_eq_true rfl) (by repeat' (first | exact trivial | exact ⟨_, rfl, Nat.le_refl _⟩ | exact Nat.le_of_ble_eq_true rfl | refine And.intro ?_ ?_)) (Nat.le_of_ble_eq_true rfl) rfl (fun F hE => ?_)
    repeat' (first | exact trivial | refine BS.d (fun h => ?_) (fun h => ?_) | refine BS.e (fun h => ?_) (fun h => ?_) | refine BS.ne (fun h => ?_) (fun h => ?_) | refine BS.n ?_ | refine BS.s (fun h => ?_) (fun h => ?_) | refine And.intro ?_ ?_ | (refine Need.mk ?_; first | with_reducible rfl | (show @Eq TC _ _; rfl) | omega | (simp only [adN_zero]; omega)) | exact OutS.whole rfl rfl | (refine OpK.call c1 rfl rfl rfl rfl hE ?_ rfl rfl ?_; focus ((repeat' (first | exact PsA.lit _ | exact PsA.ref rfl rfl | constructor)); all_goals (fail "ps"))) | (refine OpK.call c2 rfl rfl rfl rfl hE ?_ rfl rfl ?_; focus ((repeat' (first | exact PsA.lit _ | exact PsA.ref rfl rfl | constructor)); all_goals (fail "ps"))) | (refine OpK.apps gOk rfl rfl rfl rfl rfl rfl rfl rfl rfl rfl rfl flatKV rfl ?_ ?_) | refine ListO.go gOk hE ?_)
    all_goals first | (refine ⟨?_, ?_⟩ <;> (try unfold maxLen) <;> (try simp only [List.length_nil]) <;> omega) | (unfold maxLen; simp only [List.length_nil]; omega) | (simp only [List.length_nil]; omega) | exact Need.mk rfl | exact OutS.whole rfl rfl | (exfalso; simp_all; done) | trace_state
  | true =>
    rw [hm] at c1
    cases hq : cmOk c with
    | false =>
      rw [hq] at c2
      simp only [Bool.and_false, Bool.false_eq_true, if_false]
      refine RunT.of_vc gOk Try.func30 rfl rfl (Nat.le_of_ble_eq_true rfl) (by repeat' (first | exact trivial | exact ⟨_, rfl, Nat.le_refl _⟩ | exact Nat.le_of_ble_eq_true rfl | refine And.intro ?_ ?_)) (Nat.le_of_ble_eq_true rfl) rfl (fun F hE => ?_)
      repeat' (first | exact trivial | refine BS.d (fun h => ?_) (fun h => ?_) | refine BS.e (fun h => ?_) (fun h => ?_) | refine BS.ne (fun h => ?_) (fun h => ?_) | refine BS.n ?_ | refine BS.s (fun h => ?_) (fun h => ?_) | refine And.intro ?_ ?_ | (refine Need.mk ?_; first | with_reducible rfl | (show @Eq TC _ _; rfl) | omega | (simp only [adN_zero]; omega)) | exact OutS.whole rfl rfl | (refine OpK.call c1 rfl rfl rfl rfl hE ?_ rfl rfl ?_; focus ((repeat' (first | exact PsA.lit _ | exact PsA.ref rfl rfl | constructor)); all_goals (fail "ps"))) | (refine OpK.call c2 rfl rfl rfl rfl hE ?_ rfl rfl ?_; focus ((repeat' (first | exact PsA.lit _ | exact PsA.ref rfl rfl | constructor)); all_goals (fail "ps"))) | (refine OpK.apps gOk rfl rfl rfl rfl rfl rfl rfl rfl rfl rfl rfl flatKV rfl ?_ ?_) | refine ListO.go gOk hE ?_)
      all_goals first | (refine ⟨?_, ?_⟩ <;> (try unfold maxLen) <;> (try simp only [List.length_nil]) <;> omega) | (unfold maxLen; simp only [List.length_nil]; omega) | (simp only [List.length_nil]; omega) | exact Need.mk rfl | exact OutS.whole rfl rfl | (exfalso; simp_all; done) | trace_state
    | true =>
      rw [hq] at c2
      simp only [Bool.and_self, if_true]
      unfold cmOk at hq
      simp only [decide_eq_true_eq] at hq
      have hb := mget_bd c.2.1 hm
      have c4 := MapGetS_run e xs c.2.1 (by omega) hn
      have c5 := MapPutS_run e xs c.2.1 c.2.2 (by omega)
      have c6 := MapDelS_run e xs c.2.1 (by omega)
      have c7 := l21Sum_run (mget xs c.2.1).1 c.2.2 hb (by omega)
      have c8 := MapPutS_run e xs c.2.1 (((mget xs c.2.1).1 + c.2.2) % 65536) (by omega)
      generalize mput xs c.2.1 (((mget xs c.2.1).1 + c.2.2) % 65536) = r1 at *
      generalize ((mget xs c.2.1).1 + c.2.2) % 65536 = r2 at *
      generalize mput xs c.2.1 c.2.2 = r3 at *
      generalize mdel xs c.2.1 = r4 at *
      generalize (mget xs c.2.1).1 = r5 at *
      generalize (mget xs c.2.1).2 = r6 at *
      by_cases k2 : c.1 = 2
      · simp only [if_pos k2]
        refine RunT.of_vc gOk Try.func30 rfl rfl (Nat.le_of_ble_eq_true rfl) (by repeat' (first | exact trivial | exact ⟨_, rfl, Nat.le_refl _⟩ | exact Nat.le_of_ble_eq_true rfl | refine And.intro ?_ ?_)) (Nat.le_of_ble_eq_true rfl) rfl (fun F hE => ?_)
        repeat' (first | exact trivial | refine BS.d (fun h => ?_) (fun h => ?_) | refine BS.e (fun h => ?_) (fun h => ?_) | refine BS.ne (fun h => ?_) (fun h => ?_) | refine BS.n ?_ | refine BS.s (fun h => ?_) (fun h => ?_) | refine And.intro ?_ ?_ | (refine Need.mk ?_; first | with_reducible rfl | (show @Eq TC _ _; rfl) | omega | (simp only [adN_zero]; omega)) | exact OutS.whole rfl rfl | (refine OpK.call c1 rfl rfl rfl rfl hE ?_ rfl rfl ?_; focus ((repeat' (first | exact PsA.lit _ | exact PsA.ref rfl rfl | constructor)); all_goals (fail "ps"))) | (refine OpK.call c2 rfl rfl rfl rfl hE ?_ rfl rfl ?_; focus ((repeat' (first | exact PsA.lit _ | exact PsA.ref rfl rfl | constructor)); all_goals (fail "ps"))) | (refine OpK.apps gOk rfl rfl rfl rfl rfl rfl rfl rfl rfl rfl rfl flatKV rfl ?_ ?_) | (refine OpK.call c4 rfl rfl rfl rfl hE ?_ rfl rfl ?_; focus ((repeat' (first | exact PsA.lit _ | exact PsA.ref rfl rfl | constructor)); all_goals (fail "ps"))) | (refine OpK.call c5 rfl rfl rfl rfl hE ?_ rfl rfl ?_; focus ((repeat' (first | exact PsA.lit _ | exact PsA.ref rfl rfl | constructor)); all_goals (fail "ps"))) | (refine OpK.call c6 rfl rfl rfl rfl hE ?_ rfl rfl ?_; focus ((repeat' (first | exact PsA.lit _ | exact PsA.ref rfl rfl | constructor)); all_goals (fail "ps"))) | refine ListO.go gOk hE ?_)
        all_goals first | (refine ⟨?_, ?_⟩ <;> (try unfold maxLen) <;> (try simp only [List.length_nil]) <;> omega) | (unfold maxLen; simp only [List.length_nil]; omega) | (simp only [List.length_nil]; omega) | (exfalso; omega) | exact Need.mk rfl | exact OutS.whole rfl rfl | trace_state
      · by_cases k3 : c.1 = 3
        · simp only [if_neg k2, if_pos k3]
          refine RunT.of_vc gOk Try.func30 rfl rfl (Nat.le_of_ble_eq_true rfl) (by repeat' (first | exact trivial | exact ⟨_, rfl, Nat.le_refl _⟩ | exact Nat.le_of_ble_eq_true rfl | refine And.intro ?_ ?_)) (Nat.le_of_ble_eq_true rfl) rfl (fun F hE => ?_)
          repeat' (first | exact trivial | refine BS.d (fun h => ?_) (fun h => ?_) | refine BS.e (fun h => ?_) (fun h => ?_) | refine BS.ne (fun h => ?_) (fun h => ?_) | refine BS.n ?_ | refine BS.s (fun h => ?_) (fun h => ?_) | refine And.intro ?_ ?_ | (refine Need.mk ?_; first | with_reducible rfl | (show @Eq TC _ _; rfl) | omega | (simp only [adN_zero]; omega)) | exact OutS.whole rfl rfl | (refine OpK.call c1 rfl rfl rfl rfl hE ?_ rfl rfl ?_; focus ((repeat' (first | exact PsA.lit _ | exact PsA.ref rfl rfl | constructor)); all_goals (fail "ps"))) | (refine OpK.call c2 rfl rfl rfl rfl hE ?_ rfl rfl ?_; focus ((repeat' (first | exact PsA.lit _ | exact PsA.ref rfl rfl | constructor)); all_goals (fail "ps"))) | (refine OpK.apps gOk rfl rfl rfl rfl rfl rfl rfl rfl rfl rfl rfl flatKV rfl ?_ ?_) | (refine OpK.call c4 rfl rfl rfl rfl hE ?_ rfl rfl ?_; focus ((repeat' (first | exact PsA.lit _ | exact PsA.ref rfl rfl | constructor)); all_goals (fail "ps"))) | (refine OpK.call c5 rfl rfl rfl rfl hE ?_ rfl rfl ?_; focus ((repeat' (first | exact PsA.lit _ | exact PsA.ref rfl rfl | constructor)); all_goals (fail "ps"))) | (refine OpK.call c6 rfl rfl rfl rfl hE ?_ rfl rfl ?_; focus ((repeat' (first | exact PsA.lit _ | exact PsA.ref rfl rfl | constructor)); all_goals (fail "ps"))) | refine ListO.go gOk hE ?_)
          all_goals first | (refine ⟨?_, ?_⟩ <;> (try unfold maxLen) <;> (try simp only [List.length_nil]) <;> omega) | (unfold maxLen; simp only [List.length_nil]; omega) | (simp only [List.length_nil]; omega) | (exfalso; omega) | exact Need.mk rfl | exact OutS.whole rfl rfl | trace_state
        · by_cases k4 : c.1 = 4
          · simp only [if_neg k2, if_neg k3, if_pos k4]
            refine RunT.of_vc gOk Try.func30 rfl rfl (Nat.le_of_ble_eq_true rfl) (by repeat' (first | exact trivial | exact ⟨_, rfl, Nat.le_refl _⟩ | exact Nat.le_of_ble_eq_true rfl | refine And.intro ?_ ?_)) (Nat.le_of_ble_eq_true rfl) rfl (fun F hE => ?_)
            repeat' (first | exact trivial | refine BS.d (fun h => ?_) (fun h => ?_) | refine BS.e (fun h => ?_) (fun h => ?_) | refine BS.ne (fun h => ?_) (fun h => ?_) | refine BS.n ?_ | refine BS.s (fun h => ?_) (fun h => ?_) | refine And.intro ?_ ?_ | (refine Need.mk ?_; first | with_reducible rfl | (show @Eq TC _ _; rfl) | omega | (simp only [adN_zero]; omega)) | exact OutS.whole rfl rfl | (refine OpK.call c1 rfl rfl rfl rfl hE ?_ rfl rfl ?_; focus ((repeat' (first | exact PsA.lit _ | exact PsA.ref rfl rfl | constructor)); all_goals (fail "ps"))) | (refine OpK.call c2 rfl rfl rfl rfl hE ?_ rfl rfl ?_; focus ((repeat' (first | exact PsA.lit _ | exact PsA.ref rfl rfl | constructor)); all_goals (fail "ps"))) | (refine OpK.apps gOk rfl rfl rfl rfl rfl rfl rfl rfl rfl rfl rfl flatKV rfl ?_ ?_) | (refine OpK.call c4 rfl rfl rfl rfl hE ?_ rfl rfl ?_; focus ((repeat' (first | exact PsA.lit _ | exact PsA.ref rfl rfl | constructor)); all_goals (fail "ps"))) | (refine OpK.call c5 rfl rfl rfl rfl hE ?_ rfl rfl ?_; focus ((repeat' (first | exact PsA.lit _ | exact PsA.ref rfl rfl | constructor)); all_goals (fail "ps"))) | (refine OpK.call c6 rfl rfl rfl rfl hE ?_ rfl rfl ?_; focus ((repeat' (first | exact PsA.lit _ | exact PsA.ref rfl rfl | constructor)); all_goals (fail "ps"))) | (refine OpK.call c7 rfl rfl rfl rfl hE ?_ rfl rfl ?_; focus ((repeat' (first | exact PsA.lit _ | exact PsA.ref rfl rfl | constructor)); all_goals (fail "ps"))) | (refine OpK.call c8 rfl rfl rfl rfl hE ?_ rfl rfl ?_; focus ((repeat' (first | exact PsA.lit _ | exact PsA.ref rfl rfl | constructor)); all_goals (fail "ps"))) | (refine CodeK.draw gOk hE rfl (fun _ _ h => h) (.take 0 (.take 1 (.take 3 (.take 4 (.take 8 (.take 9 (.alt 2 (.alt 5 (.alt 6 (.alt 7 (.alt 10 (.alt 11 (.take 13 (.alt 12 (.alt 14 .done .stop) .stop)) .stop) .stop) (.alt 10 (.alt 7 (.alt 11 (.take 13 (.alt 12 (.alt 14 .done .stop) .stop)) .stop) .stop) .stop)) (.alt 10 (.alt 6 (.alt 7 (.alt 11 (.take 13 (.alt 12 (.alt 14 .done .stop) .stop)) .stop) .stop) .stop) .stop)) (.alt 10 (.alt 5 (.alt 6 (.alt 7 (.alt 11 (.take 13 (.alt 12 (.alt 14 .done .stop) .stop)) .stop) .stop) .stop) .stop) .stop)) (.alt 5 (.alt 2 (.alt 6 (.alt 7 (.alt 10 (.alt 11 (.take 13 (.alt 12 (.alt 14 .done .stop) .stop)) .stop) .stop) (.alt 10 (.alt 7 (.alt 11 (.take 13 (.alt 12 (.alt 14 .done .stop) .stop)) .stop) .stop) .stop)) (.alt 10 (.alt 6 (.alt 7 (.alt 11 (.take 13 (.alt 12 (.alt 14 .done .stop) .stop)) .stop) .stop) .stop) .stop)) (.alt 6 (.alt 2 (.alt 7 (.alt 10 (.alt 11 (.take 13 (.alt 12 (.alt 14 .done .stop) .stop)) .stop) .stop) (.alt 10 (.alt 7 (.alt 11 (.take 13 (.alt 12 (.alt 14 .done .stop) .stop)) .stop) .stop) .stop)) (.alt 10 (.alt 2 (.alt 7 (.alt 11 (.take 13 (.alt 12 (.alt 14 .done .stop) .stop)) .stop) .stop) .stop) .stop)) (.alt 10 (.alt 2 (.alt 6 (.alt 7 (.alt 11 (.take 13 (.alt 12 (.alt 14 .done .stop) .stop)) .stop) .stop) .stop) (.alt 6 (.alt 2 (.alt 7 (.alt 11 (.take 13 (.alt 12 (.alt 14 .done .stop) .stop)) .stop) .stop) .stop) .stop)) .stop))) (.alt 10 (.alt 2 (.alt 5 (.alt 6 (.alt 7 (.alt 11 (.take 13 (.alt 12 (.alt 14 .done .stop) .stop)) .stop) .stop) .stop) .stop) (.alt 5 (.alt 2 (.alt 6 (.alt 7 (.alt 11 (.take 13 (.alt 12 (.alt 14 .done .stop) .stop)) .stop) .stop) .stop) (.alt 6 (.alt 2 (.alt 7 (.alt 11 (.take 13 (.alt 12 (.alt 14 .done .stop) .stop)) .stop) .stop) .stop) .stop)) .stop)) .stop))))))))) ?_ ?_; focus (decide +kernel)) | refine ListO.go gOk hE ?_)
            all_goals first | (refine ⟨?_, ?_⟩ <;> (try unfold maxLen) <;> (try simp only [List.length_nil]) <;> omega) | (unfold maxLen; simp only [List.length_nil]; omega) | (simp only [List.length_nil]; omega) | (exfalso; omega) | exact Need.mk rfl | exact OutS.whole rfl rfl | trace_state
          · simp only [if_neg k2, if_neg k3, if_neg k4]
            refine RunT.of_vc gOk Try.func30 rfl rfl (Nat.le_of_ble_eq_true rfl) (by repeat' (first | exact trivial | exact ⟨_, rfl, Nat.le_refl _⟩ | exact Nat.le_of_ble_eq_true rfl | refine And.intro ?_ ?_)) (Nat.le_of_ble_eq_true rfl) rfl (fun F hE => ?_)
            repeat' (first | exact trivial | refine BS.d (fun h => ?_) (fun h => ?_) | refine BS.e (fun h => ?_) (fun h => ?_) | refine BS.ne (fun h => ?_) (fun h => ?_) | refine BS.n ?_ | refine BS.s (fun h => ?_) (fun h => ?_) | refine And.intro ?_ ?_ | (refine Need.mk ?_; first | with_reducible rfl | (show @Eq TC _ _; rfl) | omega | (simp only [adN_zero]; omega)) | exact OutS.whole rfl rfl | (refine OpK.call c1 rfl rfl rfl rfl hE ?_ rfl rfl ?_; focus ((repeat' (first | exact PsA.lit _ | exact PsA.ref rfl rfl | constructor)); all_goals (fail "ps"))) | (refine OpK.call c2 rfl rfl rfl rfl hE ?_ rfl rfl ?_; focus ((repeat' (first | exact PsA.lit _ | exact PsA.ref rfl rfl | constructor)); all_goals (fail "ps"))) | (refine OpK.apps gOk rfl rfl rfl rfl rfl rfl rfl rfl rfl rfl rfl flatKV rfl ?_ ?_) | (refine OpK.call c4 rfl rfl rfl rfl hE ?_ rfl rfl ?_; focus ((repeat' (first | exact PsA.lit _ | exact PsA.ref rfl rfl | constructor)); all_goals (fail "ps"))) | (refine OpK.call c5 rfl rfl rfl rfl hE ?_ rfl rfl ?_; focus ((repeat' (first | exact PsA.lit _ | exact PsA.ref rfl rfl | constructor)); all_goals (fail "ps"))) | (refine OpK.call c6 rfl rfl rfl rfl hE ?_ rfl rfl ?_; focus ((repeat' (first | exact PsA.lit _ | exact PsA.ref rfl rfl | constructor)); all_goals (fail "ps"))) | (refine OpK.call c7 rfl rfl rfl rfl hE ?_ rfl rfl ?_; focus ((repeat' (first | exact PsA.lit _ | exact PsA.ref rfl rfl | constructor)); all_goals (fail "ps"))) | (refine OpK.call c8 rfl rfl rfl rfl hE ?_ rfl rfl ?_; focus ((repeat' (first | exact PsA.lit _ | exact PsA.ref rfl rfl | constructor)); all_goals (fail "ps"))) | (refine CodeK.draw gOk hE rfl (fun _ _ h => h) (.take 0 (.take 1 (.take 3 (.take 4 (.take 8 (.take 9 (.alt 2 (.alt 5 (.alt 6 (.alt 7 (.alt 10 (.alt 11 (.take 13 (.alt 12 (.alt 14 .done .stop) .stop)) .stop) .stop) (.alt 10 (.alt 7 (.alt 11 (.take 13 (.alt 12 (.alt 14 .done .stop) .stop)) .stop) .stop) .stop)) (.alt 10 (.alt 6 (.alt 7 (.alt 11 (.take 13 (.alt 12 (.alt 14 .done .stop) .stop)) .stop) .stop) .stop) .stop)) (.alt 10 (.alt 5 (.alt 6 (.alt 7 (.alt 11 (.take 13 (.alt 12 (.alt 14 .done .stop) .stop)) .stop) .stop) .stop) .stop) .stop)) (.alt 5 (.alt 2 (.alt 6 (.alt 7 (.alt 10 (.alt 11 (.take 13 (.alt 12 (.alt 14 .done .stop) .stop)) .stop) .stop) (.alt 10 (.alt 7 (.alt 11 (.take 13 (.alt 12 (.alt 14 .done .stop) .stop)) .stop) .stop) .stop)) (.alt 10 (.alt 6 (.alt 7 (.alt 11 (.take 13 (.alt 12 (.alt 14 .done .stop) .stop)) .stop) .stop) .stop) .stop)) (.alt 6 (.alt 2 (.alt 7 (.alt 10 (.alt 11 (.take 13 (.alt 12 (.alt 14 .done .stop) .stop)) .stop) .stop) (.alt 10 (.alt 7 (.alt 11 (.take 13 (.alt 12 (.alt 14 .done .stop) .stop)) .stop) .stop) .stop)) (.alt 10 (.alt 2 (.alt 7 (.alt 11 (.take 13 (.alt 12 (.alt 14 .done .stop) .stop)) .stop) .stop) .stop) .stop)) (.alt 10 (.alt 2 (.alt 6 (.alt 7 (.alt 11 (.take 13 (.alt 12 (.alt 14 .done .stop) .stop)) .stop) .stop) .stop) (.alt 6 (.alt 2 (.alt 7 (.alt 11 (.take 13 (.alt 12 (.alt 14 .done .stop) .stop)) .stop) .stop) .stop) .stop)) .stop))) (.alt 10 (.alt 2 (.alt 5 (.alt 6 (.alt 7 (.alt 11 (.take 13 (.alt 12 (.alt 14 .done .stop) .stop)) .stop) .stop) .stop) .stop) (.alt 5 (.alt 2 (.alt 6 (.alt 7 (.alt 11 (.take 13 (.alt 12 (.alt 14 .done .stop) .stop)) .stop) .stop) .stop) (.alt 6 (.alt 2 (.alt 7 (.alt 11 (.take 13 (.alt 12 (.alt 14 .done .stop) .stop)) .stop) .stop) .stop) .stop)) .stop)) .stop))))))))) ?_ ?_; focus (decide +kernel)) | refine ListO.go gOk hE ?_)
            all_goals first | (refine ⟨?_, ?_⟩ <;> (try unfold maxLen) <;> (try simp only [List.length_nil]) <;> omega) | (unfold maxLen; simp only [List.length_nil]; omega) | (simp only [List.length_nil]; omega) | (exfalso; omega) | exact Need.mk rfl | exact OutS.whole rfl rfl | trace_state
end Go.Proofs.Ythfcpaplnifhiaa
end

section
/- CmdsDo in both packages. -/
namespace Go.Proofs.Ythfcpaplnifhiaa
open Go Go.Tr
set_option maxRecDepth 100000
set_option maxHeartbeats 4000000
set_option linter.unusedVariables false
set_option linter.unusedSimpArgs false
noncomputable def csS (st : List KVT × List ResT) (c : CmdT) : List KVT × List ResT := (cdM st.1 c, st.2 ++ [cdR st.1 c])
noncomputable def csT (xs : List KVT) (ys : List CmdT) : List KVT × List ResT := ys.foldl csS (xs, [])
noncomputable abbrev csM (xs : List KVT) (ys : List CmdT) : List KVT := (csT xs ys).1
noncomputable abbrev csR (xs : List KVT) (ys : List CmdT) : List ResT := (csT xs ys).2
theorem csT_succ (xs : List KVT) (ys : List CmdT) {i : Nat} (h : i < ys.length) : csT xs (ys.take (i + 1)) = csS (csT xs (ys.take i)) (ys.getD i zCmd) := by
  unfold csT
  rw [List.take_succ_eq_append_getElem h, List.foldl_append]
  simp [List.getD, h]
theorem csT_bd (xs : List KVT) (ys : List CmdT) : ∀ i, i ≤ ys.length → (csT xs (ys.take i)).1.length ≤ xs.length + i ∧ (csT xs (ys.take i)).2.length = i
  | 0, _ => ⟨Nat.le_refl _, rfl⟩
  | i + 1, h => by
    obtain ⟨h1, h2⟩ := csT_bd xs ys i (by omega)
    rw [csT_succ xs ys (by omega)]
    have := cdM_le (csT xs (ys.take i)).1 (ys.getD i zCmd)
    refine ⟨?_, ?_⟩
    · show (cdM _ _).length ≤ _; omega
    · show (_ ++ [_]).length = _; simp [h2]
theorem csM_le (xs : List KVT) (ys : List CmdT) : (csM xs ys).length ≤ xs.length + ys.length := by
  have := (csT_bd xs ys ys.length (Nat.le_refl _)).1
  rwa [List.take_of_length_le (Nat.le_refl _)] at this
theorem csR_le (xs : List KVT) (ys : List CmdT) : (csR xs ys).length ≤ ys.length := by
  have := (csT_bd xs ys ys.length (Nat.le_refl _)).2
  rw [List.take_of_length_le (Nat.le_refl _)] at this
  exact Nat.le_of_eq this
theorem CmdsDoS_run (e e1 : Nat) (xs : List KVT) (ys : List CmdT) (hn : xs.length + ys.length ≤ 1048576) : RunT Try.prog 35 [.one (.c (tKV e xs)), .one (.c (tCmd e1 ys))] [] [.one (tKV 120 (csM xs ys)), .one (tRes 45 (csR xs ys))] [] := by
  refine RunT.of_vc gOk Try.func35 rfl rfl (Nat.le_of_ble_eq_true rfl) (by repeat' (first | exact trivial | exact ⟨_, rfl, Nat.le_refl _⟩ | exact Nat.le_of_ble_eq_true rfl | refine And.intro ?_ ?_)) (Nat.le_of_ble_eq_true rfl) rfl (fun F hE => ?_)
  repeat' (first | exact trivial | refine BS.d (fun h => ?_) (fun h => ?_) | refine BS.e (fun h => ?_) (fun h => ?_) | refine BS.ne (fun h => ?_) (fun h => ?_) | refine BS.n ?_ | refine BS.s (fun h => ?_) (fun h => ?_) | refine And.intro ?_ ?_ | (refine Need.mk ?_; first | with_reducible rfl | (show @Eq TC _ _; rfl) | omega | (simp only [adN_zero]; omega)) | exact OutS.whole rfl rfl | (refine OpK.apps gOk rfl rfl rfl rfl rfl rfl rfl rfl rfl rfl rfl flatKV rfl ?_ ?_) | refine ListO.go gOk hE ?_)
  all_goals first
    | (refine ⟨?_, ?_⟩ <;> (try unfold maxLen) <;> (try simp only [List.length_nil]) <;> omega)
    | (unfold maxLen; simp only [List.length_nil]; omega)
    | (simp only [List.length_nil]; omega)
    | skip
  refine CodeK.loopK (fun i : Nat => ⟨[(1, vr 1000001 ys.length), (6, vr 11 (csT xs (ys.take i)).1.length), (7, vr 14 (csT xs (ys.take i)).2.length), (8, vi i)], [(11, rKV .own true 120 (csT xs (ys.take i)).1), (14, rRes .own true 45 (csT xs (ys.take i)).2), (1000001, rCmd .fro false e1 ys)]⟩) (fun i => i ≤ ys.length) (fun i => ys.length - i) 0 (by refine leT.of ?_ ?_ rfl <;> repeat' (first | exact trivial | refine And.intro rfl ?_ | refine And.intro (by first | rfl | (simp [csT] <;> rfl)) ?_)) (Nat.zero_le _) ?_
  rintro i hi
  obtain ⟨hb1, hb2⟩ := csT_bd xs ys i hi
  by_cases hi2 : i < ys.length
  · have hsu := csT_succ xs ys hi2
    have c1 := CmdDoS_run 120 (csT xs (ys.take i)).1 (ys.getD i zCmd) (by omega)
    generalize csT xs (ys.take i) = st at *
    have hst : csT xs (ys.take (i + 1)) = (cdM st.1 (ys.getD i zCmd), st.2 ++ [cdR st.1 (ys.getD i zCmd)]) := hsu
    clear hsu
    generalize cdM st.1 (ys.getD i zCmd) = m1 at *
    generalize cdR st.1 (ys.getD i zCmd) = r1 at *
    repeat' (first | exact trivial | refine BS.d (fun h => ?_) (fun h => ?_) | refine BS.e (fun h => ?_) (fun h => ?_) | refine BS.ne (fun h => ?_) (fun h => ?_) | refine BS.n ?_ | refine BS.s (fun h => ?_) (fun h => ?_) | refine And.intro ?_ ?_ | (refine Need.mk ?_; first | with_reducible rfl | (show @Eq TC _ _; rfl) | omega | (simp only [adN_zero]; omega)) | exact OutS.whole rfl rfl | (refine OpK.call c1 rfl rfl rfl rfl hE ?_ rfl rfl ?_; focus ((repeat' (first | exact PsA.lit _ | exact PsA.ref rfl rfl | constructor)); all_goals (fail "ps"))) | (refine CodeK.rekeyR 5 2003456 11 rfl hE rfl rfl rfl rfl rfl rfl ?_) | (refine CodeK.rekeyS 5 2003456 11 rfl hE rfl rfl rfl rfl rfl rfl ?_) | (refine CodeK.seqL 9999 rfl ?_) | (refine CodeK.seqv gOk hE ?_) | (refine CodeK.vc gOk hE ?_) | (refine ListO.step gOk hE ?_) | (refine ListO.done ?_) | refine ListO.go gOk hE ?_)
    all_goals (try simp only [adN_zero] at *)
    all_goals first
      | (exfalso; omega)
      | (refine Need.mk ?_; first | omega | (refine ⟨?_, ?_⟩ <;> (try unfold maxLen) <;> omega))
      | (refine ⟨i + 1, (by refine leT.of ?_ ?_ rfl <;> repeat' (first | exact trivial | refine And.intro rfl ?_ | refine And.intro (by first | rfl | (rw [hst]; rfl) | (simp [hst] <;> rfl)) ?_)), by omega, by first | omega | (dsimp only; omega)⟩)
      | trace_state
  · have hlast : csT xs (ys.take i) = csT xs ys := by rw [List.take_of_length_le (by omega)]
    rw [hlast] at *
    repeat' (first | exact trivial | refine BS.d (fun h => ?_) (fun h => ?_) | refine BS.e (fun h => ?_) (fun h => ?_) | refine BS.ne (fun h => ?_) (fun h => ?_) | refine BS.n ?_ | refine BS.s (fun h => ?_) (fun h => ?_) | refine And.intro ?_ ?_ | (refine Need.mk ?_; first | with_reducible rfl | (show @Eq TC _ _; rfl) | omega | (simp only [adN_zero]; omega)) | exact OutS.whole rfl rfl | (refine CodeK.seqL 9999 rfl ?_) | (refine CodeK.seqv gOk hE ?_) | (refine CodeK.vc gOk hE ?_) | (refine ListO.step gOk hE ?_) | (refine ListO.done ?_) | refine ListO.go gOk hE ?_)
    all_goals first
      | (exfalso; omega)
      | exact OutS.whole rfl rfl
      | trace_state
end Go.Proofs.Ythfcpaplnifhiaa
end

section
/- CmdsDo of impl. -/
namespace Go.Proofs.Ythfcpaplnifhiaa
open Go Go.Tr
set_option maxRecDepth 100000
set_option maxHeartbeats 4000000
set_option linter.unusedVariables false
set_option linter.unusedSimpArgs false
theorem pad_set {α : Type} (z y : α) (xs : List α) (n : Nat) (h : xs.length < n) : (xs ++ List.replicate (n - xs.length) z).set xs.length y = (xs ++ [y]) ++ List.replicate (n - (xs.length + 1)) z := by
  rw [List.set_append_right _ _ (Nat.le_refl _), Nat.sub_self]
  obtain ⟨k, hk⟩ : ∃ k, n - xs.length = k + 1 := ⟨n - xs.length - 1, by omega⟩
  rw [hk, show n - (xs.length + 1) = k by omega, List.replicate_succ, List.set_cons_zero]; simp
theorem CmdsDoI_run (e e1 : Nat) (xs : List KVT) (ys : List CmdT) (hn : xs.length + ys.length ≤ 1048576) : RunT Try.prog 37 [.one (.c (tKV e xs)), .one (.c (tCmd e1 ys))] [] [.one (tKV 120 (csM xs ys)), .one (tRes 45 (csR xs ys))] [] := by
  have c0 := CloneKV_run e xs (by omega)
  refine RunT.of_vc gOk Try.func37 rfl rfl (Nat.le_of_ble_eq_true rfl) (by repeat' (first | exact trivial | exact ⟨_, rfl, Nat.le_refl _⟩ | exact Nat.le_of_ble_eq_true rfl | refine And.intro ?_ ?_)) (Nat.le_of_ble_eq_true rfl) rfl (fun F hE => ?_)
  repeat' (first | exact trivial | refine BS.d (fun h => ?_) (fun h => ?_) | refine BS.e (fun h => ?_) (fun h => ?_) | refine BS.ne (fun h => ?_) (fun h => ?_) | refine BS.n ?_ | refine BS.s (fun h => ?_) (fun h => ?_) | refine And.intro ?_ ?_ | (refine Need.mk ?_; first | with_reducible rfl | (show @Eq TC _ _; rfl) | omega | (simp only [adN_zero]; omega)) | exact OutS.whole rfl rfl | (refine OpK.call c0 rfl rfl rfl rfl hE ?_ rfl rfl ?_; focus ((repeat' (first | exact PsA.lit _ | exact PsA.ref rfl rfl | constructor)); all_goals (fail "ps"))) | refine ListO.go gOk hE ?_)
  all_goals first
    | (exfalso; omega)
    | (refine Need.mk ?_; first | omega | (refine ⟨?_, ?_⟩ <;> (try unfold maxLen) <;> omega))
    | skip
  refine CodeK.loopK (fun i : Nat => ⟨[(6, vr 2001408 (csT xs (ys.take i)).1.length), (7, vr 14 ys.length), (15, vr 1000001 ys.length), (16, vi ys.length), (17, vi i)], [(2001408, rKV .own true 120 (csT xs (ys.take i)).1), (14, rRes .own true 45 ((csT xs (ys.take i)).2 ++ List.replicate (ys.length - (csT xs (ys.take i)).2.length) (false, 0))), (1000001, rCmd .fro false e1 ys)]⟩) (fun i => i ≤ ys.length) (fun i => ys.length - i) 0 (by refine leT.of ?_ ?_ rfl <;> repeat' (first | exact trivial | refine And.intro rfl ?_ | refine And.intro (by first | rfl | (simp [csT] <;> rfl)) ?_)) (Nat.zero_le _) ?_
  rintro i hi
  obtain ⟨hb1, hb2⟩ := csT_bd xs ys i hi
  by_cases hi2 : i < ys.length
  · have hsu := csT_succ xs ys hi2
    have c1 := CmdDoI_run 120 (csT xs (ys.take i)).1 (ys.getD i zCmd) (by omega)
    generalize csT xs (ys.take i) = st at *
    have hst : csT xs (ys.take (i + 1)) = (cdM st.1 (ys.getD i zCmd), st.2 ++ [cdR st.1 (ys.getD i zCmd)]) := hsu
    clear hsu
    have hps := pad_set (false, (0 : Int)) (cdR st.1 (ys.getD i zCmd)) st.2 ys.length (by omega)
    rw [hb2] at hps
    have hpl : (st.2 ++ List.replicate (ys.length - st.2.length) (false, (0 : Int))).length = ys.length := by simp; omega
    rw [hb2] at hpl
    generalize cdM st.1 (ys.getD i zCmd) = m1 at *
    generalize cdR st.1 (ys.getD i zCmd) = r1 at *
    rw [hb2]
    repeat' (first | exact trivial | refine BS.d (fun h => ?_) (fun h => ?_) | refine BS.e (fun h => ?_) (fun h => ?_) | refine BS.ne (fun h => ?_) (fun h => ?_) | refine BS.n ?_ | refine BS.s (fun h => ?_) (fun h => ?_) | refine And.intro ?_ ?_ | (refine Need.mk ?_; first | with_reducible rfl | (show @Eq TC _ _; rfl) | omega | (simp only [adN_zero]; omega)) | exact OutS.whole rfl rfl | (refine OpK.call c1 rfl rfl rfl rfl hE ?_ rfl rfl ?_; focus ((repeat' (first | exact PsA.lit _ | exact PsA.ref rfl rfl | constructor)); all_goals (fail "ps"))) | (refine CodeK.rekeyR 7 2003456 2001408 rfl hE rfl rfl rfl rfl rfl rfl ?_) | (refine CodeK.rekeyS 7 2003456 2001408 rfl hE rfl rfl rfl rfl rfl rfl ?_) | (refine CodeK.seqL 9999 rfl ?_) | (refine CodeK.seqv gOk hE ?_) | (refine CodeK.vc gOk hE ?_) | (refine ListO.step gOk hE ?_) | (refine ListO.done ?_) | refine ListO.go gOk hE ?_)
    all_goals (try simp only [adN_zero] at *)
    all_goals first
      | (exfalso; omega)
      | (refine Need.mk ?_; first | omega | (refine ⟨?_, ?_⟩ <;> (try unfold maxLen) <;> omega))
      | (refine ⟨i + 1, (by refine leT.of ?_ ?_ rfl <;> repeat' (first | exact trivial | refine And.intro rfl ?_ | refine And.intro (by first | rfl | (rw [hst]; rfl) | (rw [hst]; simp only [List.length_append, List.length_singleton, hb2]; rw [← hps]; rfl) | (simp [hst] <;> rfl)) ?_)), by omega, by first | omega | (dsimp only; omega)⟩)
      | trace_state
  · have hlast : csT xs (ys.take i) = csT xs ys := by rw [List.take_of_length_le (by omega)]
    have hlen : (csT xs ys).2.length = ys.length := by
      have := (csT_bd xs ys ys.length (Nat.le_refl _)).2
      rwa [List.take_of_length_le (Nat.le_refl _)] at this
    rw [hlast]
    repeat' (first | exact trivial | refine BS.d (fun h => ?_) (fun h => ?_) | refine BS.e (fun h => ?_) (fun h => ?_) | refine BS.ne (fun h => ?_) (fun h => ?_) | refine BS.n ?_ | refine BS.s (fun h => ?_) (fun h => ?_) | refine And.intro ?_ ?_ | (refine Need.mk ?_; first | with_reducible rfl | (show @Eq TC _ _; rfl) | omega | (simp only [adN_zero]; omega)) | exact OutS.whole rfl rfl | (refine CodeK.seqL 9999 rfl ?_) | (refine CodeK.seqv gOk hE ?_) | (refine CodeK.vc gOk hE ?_) | (refine ListO.step gOk hE ?_) | (refine ListO.done ?_) | refine ListO.go gOk hE ?_)
    all_goals first
      | (exfalso; omega)
      | exact OutS.whole rfl rfl
      | exact OutS.whole (by simp [hlen]) (by rw [hlen, Nat.sub_self, List.replicate_zero, List.append_nil]; rfl)
      | trace_state
end Go.Proofs.Ythfcpaplnifhiaa
end

section
/- Marks of a row of flat elements. -/
namespace Go.Proofs.Ythfcpaplnifhiaa
open Go Go.Tr
set_option maxRecDepth 100000
set_option maxHeartbeats 4000000
set_option linter.unusedVariables false
set_option linter.unusedSimpArgs false
abbrev fCmd (m : Int) (j : Nat) : CmdT := (m + 3 * j, m + 3 * j + 1, m + 3 * j + 2)
abbrev bCmd (κ : Nat) (xs xs' : List CmdT) : Bt := ⟨κ, 0, true, .sl 48 3 CmdT encCmd decCmd zCmd xs, .sl 48 3 CmdT encCmd decCmd zCmd xs', .ty .own true 48 3 CmdT encCmd decCmd zCmd xs'⟩
theorem markCmdG_run (xs : List CmdT) (m : Int) (h0 : 0 ≤ m) (h1 : m ≤ 33554432) (hn : xs.length ≤ 4000000) : RunT Try.prog 40 [.one (.h 0 xs.length), ti m] [.sl 48 3 CmdT encCmd decCmd zCmd xs] [oi (m + 3 * xs.length)] [.sl 48 3 CmdT encCmd decCmd zCmd (mkL zCmd (fCmd m) xs xs.length)] := by
  refine RunT.of_vc gOk Try.func40 rfl rfl (Nat.le_of_ble_eq_true rfl) (by repeat' (first | exact trivial | exact ⟨_, rfl, Nat.le_refl _⟩ | exact Nat.le_of_ble_eq_true rfl | refine And.intro ?_ ?_)) (Nat.le_of_ble_eq_true rfl) rfl (fun F hE => ?_)
  repeat' (first | exact trivial | refine BS.d (fun h => ?_) (fun h => ?_) | refine BS.e (fun h => ?_) (fun h => ?_) | refine BS.ne (fun h => ?_) (fun h => ?_) | refine BS.n ?_ | refine BS.s (fun h => ?_) (fun h => ?_) | refine And.intro ?_ ?_ | (refine Need.mk ?_; first | with_reducible rfl | (show @Eq TC _ _; rfl) | omega | (simp only [adN_zero]; omega)) | exact OutS.whole rfl rfl | refine ListO.go gOk hE ?_)
  refine CodeK.loop gOk hE (fun i : Nat => ⟨[(0, vr 1000000 xs.length), (1, vi (m + 3 * i)), (5, vi i)], [(1000000, rCmd .own false 0 (mkL zCmd (fCmd m) xs i))]⟩) (fun i => i ≤ xs.length) (fun i => xs.length - i) 0 (by refine leT.of ?_ ?_ rfl <;> repeat' (first | exact trivial | refine And.intro rfl ?_ | refine And.intro (by simp [mkL_zero] <;> rfl) ?_)) (Nat.zero_le _) ?_
  rintro i hi
  have hl := mkL_len zCmd (fCmd m) xs i
  have hgs : ∀ (ys : List CmdT) (a : CmdT), ys.length = xs.length → i < xs.length → (ys.set i a).getD i zCmd = a := fun ys a h1 h2 => by simp [List.getD, h1, h2]
  repeat' (first | exact trivial | refine BS.d (fun h => ?_) (fun h => ?_) | refine BS.e (fun h => ?_) (fun h => ?_) | refine BS.ne (fun h => ?_) (fun h => ?_) | refine BS.n ?_ | refine BS.s (fun h => ?_) (fun h => ?_) | refine And.intro ?_ ?_ | (refine Need.mk ?_; first | with_reducible rfl | (show @Eq TC _ _; rfl) | omega | (simp only [adN_zero]; omega)) | exact OutS.whole rfl rfl | refine ListO.go gOk hE ?_)
  all_goals (try simp only [adN_zero] at *)
  all_goals first
    | (refine Need.mk ?_; first | omega | (simp only [List.length_set]; omega) | rw [show i = xs.length by omega])
    | (refine ⟨i + 1, (by refine leT.of ?_ ?_ rfl <;> repeat' (first | exact trivial | refine And.intro rfl ?_ | refine And.intro (by first | rfl | (refine litInt ?_; omega) | (refine congrArg (fun l => some (rCmd .own false 0 l)) ?_; simp only [List.set_set, hgs _ _ hl (by omega)]; refine Eq.trans (congrArg (List.set _ i) ?_) (mkL_set _ _ _ _ (by omega)); first | rfl | (refine Prod.ext ?_ ?_ <;> first | rfl | (dsimp only; omega) | (refine Prod.ext ?_ ?_ <;> first | rfl | (dsimp only; omega))))) ?_)), by omega, by first | omega | (dsimp only; omega)⟩)
    | trace_state
end Go.Proofs.Ythfcpaplnifhiaa
end

section
/- Marks of a row of flat elements. -/
namespace Go.Proofs.Ythfcpaplnifhiaa
open Go Go.Tr
set_option maxRecDepth 100000
set_option maxHeartbeats 4000000
set_option linter.unusedVariables false
set_option linter.unusedSimpArgs false
abbrev fRes (m : Int) (j : Nat) : ResT := (((m + 2 * j).tmod 3 == 0), m + 2 * j + 1)
abbrev bRes (κ : Nat) (xs xs' : List ResT) : Bt := ⟨κ, 0, true, .sl 45 2 ResT encRes decRes zRes xs, .sl 45 2 ResT encRes decRes zRes xs', .ty .own true 45 2 ResT encRes decRes zRes xs'⟩
theorem markResG_run (xs : List ResT) (m : Int) (h0 : 0 ≤ m) (h1 : m ≤ 33554432) (hn : xs.length ≤ 4000000) : RunT Try.prog 41 [.one (.h 0 xs.length), ti m] [.sl 45 2 ResT encRes decRes zRes xs] [oi (m + 2 * xs.length)] [.sl 45 2 ResT encRes decRes zRes (mkL zRes (fRes m) xs xs.length)] := by
  refine RunT.of_vc gOk Try.func41 rfl rfl (Nat.le_of_ble_eq_true rfl) (by repeat' (first | exact trivial | exact ⟨_, rfl, Nat.le_refl _⟩ | exact Nat.le_of_ble_eq_true rfl | refine And.intro ?_ ?_)) (Nat.le_of_ble_eq_true rfl) rfl (fun F hE => ?_)
  repeat' (first | exact trivial | refine BS.d (fun h => ?_) (fun h => ?_) | refine BS.e (fun h => ?_) (fun h => ?_) | refine BS.ne (fun h => ?_) (fun h => ?_) | refine BS.n ?_ | refine BS.s (fun h => ?_) (fun h => ?_) | refine And.intro ?_ ?_ | (refine Need.mk ?_; first | with_reducible rfl | (show @Eq TC _ _; rfl) | omega | (simp only [adN_zero]; omega)) | exact OutS.whole rfl rfl | refine ListO.go gOk hE ?_)
  refine CodeK.loop gOk hE (fun i : Nat => ⟨[(0, vr 1000000 xs.length), (1, vi (m + 2 * i)), (5, vi i)], [(1000000, rRes .own false 0 (mkL zRes (fRes m) xs i))]⟩) (fun i => i ≤ xs.length) (fun i => xs.length - i) 0 (by refine leT.of ?_ ?_ rfl <;> repeat' (first | exact trivial | refine And.intro rfl ?_ | refine And.intro (by simp [mkL_zero] <;> rfl) ?_)) (Nat.zero_le _) ?_
  rintro i hi
  have hl := mkL_len zRes (fRes m) xs i
  have hgs : ∀ (ys : List ResT) (a : ResT), ys.length = xs.length → i < xs.length → (ys.set i a).getD i zRes = a := fun ys a h1 h2 => by simp [List.getD, h1, h2]
  repeat' (first | exact trivial | refine BS.d (fun h => ?_) (fun h => ?_) | refine BS.e (fun h => ?_) (fun h => ?_) | refine BS.ne (fun h => ?_) (fun h => ?_) | refine BS.n ?_ | refine BS.s (fun h => ?_) (fun h => ?_) | refine And.intro ?_ ?_ | (refine Need.mk ?_; first | with_reducible rfl | (show @Eq TC _ _; rfl) | omega | (simp only [adN_zero]; omega)) | exact OutS.whole rfl rfl | refine ListO.go gOk hE ?_)
  all_goals (try simp only [adN_zero] at *)
  all_goals first
    | (refine Need.mk ?_; first | omega | (simp only [List.length_set]; omega) | rw [show i = xs.length by omega])
    | (refine ⟨i + 1, (by refine leT.of ?_ ?_ rfl <;> repeat' (first | exact trivial | refine And.intro rfl ?_ | refine And.intro (by first | rfl | (refine litInt ?_; omega) | (refine congrArg (fun l => some (rRes .own false 0 l)) ?_; simp only [List.set_set, hgs _ _ hl (by omega)]; refine Eq.trans (congrArg (List.set _ i) ?_) (mkL_set _ _ _ _ (by omega)); first | rfl | (refine Prod.ext ?_ ?_ <;> first | rfl | (dsimp only; omega) | (refine Prod.ext ?_ ?_ <;> first | rfl | (dsimp only; omega))))) ?_)), by omega, by first | omega | (dsimp only; omega)⟩)
    | trace_state
theorem heldResG_run (e : Nat) (xs : List ResT) (m : Int) (h0 : 0 ≤ m) (h1 : m ≤ 33554432) (hn : xs.length ≤ 4000000) : RunT Try.prog 42 [.one (.c (tRes e (mkL zRes (fRes m) xs xs.length))), ti m] [] [oi (m + 2 * xs.length)] [] := by
  have hl := mkL_len zRes (fRes m) xs xs.length
  refine RunT.of_vc gOk Try.func42 rfl rfl (Nat.le_of_ble_eq_true rfl) (by repeat' (first | exact trivial | exact ⟨_, rfl, Nat.le_refl _⟩ | exact Nat.le_of_ble_eq_true rfl | refine And.intro ?_ ?_)) (Nat.le_of_ble_eq_true rfl) rfl (fun F hE => ?_)
  repeat' (first | exact trivial | refine BS.d (fun h => ?_) (fun h => ?_) | refine BS.e (fun h => ?_) (fun h => ?_) | refine BS.ne (fun h => ?_) (fun h => ?_) | refine BS.n ?_ | refine BS.s (fun h => ?_) (fun h => ?_) | refine And.intro ?_ ?_ | (refine Need.mk ?_; first | with_reducible rfl | (show @Eq TC _ _; rfl) | omega | (simp only [adN_zero]; omega)) | exact OutS.whole rfl rfl | refine ListO.go gOk hE ?_)
  refine CodeK.loop gOk hE (fun i : Nat => ⟨[(0, vr 1000000 (mkL zRes (fRes m) xs xs.length).length), (1, vi (m + 2 * i)), (5, vi i)], [(1000000, rRes .fro false e (mkL zRes (fRes m) xs xs.length))]⟩) (fun i => i ≤ xs.length) (fun i => xs.length - i) 0 (by refine leT.of ?_ ?_ rfl <;> repeat' (first | exact trivial | refine And.intro rfl ?_ | refine And.intro (by simp <;> rfl) ?_)) (Nat.zero_le _) ?_
  rintro i hi
  have hg : i < xs.length → (mkL zRes (fRes m) xs xs.length).getD i zRes = fRes m i := fun h => mkL_get _ _ _ _ _ h h
  repeat' (first | exact trivial | refine BS.d (fun h => ?_) (fun h => ?_) | refine BS.e (fun h => ?_) (fun h => ?_) | refine BS.ne (fun h => ?_) (fun h => ?_) | refine BS.n ?_ | refine BS.s (fun h => ?_) (fun h => ?_) | refine And.intro ?_ ?_ | (refine Need.mk ?_; first | with_reducible rfl | (show @Eq TC _ _; rfl) | omega | (simp only [adN_zero]; omega)) | exact OutS.whole rfl rfl | refine ListO.go gOk hE ?_)
  all_goals (try simp only [adN_zero] at *)
  all_goals first
    | (exfalso; have h9 := hg (by omega); simp only [h9] at *; first | omega | (simp_all; done) | (simp_all; omega))
    | (refine Need.mk ?_; first | omega | rw [show i = xs.length by omega])
    | (refine ⟨i + 1, (by refine leT.of ?_ ?_ rfl <;> repeat' (first | exact trivial | refine And.intro rfl ?_ | refine And.intro (by first | rfl | (refine litInt ?_; omega)) ?_)), by omega, by first | omega | (dsimp only; omega)⟩)
    | trace_state
end Go.Proofs.Ythfcpaplnifhiaa
end

section
/- The law CmdsDo. -/
namespace Go.Proofs.Ythfcpaplnifhiaa
open Go Go.Tr
set_option maxRecDepth 100000
set_option maxHeartbeats 40000000
set_option linter.unusedVariables false
set_option linter.unusedSimpArgs false
theorem CmdsDo_law (xs : List KVT) (ys : List CmdT) (hnxs : xs.length ≤ 9223372036854775807) (hnys : ys.length ≤ 9223372036854775807) : RunT Try.prog 6 [.one (.c (tKV 0 xs)), .one (.c (tCmd 0 ys))] [] [ob true] [] := by
  have z0 := szKVS_run 0 xs (1048576) (by omega) (by omega) hnxs
  by_cases hz0 : szI xs (1048576) < 0
  · generalize szI xs (1048576) = zz0 at *
    refine RunT.of_vc gOk Try.func6 rfl rfl (Nat.le_of_ble_eq_true rfl) (by repeat' (first | exact trivial | exact ⟨_, rfl, Nat.le_refl _⟩ | exact Nat.le_of_ble_eq_true rfl | refine And.intro ?_ ?_)) (Nat.le_of_ble_eq_true rfl) rfl (fun F hE => ?_)
    repeat' (first | exact trivial | refine BS.d (fun h => ?_) (fun h => ?_) | refine BS.e (fun h => ?_) (fun h => ?_) | refine BS.ne (fun h => ?_) (fun h => ?_) | refine BS.n ?_ | refine BS.s (fun h => ?_) (fun h => ?_) | refine And.intro ?_ ?_ | (refine Need.mk ?_; first | with_reducible rfl | (show @Eq TC _ _; rfl) | omega | (simp only [adN_zero]; omega)) | exact OutS.whole rfl rfl | (refine OpK.call z0 rfl rfl rfl rfl hE ?_ rfl rfl ?_; focus ((repeat' (first | exact PsA.lit _ | exact PsA.ref rfl rfl | constructor)); all_goals (fail "ps"))) | refine ListO.go gOk hE ?_)
    all_goals first | exact Need.mk rfl | (exfalso; omega) | trace_state
  have b0 := szI_le (xs := xs) (m := 1048576) (by omega)
  have hm0 : xs.length ≤ 1048576 := by omega
  generalize szI xs (1048576) = zz0 at *
  have z1 := szCmdS_run 0 ys (zz0) (by omega) (by omega) hnys
  by_cases hz1 : szI ys (zz0) < 0
  · generalize szI ys (zz0) = zz1 at *
    refine RunT.of_vc gOk Try.func6 rfl rfl (Nat.le_of_ble_eq_true rfl) (by repeat' (first | exact trivial | exact ⟨_, rfl, Nat.le_refl _⟩ | exact Nat.le_of_ble_eq_true rfl | refine And.intro ?_ ?_)) (Nat.le_of_ble_eq_true rfl) rfl (fun F hE => ?_)
    repeat' (first | exact trivial | refine BS.d (fun h => ?_) (fun h => ?_) | refine BS.e (fun h => ?_) (fun h => ?_) | refine BS.ne (fun h => ?_) (fun h => ?_) | refine BS.n ?_ | refine BS.s (fun h => ?_) (fun h => ?_) | refine And.intro ?_ ?_ | (refine Need.mk ?_; first | with_reducible rfl | (show @Eq TC _ _; rfl) | omega | (simp only [adN_zero]; omega)) | exact OutS.whole rfl rfl | (refine OpK.call z0 rfl rfl rfl rfl hE ?_ rfl rfl ?_; focus ((repeat' (first | exact PsA.lit _ | exact PsA.ref rfl rfl | constructor)); all_goals (fail "ps"))) | (refine OpK.call z1 rfl rfl rfl rfl hE ?_ rfl rfl ?_; focus ((repeat' (first | exact PsA.lit _ | exact PsA.ref rfl rfl | constructor)); all_goals (fail "ps"))) | refine ListO.go gOk hE ?_)
    all_goals first | exact Need.mk rfl | (exfalso; omega) | trace_state
  have b1 := szI_le (xs := ys) (m := zz0) (by omega)
  have hm1 : ys.length ≤ 1048576 := by omega
  generalize szI ys (zz0) = zz1 at *
  have t0 := toKVS_run 0 xs (by omega)
  have d0 := eqKVS_run 120 xs (by omega)
  have t1 := toCmdS_run 0 ys (by omega)
  have d1 := eqCmdS_run 48 ys (by omega)
  have e1 := CmdsDoS_run 120 48 xs ys (by omega)
  have e2 := CmdsDoI_run 120 48 xs ys (by omega)
  have hg0 : (csM xs ys).length ≤ 2097152 := Nat.le_trans (csM_le xs ys) (by omega)
  generalize csM xs ys = g0 at *
  have hg1 : (csR xs ys).length ≤ 2097152 := Nat.le_trans (csR_le xs ys) (by omega)
  generalize csR xs ys = g1 at *
  have m0 := markKVG_run xs (1) (by omega) (by omega) (by omega)
  have m1 := markCmdG_run ys (1 + 2 * (xs.length : Int)) (by omega) (by omega) (by omega)
  have n0 := markKVG_run g0 (1) (by omega) (by omega) (by omega)
  have k0 := heldKVG_run 120 g0 (1) (by omega) (by omega) (by omega)
  have q0 := eqKVS_run 120 g0 (by omega)
  have n1 := markResG_run g1 (1 + 2 * (g0.length : Int)) (by omega) (by omega) (by omega)
  have k1 := heldResG_run 45 g1 (1 + 2 * (g0.length : Int)) (by omega) (by omega) (by omega)
  have q1 := eqResS_run 45 g1 (by omega)
  refine RunT.of_vc gOk Try.func6 rfl rfl (Nat.le_of_ble_eq_true rfl) (by repeat' (first | exact trivial | exact ⟨_, rfl, Nat.le_refl _⟩ | exact Nat.le_of_ble_eq_true rfl | refine And.intro ?_ ?_)) (Nat.le_of_ble_eq_true rfl) rfl (fun F hE => ?_)
  repeat' (first | exact trivial | refine BS.d (fun h => ?_) (fun h => ?_) | refine BS.e (fun h => ?_) (fun h => ?_) | refine BS.ne (fun h => ?_) (fun h => ?_) | refine BS.n ?_ | refine BS.s (fun h => ?_) (fun h => ?_) | refine And.intro ?_ ?_ | (refine Need.mk ?_; first | with_reducible rfl | (show @Eq TC _ _; rfl) | omega | (simp only [adN_zero]; omega)) | exact OutS.whole rfl rfl | (refine OpK.call z0 rfl rfl rfl rfl hE ?_ rfl rfl ?_; focus ((repeat' (first | exact PsA.lit _ | exact PsA.ref rfl rfl | constructor)); all_goals (fail "ps"))) | (refine OpK.call z1 rfl rfl rfl rfl hE ?_ rfl rfl ?_; focus ((repeat' (first | exact PsA.lit _ | exact PsA.ref rfl rfl | constructor)); all_goals (fail "ps"))) | (refine OpK.call t0 rfl rfl rfl rfl hE ?_ rfl rfl ?_; focus ((repeat' (first | exact PsA.lit _ | exact PsA.ref rfl rfl | constructor)); all_goals (fail "ps"))) | (refine OpK.call d0 rfl rfl rfl rfl hE ?_ rfl rfl ?_; focus ((repeat' (first | exact PsA.lit _ | exact PsA.ref rfl rfl | constructor)); all_goals (fail "ps"))) | (refine OpK.call t1 rfl rfl rfl rfl hE ?_ rfl rfl ?_; focus ((repeat' (first | exact PsA.lit _ | exact PsA.ref rfl rfl | constructor)); all_goals (fail "ps"))) | (refine OpK.call d1 rfl rfl rfl rfl hE ?_ rfl rfl ?_; focus ((repeat' (first | exact PsA.lit _ | exact PsA.ref rfl rfl | constructor)); all_goals (fail "ps"))) | (refine OpK.call e1 rfl rfl rfl rfl hE ?_ rfl rfl ?_; focus ((repeat' (first | exact PsA.lit _ | exact PsA.ref rfl rfl | constructor)); all_goals (fail "ps"))) | (refine OpK.call e2 rfl rfl rfl rfl hE ?_ rfl rfl ?_; focus ((repeat' (first | exact PsA.lit _ | exact PsA.ref rfl rfl | constructor)); all_goals (fail "ps"))) | (refine OpK.callB (bKV 2004608 xs (mkL zKV (fKV (1)) xs xs.length)) m0 rfl rfl rfl rfl hE (BtOk.sl rfl (mkL_len _ _ _ _)) rfl (QsVs.cons (.one (.h rfl rfl rfl)) (.cons (.one (.c (.lit _) rfl)) .nil)) rfl rfl ?_) | (refine OpK.callB (bCmd 2004864 ys (mkL zCmd (fCmd (1 + 2 * (xs.length : Int))) ys ys.length)) m1 rfl rfl rfl rfl hE (BtOk.sl rfl (mkL_len _ _ _ _)) rfl (QsVs.cons (.one (.h rfl rfl rfl)) (.cons (.one (.c (.lit _) rfl)) .nil)) rfl rfl ?_) | (refine OpK.call q0 rfl rfl rfl rfl hE ?_ rfl rfl ?_; focus ((repeat' (first | exact PsA.lit _ | exact PsA.ref rfl rfl | constructor)); all_goals (fail "ps"))) | (refine OpK.call k0 rfl rfl rfl rfl hE ?_ rfl rfl ?_; focus ((repeat' (first | exact PsA.lit _ | exact PsA.ref rfl rfl | exact PsA.ref rfl (mkL_len _ _ _ _).symm | constructor)); all_goals (fail "ps"))) | (refine OpK.callB (bKV 2005376 g0 (mkL zKV (fKV (1)) g0 g0.length)) n0 rfl rfl rfl rfl hE (BtOk.sl rfl (mkL_len _ _ _ _)) rfl (QsVs.cons (.one (.h rfl rfl rfl)) (.cons (.one (.c (.lit _) rfl)) .nil)) rfl rfl ?_) | (refine OpK.call q1 rfl rfl rfl rfl hE ?_ rfl rfl ?_; focus ((repeat' (first | exact PsA.lit _ | exact PsA.ref rfl rfl | constructor)); all_goals (fail "ps"))) | (refine OpK.call k1 rfl rfl rfl rfl hE ?_ rfl rfl ?_; focus ((repeat' (first | exact PsA.lit _ | exact PsA.ref rfl rfl | exact PsA.ref rfl (mkL_len _ _ _ _).symm | constructor)); all_goals (fail "ps"))) | (refine OpK.callB (bRes 2005377 g1 (mkL zRes (fRes (1 + 2 * (g0.length : Int))) g1 g1.length)) n1 rfl rfl rfl rfl hE (BtOk.sl rfl (mkL_len _ _ _ _)) rfl (QsVs.cons (.one (.h rfl rfl rfl)) (.cons (.one (.c (.lit _) rfl)) .nil)) rfl rfl ?_) | refine ListO.go gOk hE ?_)
  all_goals first | exact Need.mk rfl | exact absurd rfl h | (exfalso; omega) | (refine Need.mk ?_; omega) | (simp_all; done) | trace_state
end Go.Proofs.Ythfcpaplnifhiaa
end
