import Derived.Test.YtkafibaoikmccabWWrite
import Derived.Test.YtkafibaoikmccabWM
import Derived.Test.YtkafibaoikmccabWIa
import Derived.Test.YtkafibaoikmccabVX
namespace Go.Proofs.Ytkafibaoikmccab
open Go Go.Tr
set_option maxRecDepth 100000
set_option maxHeartbeats 1000000
set_option linter.unusedVariables false
set_option linter.unusedSimpArgs false
/-- x is put ahead of the first greater one. -/
def insF (x : Int) : List Int → List Int
  | [] => []
  | y :: l => if x < y then x :: y :: l else y :: insF x l
def gtr (x : Int) (l : List Int) : Bool := l.any fun y => decide (x < y)
theorem insF_snoc (x y : Int) : ∀ l : List Int, insF x (l ++ [y]) = insF x l ++ (if !gtr x l && decide (x < y) then [x, y] else [y])
  | [] => by simp [insF, gtr]
  | z :: l => by
    simp only [List.cons_append, insF]
    by_cases h : x < z
    · simp [h, gtr]
    · rw [if_neg h, if_neg h, insF_snoc x y l]
      simp [gtr, h]
theorem gtr_snoc (x y : Int) (l : List Int) : gtr x (l ++ [y]) = (gtr x l || decide (x < y)) := by simp [gtr]
def lput (ys : List Int) (x : Int) : List Int := if ys.contains x then ys else if gtr x ys then insF x ys else insF x ys ++ [x]
theorem take_snoc (ys : List Int) (i : Nat) (h : i < ys.length) : ys.take (i + 1) = ys.take i ++ [ys.getD i 0] := by
  rw [List.take_succ_eq_append_getElem h]; simp [List.getD, h]
theorem insF_len (x : Int) : ∀ l : List Int, (insF x l).length ≤ l.length + 1
  | [] => by simp [insF]
  | y :: l => by have := insF_len x l; unfold insF; split <;> simp <;> omega
theorem has_getD {ys : List Int} {i : Nat} {x : Int} (h : i < ys.length) (e : ys.getD i 0 = x) : ys.contains x = true := by
  rw [List.contains_iff_mem]; subst e; simp [List.getD, h]
theorem take_no {ys : List Int} {i : Nat} {x : Int} (h : i < ys.length) (hc : (ys.take i).contains x = false) (e : ys.getD i 0 ≠ x) : (ys.take (i + 1)).contains x = false := by
  rw [take_snoc ys i h]
  simp only [List.contains_eq_mem, List.mem_append, List.mem_singleton, decide_eq_false_iff_not] at hc ⊢
  rintro (h1 | h1)
  · exact hc h1
  · exact e h1.symm
theorem l17Put_run (ys : List Int) (x : Int) (hn : ys.length ≤ 1048576) : RunT Try.prog 55 [.one (.m (tI ys)), ti x] [] [.one (tI (lput ys x))] [] := by
  refine RunT.of_vc gOk Try.func55 rfl rfl (Nat.le_of_ble_eq_true rfl) (by repeat' (first | exact trivial | exact ⟨_, rfl, Nat.le_refl _⟩ | exact Nat.le_of_ble_eq_true rfl | refine And.intro ?_ ?_)) (Nat.le_of_ble_eq_true rfl) rfl (fun F hE => ?_)
  repeat' (first | exact trivial | refine BS.d (fun h => ?_) (fun h => ?_) | refine BS.e (fun h => ?_) (fun h => ?_) | refine BS.ne (fun h => ?_) (fun h => ?_) | refine BS.n ?_ | refine BS.s (fun h => ?_) (fun h => ?_) | refine And.intro ?_ ?_ | (refine Need.mk ?_; first | with_reducible rfl | (show @Eq TC _ _; rfl) | omega | (simp only [adN_zero]; omega)) | exact OutS.whole rfl rfl)
  refine CodeK.loop gOk hE (fun i : Nat => ⟨[(0, vr 1000000 ys.length), (1, vi x), (5, vr 8 (insF x (ys.take i)).length), (6, vb (gtr x (ys.take i))), (7, vi i)], [(8, rI .own true (insF x (ys.take i))), (1000000, rI .own true ys)]⟩) (fun i => i ≤ ys.length ∧ (ys.take i).contains x = false) (fun i => ys.length - i) 0 (by refine leT.of ?_ ?_ rfl <;> repeat' (first | exact trivial | refine And.intro rfl ?_ | refine And.intro (by simp [insF, gtr] <;> rfl) ?_)) ⟨Nat.zero_le _, rfl⟩ ?_
  rintro i ⟨hi, hc⟩
  have hl := insF_len x (ys.take i)
  have hl2 : (ys.take i).length = i := by simp; omega
  rcases Nat.lt_or_ge i ys.length with hlt | hge
  · have e3 := take_snoc ys i hlt
    have hI : insF x (ys.take (i + 1)) = insF x (ys.take i) ++ (if !gtr x (ys.take i) && decide (x < ys.getD i 0) then [x, ys.getD i 0] else [ys.getD i 0]) := by rw [e3, insF_snoc]
    have hG : gtr x (ys.take (i + 1)) = (gtr x (ys.take i) || decide (x < ys.getD i 0)) := by rw [e3, gtr_snoc]
    rcases hg : gtr x (ys.take i)
    all_goals by_cases hxy : x < ys.getD i 0
    all_goals first | rw [hg, decide_eq_true hxy] at hI hG | rw [hg, decide_eq_false hxy] at hI hG
    all_goals simp only [Bool.not_true, Bool.not_false, Bool.and_true, Bool.and_false, Bool.true_or, Bool.false_or, Bool.false_and, Bool.true_and, Bool.or_false, Bool.or_true, reduceIte, Bool.false_eq_true] at hI hG
    all_goals (repeat' (first | exact trivial | refine BS.d (fun h => ?_) (fun h => ?_) | refine BS.e (fun h => ?_) (fun h => ?_) | refine BS.ne (fun h => ?_) (fun h => ?_) | refine BS.n ?_ | refine BS.s (fun h => ?_) (fun h => ?_) | refine And.intro ?_ ?_ | (refine Need.mk ?_; first | with_reducible rfl | (show @Eq TC _ _; rfl) | omega | (simp only [adN_zero]; omega)) | exact OutS.whole rfl rfl))
    all_goals (try simp only [adN_zero] at *)
    all_goals first
      | (exfalso; first | omega | (simp_all; done))
      | (refine Need.mk ?_; omega)
      | (refine Need.mk ?_; unfold maxLen; simp; omega)
      | (refine OutS.whole rfl ?_; rw [lput, if_pos (has_getD hlt (by assumption))]; rfl)
      | (refine ⟨i + 1, (by refine leT.of ?_ ?_ rfl <;> repeat' (first | exact trivial | refine And.intro rfl ?_ | refine And.intro (by first | rfl | (rw [hG]; rfl) | (rw [hI]; simp <;> rfl)) ?_)), ⟨by omega, take_no hlt hc (by assumption)⟩, by first | omega | (dsimp only; omega)⟩)
      | trace_state
  · have ht : ys.take i = ys := List.take_of_length_le hge
    rw [ht] at hc
    rcases hg : gtr x (ys.take i)
    all_goals rw [ht] at hg
    all_goals (repeat' (first | exact trivial | refine BS.d (fun h => ?_) (fun h => ?_) | refine BS.e (fun h => ?_) (fun h => ?_) | refine BS.ne (fun h => ?_) (fun h => ?_) | refine BS.n ?_ | refine BS.s (fun h => ?_) (fun h => ?_) | refine And.intro ?_ ?_ | (refine Need.mk ?_; first | with_reducible rfl | (show @Eq TC _ _; rfl) | omega | (simp only [adN_zero]; omega)) | exact OutS.whole rfl rfl))
    all_goals (try simp only [adN_zero] at *)
    all_goals first
      | (exfalso; first | omega | (simp_all; done))
      | (refine Need.mk ?_; omega)
      | (refine Need.mk ?_; unfold maxLen; simp; omega)
      | (refine OutS.whole rfl ?_; rw [lput, if_neg (by rw [hc]; simp), hg, ht]; rfl)
      | trace_state
end Go.Proofs.Ytkafibaoikmccab
