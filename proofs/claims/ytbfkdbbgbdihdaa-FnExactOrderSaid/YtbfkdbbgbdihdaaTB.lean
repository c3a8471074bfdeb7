import Derived.Test.YtbfkdbbgbdihdaaTCmd
import Derived.Test.YtbfkdbbgbdihdaaTRes
import Derived.Test.YtbfkdbbgbdihdaaTM
namespace Go.Proofs.Ytbfkdbbgbdihdaa
open Go Go.Tr
set_option maxRecDepth 100000
set_option maxHeartbeats 4000000
set_option linter.unusedVariables false
set_option linter.unusedSimpArgs false
/-- What is left of m behind an event; behind a list of them. -/
def szT (x : TEvT) (m : Int) : Int := if szI x.2.2.2.2.1 m < 0 then -1 else szI x.2.2.2.2.2 (szI x.2.2.2.2.1 m)
def szTs : List TEvT → Int → Int
  | [], m => m
  | x :: l, m => if szT x m < 0 then -1 else szTs l (szT x m)
def szTL (xs : List TEvT) (m : Int) : Int := if m - xs.length < 0 then -1 else szTs xs (m - xs.length)
theorem szI_bd {α : Type} (xs : List α) (m : Int) (h : 0 ≤ m) : szI xs m ≤ m ∧ -1 ≤ szI xs m ∧ (0 ≤ szI xs m → (xs.length : Int) ≤ m) := by unfold szI; split <;> omega
theorem szT_bd (x : TEvT) (m : Int) (h : 0 ≤ m) : szT x m ≤ m ∧ -1 ≤ szT x m ∧ (0 ≤ szT x m → (x.2.2.2.2.1.length : Int) ≤ m ∧ (x.2.2.2.2.2.length : Int) ≤ m) := by
  unfold szT
  have h1 := szI_bd x.2.2.2.2.1 m h
  split
  · omega
  · have h2 := szI_bd x.2.2.2.2.2 (szI x.2.2.2.2.1 m) (by omega)
    omega
theorem szTs_bd : ∀ (l : List TEvT) (m : Int), 0 ≤ m → szTs l m ≤ m ∧ -1 ≤ szTs l m ∧ (0 ≤ szTs l m → ∀ x ∈ l, (x.2.2.2.2.1.length : Int) ≤ m ∧ (x.2.2.2.2.2.length : Int) ≤ m)
  | [], m, h => ⟨Int.le_refl _, by simp [szTs]; omega, fun _ x hx => by simp at hx⟩
  | x :: l, m, h => by
    have h1 := szT_bd x m h
    unfold szTs
    split
    · exact ⟨by omega, by omega, fun h => by omega⟩
    · obtain ⟨k1, k2, k3⟩ := szTs_bd l (szT x m) (by omega)
      refine ⟨by omega, by omega, fun h4 y hy => ?_⟩
      rcases List.mem_cons.1 hy with rfl | hy
      · exact h1.2.2 (by omega)
      · have := k3 h4 y hy; omega
theorem szTEv_run (eC eR : Nat) (x : TEvT) (m : Int) (h0 : 0 ≤ m) (h1 : m ≤ 1048576) (hc : x.2.2.2.2.1.length ≤ 9223372036854775807) (hr : x.2.2.2.2.2.length ≤ 9223372036854775807) : RunT Try.prog 55 [aTEv eC eR x, ti m] [] [oi (szT x m)] [] := by
  have b1 := szI_bd x.2.2.2.2.1 m h0
  have c1 := szCmdS_run eC x.2.2.2.2.1 m h0 h1 hc
  refine RunT.of_vc gOk Try.func55 rfl rfl (Nat.le_of_ble_eq_true rfl) (by repeat' (first | exact trivial | exact ⟨_, rfl, Nat.le_refl _⟩ | exact Nat.le_of_ble_eq_true rfl | refine And.intro ?_ ?_)) (Nat.le_of_ble_eq_true rfl) rfl (fun F hE => ?_)
  repeat' (first | exact trivial | refine BS.d (fun h => ?_) (fun h => ?_) | refine BS.e (fun h => ?_) (fun h => ?_) | refine BS.ne (fun h => ?_) (fun h => ?_) | refine BS.n ?_ | refine BS.s (fun h => ?_) (fun h => ?_) | refine And.intro ?_ ?_ | (refine Need.mk ?_; first | with_reducible rfl | (show @Eq TC _ _; rfl) | omega | (simp only [adN_zero]; omega)) | exact OutS.whole rfl rfl | (refine OpK.call c1 rfl rfl rfl rfl hE ?_ rfl rfl ?_; focus ((repeat' (first | exact PsA.lit _ | exact PsA.ref rfl rfl | constructor)); all_goals (fail "ps"))))
  all_goals first | (refine Need.mk ?_; unfold szT; rw [if_pos (by assumption)]) | skip
  all_goals have c2 := szResS_run eR x.2.2.2.2.2 (szI x.2.2.2.2.1 m) (by omega) (by omega) hr
  all_goals (repeat' (first | exact trivial | refine BS.d (fun h => ?_) (fun h => ?_) | refine BS.e (fun h => ?_) (fun h => ?_) | refine BS.ne (fun h => ?_) (fun h => ?_) | refine BS.n ?_ | refine BS.s (fun h => ?_) (fun h => ?_) | refine And.intro ?_ ?_ | (refine Need.mk ?_; first | with_reducible rfl | (show @Eq TC _ _; rfl) | omega | (simp only [adN_zero]; omega)) | exact OutS.whole rfl rfl | (refine OpK.call c2 rfl rfl rfl rfl hE ?_ rfl rfl ?_; focus ((repeat' (first | exact PsA.lit _ | exact PsA.ref rfl rfl | constructor)); all_goals (fail "ps")))))
  all_goals (refine Need.mk ?_; unfold szT; rw [if_neg (by assumption)])
  all_goals (have b2 := szI_bd x.2.2.2.2.2 (szI x.2.2.2.2.1 m) (by omega); omega)
theorem toTEv_run (eC eR : Nat) (x : TEvT) (hc : x.2.2.2.2.1.length ≤ 1048576) (hr : x.2.2.2.2.2.length ≤ 1048576) : RunT Try.prog 56 [aTEv eC eR x] [] [oTEv 103 105 x] [] := by
  have c1 := toCmdS_run eC x.2.2.2.2.1 hc
  have c2 := toResS_run eR x.2.2.2.2.2 hr
  refine RunT.of_vc gOk Try.func56 rfl rfl (Nat.le_of_ble_eq_true rfl) (by repeat' (first | exact trivial | exact ⟨_, rfl, Nat.le_refl _⟩ | exact Nat.le_of_ble_eq_true rfl | refine And.intro ?_ ?_)) (Nat.le_of_ble_eq_true rfl) rfl (fun F hE => ?_)
  repeat' (first | exact trivial | refine BS.d (fun h => ?_) (fun h => ?_) | refine BS.e (fun h => ?_) (fun h => ?_) | refine BS.ne (fun h => ?_) (fun h => ?_) | refine BS.n ?_ | refine BS.s (fun h => ?_) (fun h => ?_) | refine And.intro ?_ ?_ | (refine Need.mk ?_; first | with_reducible rfl | (show @Eq TC _ _; rfl) | omega | (simp only [adN_zero]; omega)) | exact OutS.whole rfl rfl | (refine OpK.call c1 rfl rfl rfl rfl hE ?_ rfl rfl ?_; focus ((repeat' (first | exact PsA.lit _ | exact PsA.ref rfl rfl | constructor)); all_goals (fail "ps"))) | (refine OpK.call c2 rfl rfl rfl rfl hE ?_ rfl rfl ?_; focus ((repeat' (first | exact PsA.lit _ | exact PsA.ref rfl rfl | constructor)); all_goals (fail "ps"))))
theorem eqTEv_run (eC eR : Nat) (x : TEvT) (hc : x.2.2.2.2.1.length ≤ 4000000) (hr : x.2.2.2.2.2.length ≤ 4000000) : RunT Try.prog 59 [aTEv eC eR x, aTEv eC eR x] [] [ob true] [] := by
  have c1 := eqCmdS_run eC x.2.2.2.2.1 hc
  have c2 := eqResS_run eR x.2.2.2.2.2 hr
  refine RunT.of_vc gOk Try.func59 rfl rfl (Nat.le_of_ble_eq_true rfl) (by repeat' (first | exact trivial | exact ⟨_, rfl, Nat.le_refl _⟩ | exact Nat.le_of_ble_eq_true rfl | refine And.intro ?_ ?_)) (Nat.le_of_ble_eq_true rfl) rfl (fun F hE => ?_)
  repeat' (first | exact trivial | refine BS.d (fun h => ?_) (fun h => ?_) | refine BS.e (fun h => ?_) (fun h => ?_) | refine BS.ne (fun h => ?_) (fun h => ?_) | refine BS.n ?_ | refine BS.s (fun h => ?_) (fun h => ?_) | refine And.intro ?_ ?_ | (refine Need.mk ?_; first | with_reducible rfl | (show @Eq TC _ _; rfl) | omega | (simp only [adN_zero]; omega)) | exact OutS.whole rfl rfl | (refine OpK.call c1 rfl rfl rfl rfl hE ?_ rfl rfl ?_; focus ((repeat' (first | exact PsA.lit _ | exact PsA.ref rfl rfl | constructor)); all_goals (fail "ps"))) | (refine OpK.call c2 rfl rfl rfl rfl hE ?_ rfl rfl ?_; focus ((repeat' (first | exact PsA.lit _ | exact PsA.ref rfl rfl | constructor)); all_goals (fail "ps"))))
  all_goals (first | exact absurd rfl ‹_› | simp_all)
end Go.Proofs.Ytbfkdbbgbdihdaa
