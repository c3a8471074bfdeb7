import Derived.Test.YtbfkdbbgbdihdaaTC
import Derived.Test.YtbfkdbbgbdihdaaVZ
namespace Go.Proofs.Ytbfkdbbgbdihdaa
open Go Go.Tr
set_option maxRecDepth 100000
set_option maxHeartbeats 4000000
set_option linter.unusedVariables false
set_option linter.unusedSimpArgs false
def pl (xs : List TEvT) (k s : Int) (j : Nat) : Bool := decide ((xs.getD j zTEv).1 = k) && decide ((xs.getD j zTEv).2.2.1 = s)
def plR : Option Nat → Int
  | some j => (j : Int)
  | none => -1
theorem firstP_lt {p : Nat → Bool} : ∀ {m i j : Nat}, firstP p i m = some j → i ≤ j ∧ j < i + m ∧ p j = true
  | 0, i, j, h => by cases h
  | m + 1, i, j, h => by
    unfold firstP at h
    split at h
    · injection h with h; subst h; exact ⟨Nat.le_refl _, by omega, by assumption⟩
    · have := firstP_lt h; exact ⟨by omega, by omega, this.2.2⟩
theorem firstP_none {p : Nat → Bool} : ∀ {m i : Nat}, firstP p i m = none → ∀ j, i ≤ j → j < i + m → p j = false
  | 0, i, h, j, h1, h2 => by omega
  | m + 1, i, h, j, h1, h2 => by
    unfold firstP at h
    split at h
    · cases h
    · rename_i hp
      by_cases e : j = i
      · subst e; simpa using hp
      · exact firstP_none h j (by omega) (by omega)
/-- The place of the first event of this kind with this serial. -/
def plc (xs : List TEvT) (k s : Int) : Int := plR (firstP (pl xs k s) 0 xs.length)
theorem plc_bd (xs : List TEvT) (k s : Int) : -1 ≤ plc xs k s ∧ plc xs k s < xs.length := by
  unfold plc
  cases h : firstP (pl xs k s) 0 xs.length with
  | none => exact ⟨Int.le_refl _, by show (-1 : Int) < xs.length; omega⟩
  | some j => have := (firstP_lt h).2.1; exact ⟨by show (-1 : Int) ≤ (j : Int); omega, by show (j : Int) < xs.length; omega⟩
theorem PlaceOfS_run (e eC eR : Nat) (xs : List TEvT) (k s : Int) (hn : xs.length ≤ 1048576) : RunT Try.prog 23 [.one (.c (tTEv e eC eR xs)), ti k, ti s] [] [oi (plc xs k s)] [] := by
  refine RunT.of_vc gOk Try.func23 rfl rfl (Nat.le_of_ble_eq_true rfl) (by repeat' (first | exact trivial | exact ⟨_, rfl, Nat.le_refl _⟩ | exact Nat.le_of_ble_eq_true rfl | refine And.intro ?_ ?_)) (Nat.le_of_ble_eq_true rfl) rfl (fun F hE => ?_)
  repeat' (first | exact trivial | refine BS.d (fun h => ?_) (fun h => ?_) | refine BS.e (fun h => ?_) (fun h => ?_) | refine BS.ne (fun h => ?_) (fun h => ?_) | refine BS.n ?_ | refine BS.s (fun h => ?_) (fun h => ?_) | refine And.intro ?_ ?_ | (refine Need.mk ?_; first | with_reducible rfl | (show @Eq TC _ _; rfl) | omega | (simp only [adN_zero]; omega)) | exact OutS.whole rfl rfl | refine ListO.go gOk hE ?_)
  refine CodeK.loop gOk hE (fun i : Nat => ⟨[(0, vr 1000000 xs.length), (1, vi k), (2, vi s), (7, vi i)], [(1000000, rTEv .fro false e eC eR xs)]⟩) (fun i => i ≤ xs.length ∧ plc xs k s = plR (firstP (pl xs k s) i (xs.length - i))) (fun i => xs.length - i) 0 (by refine leT.of ?_ ?_ rfl <;> repeat' (first | exact trivial | refine And.intro rfl ?_ | refine And.intro (by simp) ?_)) ⟨Nat.zero_le _, rfl⟩ ?_
  rintro i ⟨hi, hs⟩
  rcases hp : pl xs k s i
  all_goals (have hp0 := hp; simp only [pl, Bool.and_eq_true, Bool.and_eq_false_imp, decide_eq_true_eq, decide_eq_false_iff_not] at hp)
  all_goals (repeat' (first | exact trivial | refine BS.d (fun h => ?_) (fun h => ?_) | refine BS.e (fun h => ?_) (fun h => ?_) | refine BS.ne (fun h => ?_) (fun h => ?_) | refine BS.n ?_ | refine BS.s (fun h => ?_) (fun h => ?_) | refine And.intro ?_ ?_ | (refine Need.mk ?_; first | with_reducible rfl | (show @Eq TC _ _; rfl) | omega | (simp only [adN_zero]; omega)) | exact OutS.whole rfl rfl | refine ListO.go gOk hE ?_))
  all_goals (try simp only [adN_zero] at *)
  all_goals first
    | (exfalso; first | omega | (simp_all; done))
    | (refine Need.mk ?_; rw [hs, firstP_yes (by omega) hp0]; rfl)
    | (refine Need.mk ?_; rw [hs, show xs.length - i = 0 by omega]; rfl)
    | (refine ⟨i + 1, (by refine leT.of ?_ ?_ rfl <;> repeat' (first | exact trivial | refine And.intro rfl ?_ | refine And.intro (by simp) ?_)), ⟨by omega, by rw [hs, firstP_no (by omega) hp0, show xs.length - i - 1 = xs.length - (i + 1) by omega]⟩, by first | omega | (dsimp only; omega)⟩)
theorem PlaceOf1_run (eC eR : Nat) (x : TEvT) (k s : Int) (g1 j1 g2 j2 : Nat) : RunH Try.prog (hcL [(g1, j1, .int .i64 k), (g2, j2, .int .i64 s)]) 58 [aTEv eC eR x, .one (.c (.lit (.pointer (some ⟨g1, j1, none⟩)))), .one (.c (.lit (.pointer (some ⟨g2, j2, none⟩))))] [] [ob (decide (x.1 = k) && decide (x.2.2.1 = s))] [] := by
  refine RunH.of_vc gOk Try.func58 rfl rfl (Nat.le_of_ble_eq_true rfl) (by repeat' (first | exact trivial | exact ⟨_, rfl, Nat.le_refl _⟩ | exact Nat.le_of_ble_eq_true rfl | refine And.intro ?_ ?_)) (Nat.le_of_ble_eq_true rfl) rfl (fun F hE hA => ?_)
  repeat' (first | exact trivial | refine BS.d (fun h => ?_) (fun h => ?_) | refine BS.e (fun h => ?_) (fun h => ?_) | refine BS.ne (fun h => ?_) (fun h => ?_) | refine BS.n ?_ | refine BS.s (fun h => ?_) (fun h => ?_) | refine And.intro ?_ ?_ | (refine Need.mk ?_; first | with_reducible rfl | (show @Eq TC _ _; rfl) | omega | (simp only [adN_zero]; omega)) | exact OutS.whole rfl rfl | (first | refine OpK.ldI gOk 0 hA rfl rfl rfl rfl rfl rfl rfl ?_ | refine OpK.ldI gOk 1 hA rfl rfl rfl rfl rfl rfl rfl ?_ | refine OpK.ldI gOk 2 hA rfl rfl rfl rfl rfl rfl rfl ?_) | refine ListO.go gOk hE ?_)
  all_goals (refine Need.mk ?_; simp_all [Bool.beq_eq_decide_eq])
theorem IndexTEv_run {hc : Hc} {cf : Nat} {caps : Array Value} (p : TEvT → Bool) (e eC eR : Nat) (xs : List TEvT) (hn : xs.length ≤ 1048576) (hcs : ∀ v ∈ caps, scal v = true) (hf : ∀ x : TEvT, RunH Try.prog hc cf ([aTEv eC eR x] ++ capA caps) [] [ob (p x)] []) :
    RunH Try.prog hc 57 [.one (.c (tTEv e eC eR xs)), .one (.c (.lit (.func (.func cf) #[] caps)))] [] [oi (plR (firstP (fun j => p (xs.getD j zTEv)) 0 xs.length))] [] := by
  refine RunH.of_vc gOk Try.func57 rfl rfl (Nat.le_of_ble_eq_true rfl) (by repeat' (first | exact trivial | exact ⟨_, rfl, Nat.le_refl _⟩ | exact Nat.le_of_ble_eq_true rfl | refine And.intro ?_ ?_)) (Nat.le_of_ble_eq_true rfl) rfl (fun F hE hA => ?_)
  repeat' (first | exact trivial | refine BS.d (fun h => ?_) (fun h => ?_) | refine BS.e (fun h => ?_) (fun h => ?_) | refine BS.ne (fun h => ?_) (fun h => ?_) | refine BS.n ?_ | refine BS.s (fun h => ?_) (fun h => ?_) | refine And.intro ?_ ?_ | (refine Need.mk ?_; first | with_reducible rfl | (show @Eq TC _ _; rfl) | omega | (simp only [adN_zero]; omega)) | exact OutS.whole rfl rfl | refine ListO.go gOk hE ?_)
  refine CodeK.loop gOk hE (fun i : Nat => ⟨[(0, vr 1000000 xs.length), (1, .a (.lit (.func (.func cf) #[] caps))), (7, vi xs.length), (8, vi i)], [(1000000, rTEv .fro false e eC eR xs)]⟩) (fun i => i ≤ xs.length ∧ firstP (fun j => p (xs.getD j zTEv)) 0 xs.length = firstP (fun j => p (xs.getD j zTEv)) i (xs.length - i)) (fun i => xs.length - i) 0 (by refine leT.of ?_ ?_ rfl <;> repeat' (first | exact trivial | refine And.intro rfl ?_ | refine And.intro (by simp) ?_)) ⟨Nat.zero_le _, rfl⟩ ?_
  rintro i ⟨hi, hs⟩
  rcases hp : p (xs.getD i zTEv)
  all_goals (have c1 := hf (xs.getD i zTEv); rw [hp] at c1)
  all_goals (repeat' (first | exact trivial | refine BS.d (fun h => ?_) (fun h => ?_) | refine BS.e (fun h => ?_) (fun h => ?_) | refine BS.ne (fun h => ?_) (fun h => ?_) | refine BS.n ?_ | refine BS.s (fun h => ?_) (fun h => ?_) | refine And.intro ?_ ?_ | (refine Need.mk ?_; first | with_reducible rfl | (show @Eq TC _ _; rfl) | omega | (simp only [adN_zero]; omega)) | exact OutS.whole rfl rfl | (refine OpK.callC c1 hA hcs rfl rfl rfl rfl hE ?_ rfl rfl ?_; focus ((repeat' (first | exact PsA.lit _ | exact PsA.ref rfl rfl | constructor)); all_goals (fail "ps"))) | refine ListO.go gOk hE ?_))
  all_goals (try simp only [adN_zero] at *)
  all_goals first
    | (exfalso; first | omega | (simp_all; done))
    | (refine Need.mk ?_; omega)
    | (refine Need.mk ?_; rw [hs, firstP_yes (by omega) hp]; rfl)
    | (refine Need.mk ?_; rw [hs, show xs.length - i = 0 by omega]; rfl)
    | (refine ⟨i + 1, (by refine leT.of ?_ ?_ rfl <;> repeat' (first | exact trivial | refine And.intro rfl ?_ | refine And.intro (by simp) ?_)), ⟨by omega, by rw [hs, firstP_no (by omega) hp, show xs.length - i - 1 = xs.length - (i + 1) by omega]⟩, by first | omega | (dsimp only; omega)⟩)
theorem PlaceOfI_run (e eC eR : Nat) (xs : List TEvT) (k s : Int) (hn : xs.length ≤ 1048576) : RunT Try.prog 25 [.one (.c (tTEv e eC eR xs)), ti k, ti s] [] [oi (plc xs k s)] [] := by
  refine RunH.toT ?_
  have c1 : ∀ ps : List (Nat × Nat), ps.length = 2 → RunH Try.prog (hcU (hcL (hcOf ps [.int .i64 k, .int .i64 s])) hc0) 57 [.one (.c (tTEv e eC eR xs)), .one (.c (.lit (.func (.func 58) #[] (ptrs ps))))] [] [oi (plc xs k s)] [] := by
    intro ps hps
    match ps, hps with
    | [(g1, j1), (g2, j2)], _ =>
      exact (IndexTEv_run (caps := ptrs [(g1, j1), (g2, j2)]) (fun x : TEvT => decide (x.1 = k) && decide (x.2.2.1 = s)) e eC eR xs hn (ptrs_scal _) (fun x => PlaceOf1_run eC eR x k s g1 j1 g2 j2)).mono (fun g j v hm => .inl hm)
  refine RunH.of_vc gOk Try.func25 rfl rfl (Nat.le_of_ble_eq_true rfl) (by repeat' (first | exact trivial | exact ⟨_, rfl, Nat.le_refl _⟩ | exact Nat.le_of_ble_eq_true rfl | refine And.intro ?_ ?_)) (Nat.le_of_ble_eq_true rfl) rfl (fun F hE hA => ?_)
  repeat' (first | exact trivial | refine BS.d (fun h => ?_) (fun h => ?_) | refine BS.e (fun h => ?_) (fun h => ?_) | refine BS.ne (fun h => ?_) (fun h => ?_) | refine BS.n ?_ | refine BS.s (fun h => ?_) (fun h => ?_) | refine And.intro ?_ ?_ | (refine Need.mk ?_; first | with_reducible rfl | (show @Eq TC _ _; rfl) | omega | (simp only [adN_zero]; omega)) | exact OutS.whole rfl rfl | refine ListO.go gOk hE ?_)
  (refine ListK.mkCall (args := (fun v => [.one (.c (tTEv e eC eR xs)), .one (.c (.lit v))])) rfl rfl rfl rfl (.cons rfl rfl (.cons rfl rfl .nil)) hA c1 rfl rfl rfl rfl rfl hE ?_ rfl rfl ?_ gOk; focus (intro v; (repeat' (first | exact PsA.lit _ | exact PsA.ref rfl rfl | constructor)); all_goals (fail "ps")))
  repeat' (first | exact trivial | refine BS.d (fun h => ?_) (fun h => ?_) | refine BS.e (fun h => ?_) (fun h => ?_) | refine BS.ne (fun h => ?_) (fun h => ?_) | refine BS.n ?_ | refine BS.s (fun h => ?_) (fun h => ?_) | refine And.intro ?_ ?_ | (refine Need.mk ?_; first | with_reducible rfl | (show @Eq TC _ _; rfl) | omega | (simp only [adN_zero]; omega)) | exact OutS.whole rfl rfl | refine ListO.go gOk hE ?_)
theorem InTimeS_run (e eC eR : Nat) (xs : List TEvT) (a b : Int) (hn : xs.length ≤ 1048576) : RunT Try.prog 30 [.one (.c (tTEv e eC eR xs)), ti a, ti b] [] [ob (decide (0 ≤ plc xs 3 a ∧ 0 ≤ plc xs 1 b ∧ plc xs 3 a < plc xs 1 b))] [] := by
  have c1 := PlaceOfS_run e eC eR xs 3 a hn
  have c2 := PlaceOfS_run e eC eR xs 1 b hn
  refine RunT.of_vc gOk Try.func30 rfl rfl (Nat.le_of_ble_eq_true rfl) (by repeat' (first | exact trivial | exact ⟨_, rfl, Nat.le_refl _⟩ | exact Nat.le_of_ble_eq_true rfl | refine And.intro ?_ ?_)) (Nat.le_of_ble_eq_true rfl) rfl (fun F hE => ?_)
  repeat' (first | exact trivial | refine BS.d (fun h => ?_) (fun h => ?_) | refine BS.e (fun h => ?_) (fun h => ?_) | refine BS.ne (fun h => ?_) (fun h => ?_) | refine BS.n ?_ | refine BS.s (fun h => ?_) (fun h => ?_) | refine And.intro ?_ ?_ | (refine Need.mk ?_; first | with_reducible rfl | (show @Eq TC _ _; rfl) | omega | (simp only [adN_zero]; omega)) | exact OutS.whole rfl rfl | (refine OpK.call c1 rfl rfl rfl rfl hE ?_ rfl rfl ?_; focus ((repeat' (first | exact PsA.lit _ | exact PsA.ref rfl rfl | constructor)); all_goals (fail "ps"))) | (refine OpK.call c2 rfl rfl rfl rfl hE ?_ rfl rfl ?_; focus ((repeat' (first | exact PsA.lit _ | exact PsA.ref rfl rfl | constructor)); all_goals (fail "ps"))) | refine ListO.go gOk hE ?_)
  all_goals (refine Need.mk ?_; first | rfl | (symm; apply decide_eq_true; omega) | (symm; apply decide_eq_false; omega) | (apply decide_eq_decide.2; omega) | (simp only [beq_iff_eq, Bool.beq_eq_decide_eq] at *; apply decide_eq_decide.2; omega) | (simp; omega))
theorem InTimeI_run (e eC eR : Nat) (xs : List TEvT) (a b : Int) (hn : xs.length ≤ 1048576) : RunT Try.prog 31 [.one (.c (tTEv e eC eR xs)), ti a, ti b] [] [ob (decide (0 ≤ plc xs 3 a ∧ 0 ≤ plc xs 1 b ∧ plc xs 3 a < plc xs 1 b))] [] := by
  have c1 := PlaceOfI_run e eC eR xs 3 a hn
  have c2 := PlaceOfI_run e eC eR xs 1 b hn
  refine RunT.of_vc gOk Try.func31 rfl rfl (Nat.le_of_ble_eq_true rfl) (by repeat' (first | exact trivial | exact ⟨_, rfl, Nat.le_refl _⟩ | exact Nat.le_of_ble_eq_true rfl | refine And.intro ?_ ?_)) (Nat.le_of_ble_eq_true rfl) rfl (fun F hE => ?_)
  repeat' (first | exact trivial | refine BS.d (fun h => ?_) (fun h => ?_) | refine BS.e (fun h => ?_) (fun h => ?_) | refine BS.ne (fun h => ?_) (fun h => ?_) | refine BS.n ?_ | refine BS.s (fun h => ?_) (fun h => ?_) | refine And.intro ?_ ?_ | (refine Need.mk ?_; first | with_reducible rfl | (show @Eq TC _ _; rfl) | omega | (simp only [adN_zero]; omega)) | exact OutS.whole rfl rfl | (refine OpK.call c1 rfl rfl rfl rfl hE ?_ rfl rfl ?_; focus ((repeat' (first | exact PsA.lit _ | exact PsA.ref rfl rfl | constructor)); all_goals (fail "ps"))) | (refine OpK.call c2 rfl rfl rfl rfl hE ?_ rfl rfl ?_; focus ((repeat' (first | exact PsA.lit _ | exact PsA.ref rfl rfl | constructor)); all_goals (fail "ps"))) | refine ListO.go gOk hE ?_)
  all_goals (refine Need.mk ?_; first | rfl | (symm; apply decide_eq_true; omega) | (symm; apply decide_eq_false; omega) | (apply decide_eq_decide.2; omega) | (simp only [beq_iff_eq, Bool.beq_eq_decide_eq] at *; apply decide_eq_decide.2; omega) | (simp; omega))
end Go.Proofs.Ytbfkdbbgbdihdaa
