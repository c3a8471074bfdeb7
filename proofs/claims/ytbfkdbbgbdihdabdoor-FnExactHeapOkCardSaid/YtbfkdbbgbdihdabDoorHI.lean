import Derived.Test.YtbfkdbbgbdihdabDoorHH
namespace Go.Proofs.YtbfkdbbgbdihdabDoor
open Go Go.Tr
set_option maxRecDepth 100000
set_option maxHeartbeats 4000000
set_option linter.unusedVariables false
set_option linter.unusedSimpArgs false
/-- What a heap must be. -/
def hpP (b c : List Int) : Prop := shP b c ∧ ∀ p, p < 6 → pgP b c p
theorem HeapOkS_run (b c : List Int) (hb : b.length ≤ 1048576) (hc : c.length ≤ 1048576) : RunT Tryd.prog 5 [aH2 b c] [] [ob (dcB (hpP b c))] [] := by
  have c1 := l7Shape_run b c hb hc
  by_cases hsh : shP b c
  · rw [decide_eq_true hsh] at c1
    refine RunT.of_vc gOk Tryd.func5 rfl rfl (Nat.le_of_ble_eq_true rfl) (by repeat' (first | exact trivial | exact ⟨_, rfl, Nat.le_refl _⟩ | exact Nat.le_of_ble_eq_true rfl | refine And.intro ?_ ?_)) (Nat.le_of_ble_eq_true rfl) rfl (fun F hE => ?_)
    repeat' (first | exact trivial | refine BS.d (fun h => ?_) (fun h => ?_) | refine BS.e (fun h => ?_) (fun h => ?_) | refine BS.ne (fun h => ?_) (fun h => ?_) | refine BS.n ?_ | refine BS.s (fun h => ?_) (fun h => ?_) | refine And.intro ?_ ?_ | (refine Need.mk ?_; first | with_reducible rfl | (show @Eq TC _ _; rfl) | omega | (simp only [adN_zero]; omega)) | exact OutS.whole rfl rfl | (refine OpK.call c1 rfl rfl rfl rfl hE ?_ rfl rfl ?_; focus ((repeat' (first | exact PsA.lit _ | exact PsA.ref rfl rfl | constructor)); all_goals (fail "ps"))) | refine ListO.go gOk hE ?_)
    refine CodeK.loop gOk hE (fun i : Nat => ⟨[(1, .ptr 1 0 0), (3, vi i)], [(1, bH b c), (1000000, rI .fro false b), (1000001, rI .fro false c)]⟩) (fun i => i ≤ 6 ∧ ∀ j, j < i → pgP b c j) (fun i => 6 - i) 0 (by refine leT.of ?_ ?_ rfl <;> repeat' (first | exact trivial | refine And.intro rfl ?_ | refine And.intro (by simp) ?_)) ⟨Nat.zero_le _, fun j hj => absurd hj (Nat.not_lt_zero _)⟩ ?_
    rintro i ⟨hi, hq⟩
    by_cases hi2 : i < 6
    · have c2 := l7Page_run b c i hi2 hsh
      by_cases hp : pgP b c i
      · rw [dcB_true hp] at c2
        repeat' (first | exact trivial | refine BS.d (fun h => ?_) (fun h => ?_) | refine BS.e (fun h => ?_) (fun h => ?_) | refine BS.ne (fun h => ?_) (fun h => ?_) | refine BS.n ?_ | refine BS.s (fun h => ?_) (fun h => ?_) | refine And.intro ?_ ?_ | (refine Need.mk ?_; first | with_reducible rfl | (show @Eq TC _ _; rfl) | omega | (simp only [adN_zero]; omega)) | exact OutS.whole rfl rfl | (refine OpK.call c2 rfl rfl rfl rfl hE ?_ rfl rfl ?_; focus ((repeat' (first | exact PsA.lit _ | exact PsA.ref rfl rfl | constructor)); all_goals (fail "ps"))) | refine ListO.go gOk hE ?_)
        all_goals first
          | (exfalso; omega)
          | (refine Need.mk ?_; omega)
          | (refine ⟨i + 1, (by refine leT.of ?_ ?_ rfl <;> repeat' (first | exact trivial | refine And.intro rfl ?_ | refine And.intro (by simp) ?_)), ⟨by omega, fun j hj => (Nat.lt_or_ge j i).elim (hq j) (fun h9 => (show j = i by omega) ▸ hp)⟩, by first | omega | (dsimp only; omega)⟩)
          | trace_state
      · rw [dcB_false hp] at c2
        repeat' (first | exact trivial | refine BS.d (fun h => ?_) (fun h => ?_) | refine BS.e (fun h => ?_) (fun h => ?_) | refine BS.ne (fun h => ?_) (fun h => ?_) | refine BS.n ?_ | refine BS.s (fun h => ?_) (fun h => ?_) | refine And.intro ?_ ?_ | (refine Need.mk ?_; first | with_reducible rfl | (show @Eq TC _ _; rfl) | omega | (simp only [adN_zero]; omega)) | exact OutS.whole rfl rfl | (refine OpK.call c2 rfl rfl rfl rfl hE ?_ rfl rfl ?_; focus ((repeat' (first | exact PsA.lit _ | exact PsA.ref rfl rfl | constructor)); all_goals (fail "ps"))) | refine ListO.go gOk hE ?_)
        all_goals first
          | (exfalso; omega)
          | (refine Need.mk ?_; symm; apply dcB_false; intro hh; exact hp (hh.2 i hi2))
          | trace_state
    · repeat' (first | exact trivial | refine BS.d (fun h => ?_) (fun h => ?_) | refine BS.e (fun h => ?_) (fun h => ?_) | refine BS.ne (fun h => ?_) (fun h => ?_) | refine BS.n ?_ | refine BS.s (fun h => ?_) (fun h => ?_) | refine And.intro ?_ ?_ | (refine Need.mk ?_; first | with_reducible rfl | (show @Eq TC _ _; rfl) | omega | (simp only [adN_zero]; omega)) | exact OutS.whole rfl rfl | refine ListO.go gOk hE ?_)
      all_goals first
        | (exfalso; omega)
        | (refine Need.mk ?_; symm; apply dcB_true; exact ⟨hsh, fun j hj => hq j (by omega)⟩)
        | trace_state
  · rw [decide_eq_false hsh] at c1
    rw [dcB_false (fun h => hsh h.1)]
    refine RunT.of_vc gOk Tryd.func5 rfl rfl (Nat.le_of_ble_eq_true rfl) (by repeat' (first | exact trivial | exact ⟨_, rfl, Nat.le_refl _⟩ | exact Nat.le_of_ble_eq_true rfl | refine And.intro ?_ ?_)) (Nat.le_of_ble_eq_true rfl) rfl (fun F hE => ?_)
    repeat' (first | exact trivial | refine BS.d (fun h => ?_) (fun h => ?_) | refine BS.e (fun h => ?_) (fun h => ?_) | refine BS.ne (fun h => ?_) (fun h => ?_) | refine BS.n ?_ | refine BS.s (fun h => ?_) (fun h => ?_) | refine And.intro ?_ ?_ | (refine Need.mk ?_; first | with_reducible rfl | (show @Eq TC _ _; rfl) | omega | (simp only [adN_zero]; omega)) | exact OutS.whole rfl rfl | (refine OpK.call c1 rfl rfl rfl rfl hE ?_ rfl rfl ?_; focus ((repeat' (first | exact PsA.lit _ | exact PsA.ref rfl rfl | constructor)); all_goals (fail "ps"))) | refine ListO.go gOk hE ?_)
theorem zero_seg {b : List Int} {p : Nat} (hp : p < 6) (hb : b.length = 384) : zeroP ((b.drop (p * 64)).take 64) ↔ zrP b (p * 64) 64 := by
  have hg : ∀ j, j < 64 → ((b.drop (p * 64)).take 64).getD j 0 = b.getD (p * 64 + j) 0 := fun j hj => by
    rw [List.getD_eq_getElem?_getD, List.getD_eq_getElem?_getD, List.getElem?_take, if_pos hj, List.getElem?_drop]
  have hl : ((b.drop (p * 64)).take 64).length = 64 := by simp; omega
  constructor
  · intro h j hj; rw [← hg j hj]; exact h j (by omega)
  · intro h j hj; rw [hl] at hj; rw [hg j hj]; exact h j hj
/-- A page's head. -/
def hdF (k : Int) (i : Nat) : Int := if i = 0 then 171 else if i = 1 then k else if i = 2 then perC k else 0
theorem hd_iff {b : List Int} {p : Nat} {k : Int} : (∀ i ∈ List.range 8, b.getD (p * 64 + i) 0 = hdF k i) ↔ hdP b (p * 64) k := by
  constructor
  · intro h
    refine ⟨h 0 (by simp), h 1 (by simp), h 2 (by simp), fun j hj => ?_⟩
    have h9 := h (3 + j) (by simp; omega)
    rw [show p * 64 + (3 + j) = p * 64 + 3 + j by omega] at h9
    rw [h9]; unfold hdF; rw [if_neg (by omega), if_neg (by omega), if_neg (by omega)]
  · rintro ⟨h0, h1, h2, h3⟩ i hi
    have hi := List.mem_range.1 hi
    match i, hi with
    | 0, _ => exact h0
    | 1, _ => exact h1
    | 2, _ => exact h2
    | 3, _ => exact h3 0 (by decide)
    | 4, _ => exact h3 1 (by decide)
    | 5, _ => exact h3 2 (by decide)
    | 6, _ => exact h3 3 (by decide)
    | 7, _ => exact h3 4 (by decide)
abbrev hdX (b : List Int) (p : Nat) : List Value := (List.range 8).map fun q => .int .i64 (b.getD (p * 64 + q) 0)
abbrev hdY (k : Int) : List Value := [.int .i64 171, .int .i64 k, .int .i64 (perC k), .int .i64 0, .int .i64 0, .int .i64 0, .int .i64 0, .int .i64 0]
theorem hd_run (b : List Int) (p : Nat) (k : Int) (w : World) : (Op.equalIn 10000 35 (.agg (hdX b p).toArray) (.agg (hdY k).toArray)).run Tryd.prog w = .ok (dcB (hdP b (p * 64) k)) w := by
  obtain ⟨inf, hi⟩ : ∃ inf, Tryd.prog.info? 3 = some inf := Option.isSome_iff_exists.1 (by kernel_rfl)
  rw [arr_eq (n := 8) (e := 3) Tryd.underlying35 Tryd.underlying3 hi (by kernel_rfl) (fun i => b.getD (p * 64 + i) 0) (hdF k) _ _ (fun i hi => ?_) (fun i hi => ?_)]
  · congr 1
    by_cases h : hdP b (p * 64) k
    · rw [dcB_true h]; exact decide_eq_true (hd_iff.2 h)
    · rw [dcB_false h]; exact decide_eq_false (fun hh => h (hd_iff.1 hh))
  · simp [hi]
  · match i, hi with
    | 0, _ => rfl
    | 1, _ => rfl
    | 2, _ => rfl
    | 3, _ => rfl
    | 4, _ => rfl
    | 5, _ => rfl
    | 6, _ => rfl
    | 7, _ => rfl
end Go.Proofs.YtbfkdbbgbdihdabDoor
