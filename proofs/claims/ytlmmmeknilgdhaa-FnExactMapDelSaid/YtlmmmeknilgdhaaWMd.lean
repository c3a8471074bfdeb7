/- MapDel in both packages. -/
import Derived.Test.YtlmmmeknilgdhaaWDKV
import Derived.Test.YtlmmmeknilgdhaaWClKV
namespace Go.Proofs.Ytlmmmeknilgdhaa
open Go Go.Tr
set_option maxRecDepth 100000
set_option maxHeartbeats 4000000
set_option linter.unusedVariables false
set_option linter.unusedSimpArgs false
def mdel (xs : List KVT) (key : Int) : List KVT := xs.filter fun x => !decide (x.1 = key)
theorem mdel_succ (xs : List KVT) (key : Int) {i : Nat} (h : i < xs.length) : mdel (xs.take (i + 1)) key = if (xs.getD i zKV).1 = key then mdel (xs.take i) key else mdel (xs.take i) key ++ [xs.getD i zKV] := by
  have := kpKV_succ (fun x => decide (x.1 = key)) xs h
  unfold kpKV at this
  unfold mdel
  rw [this]
  by_cases hp : (xs.getD i zKV).1 = key
  · rw [if_pos hp, if_pos (by simpa using hp)]
  · rw [if_neg hp, if_neg (by simpa using hp)]
theorem mdel_le (xs : List KVT) (key : Int) : (mdel xs key).length ≤ xs.length := List.length_filter_le _ _
theorem MapDelS_run (e : Nat) (xs : List KVT) (key : Int) (hn : xs.length ≤ 4000000) : RunT Try.prog 16 [.one (.c (tKV e xs)), ti key] [] [.one (tKV 136 (mdel xs key))] [] := by
  refine RunT.of_vc gOk Try.func16 rfl rfl (Nat.le_of_ble_eq_true rfl) (by repeat' (first | exact trivial | exact ⟨_, rfl, Nat.le_refl _⟩ | exact Nat.le_of_ble_eq_true rfl | refine And.intro ?_ ?_)) (Nat.le_of_ble_eq_true rfl) rfl (fun F hE => ?_)
  repeat' (first | exact trivial | refine BS.d (fun h => ?_) (fun h => ?_) | refine BS.e (fun h => ?_) (fun h => ?_) | refine BS.ne (fun h => ?_) (fun h => ?_) | refine BS.n ?_ | refine BS.s (fun h => ?_) (fun h => ?_) | refine And.intro ?_ ?_ | (refine Need.mk ?_; first | with_reducible rfl | (show @Eq TC _ _; rfl) | omega | (simp only [adN_zero]; omega)) | exact OutS.whole rfl rfl | refine ListO.go gOk hE ?_)
  refine CodeK.loop gOk hE (fun i : Nat => ⟨[(0, vr 1000000 xs.length), (1, vi key), (5, vr 7 (mdel (xs.take i) key).length), (6, vi i)], [(7, rKV .own true 136 (mdel (xs.take i) key)), (1000000, rKV .fro false e xs)]⟩) (fun i => i ≤ xs.length) (fun i => xs.length - i) 0 (by refine leT.of ?_ ?_ rfl <;> repeat' (first | exact trivial | refine And.intro rfl ?_ | refine And.intro (by first | rfl | (simp [mdel] <;> rfl)) ?_)) (Nat.zero_le _) ?_
  rintro i hi
  have hle := mdel_le (xs.take i) key
  rw [List.length_take] at hle
  by_cases hi2 : i < xs.length
  · have hsu := mdel_succ xs key hi2
    by_cases hp : (xs.getD i zKV).1 = key
    · rw [if_pos hp] at hsu
      repeat' (first | exact trivial | refine BS.d (fun h => ?_) (fun h => ?_) | refine BS.e (fun h => ?_) (fun h => ?_) | refine BS.ne (fun h => ?_) (fun h => ?_) | refine BS.n ?_ | refine BS.s (fun h => ?_) (fun h => ?_) | refine And.intro ?_ ?_ | (refine Need.mk ?_; first | with_reducible rfl | (show @Eq TC _ _; rfl) | omega | (simp only [adN_zero]; omega)) | exact OutS.whole rfl rfl | refine ListO.go gOk hE ?_)
      all_goals (try simp only [adN_zero] at *)
      all_goals first
        | (exfalso; first | omega | (simp_all; done))
        | (refine Need.mk ?_; omega)
        | (refine ⟨i + 1, (by refine leT.of ?_ ?_ rfl <;> repeat' (first | exact trivial | refine And.intro rfl ?_ | refine And.intro (by first | rfl | (rw [hsu]; rfl) | (simp [hsu] <;> rfl)) ?_)), by omega, by first | omega | (dsimp only; omega)⟩)
        | trace_state
    · rw [if_neg hp] at hsu
      repeat' (first | exact trivial | refine BS.d (fun h => ?_) (fun h => ?_) | refine BS.e (fun h => ?_) (fun h => ?_) | refine BS.ne (fun h => ?_) (fun h => ?_) | refine BS.n ?_ | refine BS.s (fun h => ?_) (fun h => ?_) | refine And.intro ?_ ?_ | (refine Need.mk ?_; first | with_reducible rfl | (show @Eq TC _ _; rfl) | omega | (simp only [adN_zero]; omega)) | exact OutS.whole rfl rfl | refine ListO.go gOk hE ?_)
      all_goals (try simp only [adN_zero] at *)
      all_goals first
        | (exfalso; first | omega | (simp_all; done))
        | (refine Need.mk ?_; first | omega | (refine ⟨?_, ?_⟩ <;> (try unfold maxLen) <;> omega))
        | (refine ⟨i + 1, (by refine leT.of ?_ ?_ rfl <;> repeat' (first | exact trivial | refine And.intro rfl ?_ | refine And.intro (by first | rfl | (rw [hsu]; rfl) | (simp [hsu] <;> rfl)) ?_)), by omega, by first | omega | (dsimp only; omega)⟩)
        | trace_state
  · repeat' (first | exact trivial | refine BS.d (fun h => ?_) (fun h => ?_) | refine BS.e (fun h => ?_) (fun h => ?_) | refine BS.ne (fun h => ?_) (fun h => ?_) | refine BS.n ?_ | refine BS.s (fun h => ?_) (fun h => ?_) | refine And.intro ?_ ?_ | (refine Need.mk ?_; first | with_reducible rfl | (show @Eq TC _ _; rfl) | omega | (simp only [adN_zero]; omega)) | exact OutS.whole rfl rfl | refine ListO.go gOk hE ?_)
    all_goals first
      | (exfalso; omega)
      | exact OutS.whole rfl (by rw [List.take_of_length_le (by omega)]; rfl)
      | trace_state
theorem MapDel1_run (x : KVT) (key : Int) (g1 j1 : Nat) : RunH Try.prog (hcL [(g1, j1, .int .i64 key)]) 81 [aKV x, .one (.c (.lit (.pointer (some ⟨g1, j1, none⟩))))] [] [ob (decide (x.1 = key))] [] := by
  refine RunH.of_vc gOk Try.func81 rfl rfl (Nat.le_of_ble_eq_true rfl) (by repeat' (first | exact trivial | exact ⟨_, rfl, Nat.le_refl _⟩ | exact Nat.le_of_ble_eq_true rfl | refine And.intro ?_ ?_)) (Nat.le_of_ble_eq_true rfl) rfl (fun F hE hA => ?_)
  repeat' (first | exact trivial | refine BS.d (fun h => ?_) (fun h => ?_) | refine BS.e (fun h => ?_) (fun h => ?_) | refine BS.ne (fun h => ?_) (fun h => ?_) | refine BS.n ?_ | refine BS.s (fun h => ?_) (fun h => ?_) | refine And.intro ?_ ?_ | (refine Need.mk ?_; first | with_reducible rfl | (show @Eq TC _ _; rfl) | omega | (simp only [adN_zero]; omega)) | exact OutS.whole rfl rfl | (first | refine OpK.ldI gOk 0 hA rfl rfl rfl rfl rfl rfl rfl ?_ | refine OpK.ldI gOk 1 hA rfl rfl rfl rfl rfl rfl rfl ?_ | refine OpK.ldI gOk 2 hA rfl rfl rfl rfl rfl rfl rfl ?_) | refine ListO.go gOk hE ?_)
  all_goals (refine Need.mk ?_; simp [Bool.beq_eq_decide_eq])
theorem MapDelI_run (e : Nat) (xs : List KVT) (key : Int) (hn : xs.length ≤ 1048576) : RunT Try.prog 18 [.one (.c (tKV e xs)), ti key] [] [.one (tKV 136 (mdel xs key))] [] := by
  refine RunH.toT ?_
  have c1 := CloneKV_run e xs hn
  have c2 : ∀ ps : List (Nat × Nat), ps.length = 1 → RunH Try.prog (hcU (hcL (hcOf ps [.int .i64 key])) hc0) 79 [.one (.m (tKV 136 xs)), .one (.c (.lit (.func (.func 81) #[] (ptrs ps))))] [] [.one (tKV 136 (mdel xs key))] [] := by
    intro ps hps
    match ps, hps with
    | [(g1, j1)], _ =>
      exact (DelKV_run (caps := ptrs [(g1, j1)]) (fun x => decide (x.1 = key)) _ xs (by omega) (ptrs_scal _) (fun x => MapDel1_run x key g1 j1)).mono (fun g j v hm => .inl hm)
  refine RunH.of_vc gOk Try.func18 rfl rfl (Nat.le_of_ble_eq_true rfl) (by repeat' (first | exact trivial | exact ⟨_, rfl, Nat.le_refl _⟩ | exact Nat.le_of_ble_eq_true rfl | refine And.intro ?_ ?_)) (Nat.le_of_ble_eq_true rfl) rfl (fun F hE hA => ?_)
  repeat' (first | exact trivial | refine BS.d (fun h => ?_) (fun h => ?_) | refine BS.e (fun h => ?_) (fun h => ?_) | refine BS.ne (fun h => ?_) (fun h => ?_) | refine BS.n ?_ | refine BS.s (fun h => ?_) (fun h => ?_) | refine And.intro ?_ ?_ | (refine Need.mk ?_; first | with_reducible rfl | (show @Eq TC _ _; rfl) | omega | (simp only [adN_zero]; omega)) | exact OutS.whole rfl rfl | (refine OpK.call c1 rfl rfl rfl rfl hE ?_ rfl rfl ?_; focus ((repeat' (first | exact PsA.lit _ | exact PsA.ref rfl rfl | constructor)); all_goals (fail "ps"))) | refine ListO.go gOk hE ?_)
  refine ListK.mkCallG (args := fun v => [.one (.m (tKV 136 xs)), .one (.c (.lit v))]) [(2000768, 0, 0)] rfl rfl rfl rfl (.cons rfl rfl .nil) rfl hA c2 rfl rfl rfl rfl hE (List.forall_mem_cons.2 ⟨rfl, fun _ h => nomatch h⟩) (fun v => QsVs.cons (.one (.m rfl rfl (.whole rfl rfl))) (.cons (.one (.c (.lit _) rfl)) .nil)) rfl rfl ?_ gOk
  repeat' (first | exact trivial | refine BS.d (fun h => ?_) (fun h => ?_) | refine BS.e (fun h => ?_) (fun h => ?_) | refine BS.ne (fun h => ?_) (fun h => ?_) | refine BS.n ?_ | refine BS.s (fun h => ?_) (fun h => ?_) | refine And.intro ?_ ?_ | (refine Need.mk ?_; first | with_reducible rfl | (show @Eq TC _ _; rfl) | omega | (simp only [adN_zero]; omega)) | exact OutS.whole rfl rfl | refine ListO.go gOk hE ?_)
  all_goals first | exact OutS.whole rfl rfl | trace_state
end Go.Proofs.Ytlmmmeknilgdhaa
