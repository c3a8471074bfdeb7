import Derived.Test.YthfcpaplnifhiaaZCA
section
namespace Go.Proofs.Ythfcpaplnifhiaa
open Go Go.Tr
set_option maxRecDepth 100000
set_option linter.unusedVariables false
set_option linter.unusedSimpArgs false
theorem szWriteS_run (e : Nat) (xs : List WriteT) (m : Int) (h0 : 0 ≤ m) (h1 : m ≤ 1048576) (hn : xs.length ≤ 9223372036854775807) : RunT Try.prog 22 [.one (.c (tWrite e xs)), ti m] [] [oi (szI xs m)] [] := by
  refine RunT.of_vc gOk Try.func22 rfl rfl (Nat.le_of_ble_eq_true rfl) (by repeat' (first | exact trivial | exact ⟨_, rfl, Nat.le_refl _⟩ | exact Nat.le_of_ble_eq_true rfl | refine And.intro ?_ ?_)) (Nat.le_of_ble_eq_true rfl) rfl (fun F hE => ?_)
  repeat' (first | exact trivial | refine BS.d (fun h => ?_) (fun h => ?_) | refine BS.e (fun h => ?_) (fun h => ?_) | refine BS.ne (fun h => ?_) (fun h => ?_) | refine BS.n ?_ | refine BS.s (fun h => ?_) (fun h => ?_) | refine And.intro ?_ ?_ | (refine Need.mk ?_; first | with_reducible rfl | (show @Eq TC _ _; rfl) | omega | (simp only [adN_zero]; omega)) | exact OutS.whole rfl rfl | refine ListO.go gOk hE ?_)
  all_goals (refine Need.mk ?_; unfold szI; first | rw [if_pos (by omega)] | rw [if_neg (by omega)])
theorem toWrite_run (x : WriteT) : RunT Try.prog 25 [aWrite x] [] [oWrite x] [] := by
  refine RunT.of_vc gOk Try.func25 rfl rfl (Nat.le_of_ble_eq_true rfl) (by repeat' (first | exact trivial | exact ⟨_, rfl, Nat.le_refl _⟩ | exact Nat.le_of_ble_eq_true rfl | refine And.intro ?_ ?_)) (Nat.le_of_ble_eq_true rfl) rfl (fun F hE => ?_)
  repeat' (first | exact trivial | refine BS.d (fun h => ?_) (fun h => ?_) | refine BS.e (fun h => ?_) (fun h => ?_) | refine BS.ne (fun h => ?_) (fun h => ?_) | refine BS.n ?_ | refine BS.s (fun h => ?_) (fun h => ?_) | refine And.intro ?_ ?_ | (refine Need.mk ?_; first | with_reducible rfl | (show @Eq TC _ _; rfl) | omega | (simp only [adN_zero]; omega)) | exact OutS.whole rfl rfl | refine ListO.go gOk hE ?_)
theorem eqWrite_run (x : WriteT) : RunT Try.prog 97 [aWrite x, aWrite x] [] [ob true] [] := by
  refine RunT.of_vc gOk Try.func97 rfl rfl (Nat.le_of_ble_eq_true rfl) (by repeat' (first | exact trivial | exact ⟨_, rfl, Nat.le_refl _⟩ | exact Nat.le_of_ble_eq_true rfl | refine And.intro ?_ ?_)) (Nat.le_of_ble_eq_true rfl) rfl (fun F hE => ?_)
  repeat' (first | exact trivial | refine BS.d (fun h => ?_) (fun h => ?_) | refine BS.e (fun h => ?_) (fun h => ?_) | refine BS.ne (fun h => ?_) (fun h => ?_) | refine BS.n ?_ | refine BS.s (fun h => ?_) (fun h => ?_) | refine And.intro ?_ ?_ | (refine Need.mk ?_; first | with_reducible rfl | (show @Eq TC _ _; rfl) | omega | (simp only [adN_zero]; omega)) | exact OutS.whole rfl rfl | refine ListO.go gOk hE ?_)
  all_goals exact absurd rfl h
theorem toWriteS_run (e : Nat) (xs : List WriteT) (hn : xs.length ≤ 1048576) : RunT Try.prog 24 [.one (.c (tWrite e xs))] [] [.one (tWrite 37 xs)] [] := by
  refine RunT.of_vc gOk Try.func24 rfl rfl (Nat.le_of_ble_eq_true rfl) (by repeat' (first | exact trivial | exact ⟨_, rfl, Nat.le_refl _⟩ | exact Nat.le_of_ble_eq_true rfl | refine And.intro ?_ ?_)) (Nat.le_of_ble_eq_true rfl) rfl (fun F hE => ?_)
  repeat' (first | exact trivial | refine BS.d (fun h => ?_) (fun h => ?_) | refine BS.e (fun h => ?_) (fun h => ?_) | refine BS.ne (fun h => ?_) (fun h => ?_) | refine BS.n ?_ | refine BS.s (fun h => ?_) (fun h => ?_) | refine And.intro ?_ ?_ | (refine Need.mk ?_; first | with_reducible rfl | (show @Eq TC _ _; rfl) | omega | (simp only [adN_zero]; omega)) | exact OutS.whole rfl rfl | refine ListO.go gOk hE ?_)
  refine CodeK.loop gOk hE (fun i : Nat => ⟨[(0, vr 1000000 xs.length), (3, vr 7 xs.length), (4, vi i)], [(7, rWrite .own true 37 (fl zWrite xs i)), (1000000, rWrite .fro false e xs)]⟩) (fun i => i ≤ xs.length) (fun i => xs.length - i) 0 (by refine leT.of ?_ ?_ rfl <;> repeat' (first | exact trivial | refine And.intro rfl ?_ | refine And.intro (by simp [fl_zero] <;> rfl) ?_)) (Nat.zero_le _) ?_
  rintro i hi
  have hl := fl_len zWrite xs i hi
  repeat' (first | exact trivial | refine BS.d (fun h => ?_) (fun h => ?_) | refine BS.e (fun h => ?_) (fun h => ?_) | refine BS.ne (fun h => ?_) (fun h => ?_) | refine BS.n ?_ | refine BS.s (fun h => ?_) (fun h => ?_) | refine And.intro ?_ ?_ | (refine Need.mk ?_; first | with_reducible rfl | (show @Eq TC _ _; rfl) | omega | (simp only [adN_zero]; omega)) | exact OutS.whole rfl rfl | refine ListO.go gOk hE ?_)
  · refine OpK.call (toWrite_run (xs.getD i zWrite)) rfl rfl rfl rfl hE (by repeat' (first | exact PsA.lit _ | exact PsA.ref rfl rfl | constructor)) rfl rfl ?_
    repeat' (first | exact trivial | refine BS.d (fun h => ?_) (fun h => ?_) | refine BS.e (fun h => ?_) (fun h => ?_) | refine BS.ne (fun h => ?_) (fun h => ?_) | refine BS.n ?_ | refine BS.s (fun h => ?_) (fun h => ?_) | refine And.intro ?_ ?_ | (refine Need.mk ?_; first | with_reducible rfl | (show @Eq TC _ _; rfl) | omega | (simp only [adN_zero]; omega)) | exact OutS.whole rfl rfl | refine ListO.go gOk hE ?_)
    all_goals (refine ⟨i + 1, (by refine leT.of ?_ ?_ rfl <;> repeat' (first | exact trivial | refine And.intro rfl ?_ | refine And.intro (by first | (rw [← fl_set zWrite xs i (by omega)]; rfl) | (simp <;> rfl)) ?_)), ?_⟩; (refine And.intro ?_ ?_) <;> (first | omega | (dsimp only; omega) | trivial))
  · exact OutS.whole hl.symm (by rw [fl_full _ _ _ (by omega) hi]; rfl)
theorem eqWriteS_run (e : Nat) (xs : List WriteT) (hn : xs.length ≤ 4000000) : RunT Try.prog 27 [.one (.c (tWrite e xs)), .one (.c (tWrite e xs))] [] [ob true] [] := by
  refine RunT.of_vc gOk Try.func27 rfl rfl (Nat.le_of_ble_eq_true rfl) (by repeat' (first | exact trivial | exact ⟨_, rfl, Nat.le_refl _⟩ | exact Nat.le_of_ble_eq_true rfl | refine And.intro ?_ ?_)) (Nat.le_of_ble_eq_true rfl) rfl (fun F hE => ?_)
  repeat' (first | exact trivial | refine BS.d (fun h => ?_) (fun h => ?_) | refine BS.e (fun h => ?_) (fun h => ?_) | refine BS.ne (fun h => ?_) (fun h => ?_) | refine BS.n ?_ | refine BS.s (fun h => ?_) (fun h => ?_) | refine And.intro ?_ ?_ | (refine Need.mk ?_; first | with_reducible rfl | (show @Eq TC _ _; rfl) | omega | (simp only [adN_zero]; omega)) | exact OutS.whole rfl rfl | refine ListO.go gOk hE ?_)
  · refine CodeK.loop gOk hE (fun i : Nat => ⟨[(0, vr 1000000 xs.length), (1, vr 1000001 xs.length), (5, vi i)], [(1000000, rWrite .fro false e xs), (1000001, rWrite .fro false e xs)]⟩) (fun i => i ≤ xs.length) (fun i => xs.length - i) 0 (by refine leT.of ?_ ?_ rfl <;> repeat' (first | exact trivial | refine And.intro rfl ?_ | refine And.intro (by simp) ?_)) (Nat.zero_le _) ?_
    rintro i hi
    repeat' (first | exact trivial | refine BS.d (fun h => ?_) (fun h => ?_) | refine BS.e (fun h => ?_) (fun h => ?_) | refine BS.ne (fun h => ?_) (fun h => ?_) | refine BS.n ?_ | refine BS.s (fun h => ?_) (fun h => ?_) | refine And.intro ?_ ?_ | (refine Need.mk ?_; first | with_reducible rfl | (show @Eq TC _ _; rfl) | omega | (simp only [adN_zero]; omega)) | exact OutS.whole rfl rfl | refine ListO.go gOk hE ?_)
    · refine CodeK.draw gOk hE rfl (fun _ _ h => h) (.take 0 (.take 1 (.take 2 (.take 4 (.take 5 (.take 6 (.alt 3 (.alt 7 (.alt 8 (.take 9 .done) .stop) .stop) (.alt 7 (.alt 3 (.alt 8 (.take 9 .done) .stop) .stop) .stop)))))))) (by decide +kernel) ?_
      repeat' (first | exact trivial | refine BS.d (fun h => ?_) (fun h => ?_) | refine BS.e (fun h => ?_) (fun h => ?_) | refine BS.ne (fun h => ?_) (fun h => ?_) | refine BS.n ?_ | refine BS.s (fun h => ?_) (fun h => ?_) | refine And.intro ?_ ?_ | (refine Need.mk ?_; first | with_reducible rfl | (show @Eq TC _ _; rfl) | omega | (simp only [adN_zero]; omega)) | exact OutS.whole rfl rfl | refine ListO.go gOk hE ?_)
      all_goals (refine OpK.call (eqWrite_run _) rfl rfl rfl rfl hE (by repeat' (first | exact PsA.lit _ | exact PsA.ref rfl rfl | constructor)) rfl rfl ?_)
      all_goals (repeat' (first | exact trivial | refine BS.d (fun h => ?_) (fun h => ?_) | refine BS.e (fun h => ?_) (fun h => ?_) | refine BS.ne (fun h => ?_) (fun h => ?_) | refine BS.n ?_ | refine BS.s (fun h => ?_) (fun h => ?_) | refine And.intro ?_ ?_ | (refine Need.mk ?_; first | with_reducible rfl | (show @Eq TC _ _; rfl) | omega | (simp only [adN_zero]; omega)) | exact OutS.whole rfl rfl | refine ListO.go gOk hE ?_))
      all_goals (refine ⟨i + 1, (by refine leT.of ?_ ?_ rfl <;> repeat' (first | exact trivial | refine And.intro rfl ?_ | refine And.intro (by simp) ?_)), ?_⟩; (refine And.intro ?_ ?_) <;> (first | omega | (dsimp only; omega) | trivial))
theorem Writes_of {e e' n : Nat} {row : Nat → Nat → C} (hn : n ≤ 9223372036854775807) (h : ∀ i r t, i < n → ([Dt.i, Dt.b, Dt.i] : List Dt)[r]? = some t → DtOk t (row i r)) : ∃ xs : List WriteT, xs.length = n ∧ (∀ x ∈ xs, (-9223372036854775808 ≤ x.1 ∧ x.1 ≤ 9223372036854775807) ∧ True ∧ (-9223372036854775808 ≤ x.2.2 ∧ x.2.2 ≤ 9223372036854775807)) ∧ CSame (.sl .fro e 3 n row) ((tWrite e' xs).er .fro) :=
  list_of decWrite zWrite 3 (fun f hf => by
    obtain ⟨z0, hz0, w0⟩ := (hf 0 .i rfl).int
    obtain ⟨z1, hz1⟩ := (hf 1 .b rfl).bool
    obtain ⟨z2, hz2, w2⟩ := (hf 2 .i rfl).int
    refine ⟨(z0, z1, z2), ⟨w0, trivial, w2⟩, fun r hr => ?_⟩
    match r, hr with
    | 0, _ => rw [hz0]; exact rfl
    | 1, _ => rw [hz1]; exact rfl
    | 2, _ => rw [hz2]; exact rfl
    ) h
end Go.Proofs.Ythfcpaplnifhiaa
end

section
/- ApplyWrites in both packages. -/
namespace Go.Proofs.Ythfcpaplnifhiaa
open Go Go.Tr
set_option maxRecDepth 100000
set_option maxHeartbeats 4000000
set_option linter.unusedVariables false
set_option linter.unusedSimpArgs false
def apS (st : List KVT) (w : WriteT) : List KVT := if w.2.1 = true then mdel st w.1 else mput st w.1 w.2.2
def apw (xs : List KVT) (ys : List WriteT) : List KVT := ys.foldl apS xs
def apT (xs : List KVT) (ys : List WriteT) (i : Nat) : List KVT := apw xs (ys.take i)
theorem apT_succ (xs : List KVT) (ys : List WriteT) {i : Nat} (h : i < ys.length) : apT xs ys (i + 1) = apS (apT xs ys i) (ys.getD i zWrite) := by
  unfold apT apw
  rw [List.take_succ_eq_append_getElem h, List.foldl_append]
  simp [List.getD, h]
theorem apS_le (st : List KVT) (w : WriteT) : (apS st w).length ≤ st.length + 1 := by
  unfold apS
  have := mput_le st w.1 w.2.2
  have := mdel_le st w.1
  split <;> omega
theorem apT_bd (xs : List KVT) (ys : List WriteT) : ∀ i, i ≤ ys.length → (apT xs ys i).length ≤ xs.length + i
  | 0, _ => Nat.le_refl _
  | i + 1, h => by
    have h1 := apT_bd xs ys i (by omega)
    rw [apT_succ xs ys (by omega)]
    have := apS_le (apT xs ys i) (ys.getD i zWrite)
    omega
theorem apw_le (xs : List KVT) (ys : List WriteT) : (apw xs ys).length ≤ xs.length + ys.length := by
  have := apT_bd xs ys ys.length (Nat.le_refl _)
  unfold apT at this
  rwa [List.take_of_length_le (Nat.le_refl _)] at this
theorem ApplyWritesS_run (e e1 : Nat) (xs : List KVT) (ys : List WriteT) (hn : xs.length + ys.length ≤ 1048576) : RunT Try.prog 43 [.one (.c (tKV e xs)), .one (.c (tWrite e1 ys))] [] [.one (tKV 120 (apw xs ys))] [] := by
  refine RunT.of_vc gOk Try.func43 rfl rfl (Nat.le_of_ble_eq_true rfl) (by repeat' (first | exact trivial | exact ⟨_, rfl, Nat.le_refl _⟩ | exact Nat.le_of_ble_eq_true rfl | refine And.intro ?_ ?_)) (Nat.le_of_ble_eq_true rfl) rfl (fun F hE => ?_)
  repeat' (first | exact trivial | refine BS.d (fun h => ?_) (fun h => ?_) | refine BS.e (fun h => ?_) (fun h => ?_) | refine BS.ne (fun h => ?_) (fun h => ?_) | refine BS.n ?_ | refine BS.s (fun h => ?_) (fun h => ?_) | refine And.intro ?_ ?_ | (refine Need.mk ?_; first | with_reducible rfl | (show @Eq TC _ _; rfl) | omega | (simp only [adN_zero]; omega)) | exact OutS.whole rfl rfl | (refine OpK.apps gOk rfl rfl rfl rfl rfl rfl rfl rfl rfl rfl rfl flatKV rfl ?_ ?_) | refine ListO.go gOk hE ?_)
  all_goals first
    | (exfalso; omega)
    | (refine ⟨?_, ?_⟩ <;> (try unfold maxLen) <;> (try simp only [List.length_nil]) <;> omega)
    | (unfold maxLen; simp only [List.length_nil]; omega)
    | (simp only [List.length_nil]; omega)
    | skip
  refine CodeK.loopK (fun i : Nat => ⟨[(1, vr 1000001 ys.length), (5, vr 7 (apT xs ys i).length), (6, vi i)], [(7, rKV .own true 120 (apT xs ys i)), (1000001, rWrite .fro false e1 ys)]⟩) (fun i => i ≤ ys.length) (fun i => ys.length - i) 0 (by refine leT.of ?_ ?_ rfl <;> repeat' (first | exact trivial | refine And.intro rfl ?_ | refine And.intro (by first | rfl | (simp [apT, apw] <;> rfl)) ?_)) (Nat.zero_le _) ?_
  rintro i hi
  have hb1 := apT_bd xs ys i hi
  by_cases hi2 : i < ys.length
  · have hsu := apT_succ xs ys hi2
    have c1 := MapDelS_run 120 (apT xs ys i) (ys.getD i zWrite).1 (by omega)
    have c2 := MapPutS_run 120 (apT xs ys i) (ys.getD i zWrite).1 (ys.getD i zWrite).2.2 (by omega)
    unfold apS at hsu
    generalize apT xs ys i = st at *
    generalize mdel st (ys.getD i zWrite).1 = m1 at *
    generalize mput st (ys.getD i zWrite).1 (ys.getD i zWrite).2.2 = m2 at *
    cases hd : (ys.getD i zWrite).2.1
    all_goals (rw [hd] at hsu; simp only [Bool.false_eq_true, if_false, if_true] at hsu)
    all_goals (repeat' (first | exact trivial | refine BS.d (fun h => ?_) (fun h => ?_) | refine BS.e (fun h => ?_) (fun h => ?_) | refine BS.ne (fun h => ?_) (fun h => ?_) | refine BS.n ?_ | refine BS.s (fun h => ?_) (fun h => ?_) | refine And.intro ?_ ?_ | (refine Need.mk ?_; first | with_reducible rfl | (show @Eq TC _ _; rfl) | omega | (simp only [adN_zero]; omega)) | exact OutS.whole rfl rfl | (refine CodeK.draw gOk hE rfl (fun _ _ h => h) (.take 0 (.take 1 (.take 2 (.take 3 (.take 4 (.take 6 (.take 7 (.take 8 (.take 9 (.alt 5 (.alt 10 (.alt 11 (.take 12 .done) .stop) .stop) (.alt 10 (.alt 5 (.alt 11 (.take 12 .done) .stop) .stop) .stop))))))))))) ?_ ?_; focus (decide +kernel)) | (refine OpK.call c1 rfl rfl rfl rfl hE ?_ rfl rfl ?_; focus ((repeat' (first | exact PsA.lit _ | exact PsA.ref rfl rfl | constructor)); all_goals (fail "ps"))) | (refine OpK.call c2 rfl rfl rfl rfl hE ?_ rfl rfl ?_; focus ((repeat' (first | exact PsA.lit _ | exact PsA.ref rfl rfl | constructor)); all_goals (fail "ps"))) | (refine CodeK.rekeyR 4 2003456 7 rfl hE rfl rfl rfl rfl rfl rfl ?_) | (refine CodeK.rekeyS 4 2003456 7 rfl hE rfl rfl rfl rfl rfl rfl ?_) | (refine CodeK.rekeyR 4 2004992 7 rfl hE rfl rfl rfl rfl rfl rfl ?_) | (refine CodeK.rekeyS 4 2004992 7 rfl hE rfl rfl rfl rfl rfl rfl ?_) | (refine CodeK.seqL 9999 rfl ?_) | (refine CodeK.seqv gOk hE ?_) | (refine CodeK.vc gOk hE ?_) | (refine ListO.step gOk hE ?_) | (refine ListO.done ?_) | refine ListO.go gOk hE ?_))
    all_goals (try simp only [adN_zero] at *)
    all_goals first
      | (exfalso; first | omega | (simp_all; done))
      | (refine Need.mk ?_; first | omega | (refine ⟨?_, ?_⟩ <;> (try unfold maxLen) <;> omega))
      | (refine ⟨i + 1, (by refine leT.of ?_ ?_ rfl <;> repeat' (first | exact trivial | refine And.intro rfl ?_ | refine And.intro (by first | rfl | (rw [hsu]; rfl) | (simp [hsu] <;> rfl)) ?_)), by omega, by first | omega | (dsimp only; omega)⟩)
      | trace_state
  · have hlast : apT xs ys i = apw xs ys := by unfold apT; rw [List.take_of_length_le (by omega)]
    rw [hlast]
    repeat' (first | exact trivial | refine BS.d (fun h => ?_) (fun h => ?_) | refine BS.e (fun h => ?_) (fun h => ?_) | refine BS.ne (fun h => ?_) (fun h => ?_) | refine BS.n ?_ | refine BS.s (fun h => ?_) (fun h => ?_) | refine And.intro ?_ ?_ | (refine Need.mk ?_; first | with_reducible rfl | (show @Eq TC _ _; rfl) | omega | (simp only [adN_zero]; omega)) | exact OutS.whole rfl rfl | (exfalso; omega) | (refine CodeK.seqL 9999 rfl ?_) | (refine CodeK.seqv gOk hE ?_) | (refine CodeK.vc gOk hE ?_) | (refine ListO.step gOk hE ?_) | (refine ListO.done ?_) | refine ListO.go gOk hE ?_)
    all_goals first
      | (exfalso; omega)
      | exact OutS.whole rfl rfl
      | trace_state
theorem ApplyWritesI_run (e e1 : Nat) (xs : List KVT) (ys : List WriteT) (hn : xs.length + ys.length ≤ 1048576) : RunT Try.prog 44 [.one (.c (tKV e xs)), .one (.c (tWrite e1 ys))] [] [.one (tKV 120 (apw xs ys))] [] := by
  have c0 := CloneKV_run e xs (by omega)
  refine RunT.of_vc gOk Try.func44 rfl rfl (Nat.le_of_ble_eq_true rfl) (by repeat' (first | exact trivial | exact ⟨_, rfl, Nat.le_refl _⟩ | exact Nat.le_of_ble_eq_true rfl | refine And.intro ?_ ?_)) (Nat.le_of_ble_eq_true rfl) rfl (fun F hE => ?_)
  repeat' (first | exact trivial | refine BS.d (fun h => ?_) (fun h => ?_) | refine BS.e (fun h => ?_) (fun h => ?_) | refine BS.ne (fun h => ?_) (fun h => ?_) | refine BS.n ?_ | refine BS.s (fun h => ?_) (fun h => ?_) | refine And.intro ?_ ?_ | (refine Need.mk ?_; first | with_reducible rfl | (show @Eq TC _ _; rfl) | omega | (simp only [adN_zero]; omega)) | exact OutS.whole rfl rfl | (refine OpK.call c0 rfl rfl rfl rfl hE ?_ rfl rfl ?_; focus ((repeat' (first | exact PsA.lit _ | exact PsA.ref rfl rfl | constructor)); all_goals (fail "ps"))) | refine ListO.go gOk hE ?_)
  all_goals first
    | (exfalso; omega)
    | (refine ⟨?_, ?_⟩ <;> (try unfold maxLen) <;> (try simp only [List.length_nil]) <;> omega)
    | (unfold maxLen; simp only [List.length_nil]; omega)
    | (simp only [List.length_nil]; omega)
    | skip
  refine CodeK.loopK (fun i : Nat => ⟨[(5, vr 2001152 (apT xs ys i).length), (10, vr 1000001 ys.length), (11, vi ys.length), (12, vi i)], [(2001152, rKV .own true 120 (apT xs ys i)), (1000001, rWrite .fro false e1 ys)]⟩) (fun i => i ≤ ys.length) (fun i => ys.length - i) 0 (by refine leT.of ?_ ?_ rfl <;> repeat' (first | exact trivial | refine And.intro rfl ?_ | refine And.intro (by first | rfl | (simp [apT, apw] <;> rfl)) ?_)) (Nat.zero_le _) ?_
  rintro i hi
  have hb1 := apT_bd xs ys i hi
  by_cases hi2 : i < ys.length
  · have hsu := apT_succ xs ys hi2
    have c1 := MapDelI_run 120 (apT xs ys i) (ys.getD i zWrite).1 (by omega)
    have c2 := MapPutI_run 120 (apT xs ys i) (ys.getD i zWrite).1 (ys.getD i zWrite).2.2 (by omega)
    unfold apS at hsu
    generalize apT xs ys i = st at *
    generalize mdel st (ys.getD i zWrite).1 = m1 at *
    generalize mput st (ys.getD i zWrite).1 (ys.getD i zWrite).2.2 = m2 at *
    cases hd : (ys.getD i zWrite).2.1
    all_goals (rw [hd] at hsu; simp only [Bool.false_eq_true, if_false, if_true] at hsu)
    all_goals (repeat' (first | exact trivial | refine BS.d (fun h => ?_) (fun h => ?_) | refine BS.e (fun h => ?_) (fun h => ?_) | refine BS.ne (fun h => ?_) (fun h => ?_) | refine BS.n ?_ | refine BS.s (fun h => ?_) (fun h => ?_) | refine And.intro ?_ ?_ | (refine Need.mk ?_; first | with_reducible rfl | (show @Eq TC _ _; rfl) | omega | (simp only [adN_zero]; omega)) | exact OutS.whole rfl rfl | (refine OpK.call c1 rfl rfl rfl rfl hE ?_ rfl rfl ?_; focus ((repeat' (first | exact PsA.lit _ | exact PsA.ref rfl rfl | constructor)); all_goals (fail "ps"))) | (refine OpK.call c2 rfl rfl rfl rfl hE ?_ rfl rfl ?_; focus ((repeat' (first | exact PsA.lit _ | exact PsA.ref rfl rfl | constructor)); all_goals (fail "ps"))) | (refine CodeK.rekeyR 8 2002688 2001152 rfl hE rfl rfl rfl rfl rfl rfl ?_) | (refine CodeK.rekeyS 8 2002688 2001152 rfl hE rfl rfl rfl rfl rfl rfl ?_) | (refine CodeK.rekeyR 8 2003456 2001152 rfl hE rfl rfl rfl rfl rfl rfl ?_) | (refine CodeK.rekeyS 8 2003456 2001152 rfl hE rfl rfl rfl rfl rfl rfl ?_) | (refine CodeK.seqL 9999 rfl ?_) | (refine CodeK.seqv gOk hE ?_) | (refine CodeK.vc gOk hE ?_) | (refine ListO.step gOk hE ?_) | (refine ListO.done ?_) | refine ListO.go gOk hE ?_))
    all_goals (try simp only [adN_zero] at *)
    all_goals first
      | (exfalso; first | omega | (simp_all; done))
      | (refine Need.mk ?_; first | omega | (refine ⟨?_, ?_⟩ <;> (try unfold maxLen) <;> omega))
      | (refine ⟨i + 1, (by refine leT.of ?_ ?_ rfl <;> repeat' (first | exact trivial | refine And.intro rfl ?_ | refine And.intro (by first | rfl | (rw [hsu]; rfl) | (simp [hsu] <;> rfl)) ?_)), by omega, by first | omega | (dsimp only; omega)⟩)
      | trace_state
  · have hlast : apT xs ys i = apw xs ys := by unfold apT; rw [List.take_of_length_le (by omega)]
    rw [hlast]
    repeat' (first | exact trivial | refine BS.d (fun h => ?_) (fun h => ?_) | refine BS.e (fun h => ?_) (fun h => ?_) | refine BS.ne (fun h => ?_) (fun h => ?_) | refine BS.n ?_ | refine BS.s (fun h => ?_) (fun h => ?_) | refine And.intro ?_ ?_ | (refine Need.mk ?_; first | with_reducible rfl | (show @Eq TC _ _; rfl) | omega | (simp only [adN_zero]; omega)) | exact OutS.whole rfl rfl | (exfalso; omega) | (refine CodeK.seqL 9999 rfl ?_) | (refine CodeK.seqv gOk hE ?_) | (refine CodeK.vc gOk hE ?_) | (refine ListO.step gOk hE ?_) | (refine ListO.done ?_) | refine ListO.go gOk hE ?_)
    all_goals first
      | (exfalso; omega)
      | exact OutS.whole rfl rfl
      | trace_state
end Go.Proofs.Ythfcpaplnifhiaa
end

section
/- Marks of a row of flat elements. -/
namespace Go.Proofs.Ythfcpaplnifhiaa
open Go Go.Tr
set_option maxRecDepth 100000
set_option maxHeartbeats 4000000
set_option linter.unusedVariables false
set_option linter.unusedSimpArgs false
abbrev fWrite (m : Int) (j : Nat) : WriteT := (m + 3 * j, ((m + 3 * j + 1).tmod 3 == 0), m + 3 * j + 2)
abbrev bWrite (κ : Nat) (xs xs' : List WriteT) : Bt := ⟨κ, 0, true, .sl 37 3 WriteT encWrite decWrite zWrite xs, .sl 37 3 WriteT encWrite decWrite zWrite xs', .ty .own true 37 3 WriteT encWrite decWrite zWrite xs'⟩
theorem markWriteG_run (xs : List WriteT) (m : Int) (h0 : 0 ≤ m) (h1 : m ≤ 33554432) (hn : xs.length ≤ 4000000) : RunT Try.prog 28 [.one (.h 0 xs.length), ti m] [.sl 37 3 WriteT encWrite decWrite zWrite xs] [oi (m + 3 * xs.length)] [.sl 37 3 WriteT encWrite decWrite zWrite (mkL zWrite (fWrite m) xs xs.length)] := by
  refine RunT.of_vc gOk Try.func28 rfl rfl (Nat.le_of_ble_eq_true rfl) (by repeat' (first | exact trivial | exact ⟨_, rfl, Nat.le_refl _⟩ | exact Nat.le_of_ble_eq_true rfl | refine And.intro ?_ ?_)) (Nat.le_of_ble_eq_true rfl) rfl (fun F hE => ?_)
  repeat' (first | exact trivial | refine BS.d (fun h => ?_) (fun h => ?_) | refine BS.e (fun h => ?_) (fun h => ?_) | refine BS.ne (fun h => ?_) (fun h => ?_) | refine BS.n ?_ | refine BS.s (fun h => ?_) (fun h => ?_) | refine And.intro ?_ ?_ | (refine Need.mk ?_; first | with_reducible rfl | (show @Eq TC _ _; rfl) | omega | (simp only [adN_zero]; omega)) | exact OutS.whole rfl rfl | refine ListO.go gOk hE ?_)
  refine CodeK.loop gOk hE (fun i : Nat => ⟨[(0, vr 1000000 xs.length), (1, vi (m + 3 * i)), (5, vi i)], [(1000000, rWrite .own false 0 (mkL zWrite (fWrite m) xs i))]⟩) (fun i => i ≤ xs.length) (fun i => xs.length - i) 0 (by refine leT.of ?_ ?_ rfl <;> repeat' (first | exact trivial | refine And.intro rfl ?_ | refine And.intro (by simp [mkL_zero] <;> rfl) ?_)) (Nat.zero_le _) ?_
  rintro i hi
  have hl := mkL_len zWrite (fWrite m) xs i
  have hgs : ∀ (ys : List WriteT) (a : WriteT), ys.length = xs.length → i < xs.length → (ys.set i a).getD i zWrite = a := fun ys a h1 h2 => by simp [List.getD, h1, h2]
  repeat' (first | exact trivial | refine BS.d (fun h => ?_) (fun h => ?_) | refine BS.e (fun h => ?_) (fun h => ?_) | refine BS.ne (fun h => ?_) (fun h => ?_) | refine BS.n ?_ | refine BS.s (fun h => ?_) (fun h => ?_) | refine And.intro ?_ ?_ | (refine Need.mk ?_; first | with_reducible rfl | (show @Eq TC _ _; rfl) | omega | (simp only [adN_zero]; omega)) | exact OutS.whole rfl rfl | refine ListO.go gOk hE ?_)
  all_goals (try simp only [adN_zero] at *)
  all_goals first
    | (refine Need.mk ?_; first | omega | (simp only [List.length_set]; omega) | rw [show i = xs.length by omega])
    | (refine ⟨i + 1, (by refine leT.of ?_ ?_ rfl <;> repeat' (first | exact trivial | refine And.intro rfl ?_ | refine And.intro (by first | rfl | (refine litInt ?_; omega) | (refine congrArg (fun l => some (rWrite .own false 0 l)) ?_; simp only [List.set_set, hgs _ _ hl (by omega)]; refine Eq.trans (congrArg (List.set _ i) ?_) (mkL_set _ _ _ _ (by omega)); first | rfl | (refine Prod.ext ?_ ?_ <;> first | rfl | (dsimp only; omega) | (refine Prod.ext ?_ ?_ <;> first | rfl | (dsimp only; omega))))) ?_)), by omega, by first | omega | (dsimp only; omega)⟩)
    | trace_state
theorem heldWriteG_run (e : Nat) (xs : List WriteT) (m : Int) (h0 : 0 ≤ m) (h1 : m ≤ 33554432) (hn : xs.length ≤ 4000000) : RunT Try.prog 29 [.one (.c (tWrite e (mkL zWrite (fWrite m) xs xs.length))), ti m] [] [oi (m + 3 * xs.length)] [] := by
  have hl := mkL_len zWrite (fWrite m) xs xs.length
  refine RunT.of_vc gOk Try.func29 rfl rfl (Nat.le_of_ble_eq_true rfl) (by repeat' (first | exact trivial | exact ⟨_, rfl, Nat.le_refl _⟩ | exact Nat.le_of_ble_eq_true rfl | refine And.intro ?_ ?_)) (Nat.le_of_ble_eq_true rfl) rfl (fun F hE => ?_)
  repeat' (first | exact trivial | refine BS.d (fun h => ?_) (fun h => ?_) | refine BS.e (fun h => ?_) (fun h => ?_) | refine BS.ne (fun h => ?_) (fun h => ?_) | refine BS.n ?_ | refine BS.s (fun h => ?_) (fun h => ?_) | refine And.intro ?_ ?_ | (refine Need.mk ?_; first | with_reducible rfl | (show @Eq TC _ _; rfl) | omega | (simp only [adN_zero]; omega)) | exact OutS.whole rfl rfl | refine ListO.go gOk hE ?_)
  refine CodeK.loop gOk hE (fun i : Nat => ⟨[(0, vr 1000000 (mkL zWrite (fWrite m) xs xs.length).length), (1, vi (m + 3 * i)), (5, vi i)], [(1000000, rWrite .fro false e (mkL zWrite (fWrite m) xs xs.length))]⟩) (fun i => i ≤ xs.length) (fun i => xs.length - i) 0 (by refine leT.of ?_ ?_ rfl <;> repeat' (first | exact trivial | refine And.intro rfl ?_ | refine And.intro (by simp <;> rfl) ?_)) (Nat.zero_le _) ?_
  rintro i hi
  have hg : i < xs.length → (mkL zWrite (fWrite m) xs xs.length).getD i zWrite = fWrite m i := fun h => mkL_get _ _ _ _ _ h h
  repeat' (first | exact trivial | refine BS.d (fun h => ?_) (fun h => ?_) | refine BS.e (fun h => ?_) (fun h => ?_) | refine BS.ne (fun h => ?_) (fun h => ?_) | refine BS.n ?_ | refine BS.s (fun h => ?_) (fun h => ?_) | refine And.intro ?_ ?_ | (refine Need.mk ?_; first | with_reducible rfl | (show @Eq TC _ _; rfl) | omega | (simp only [adN_zero]; omega)) | exact OutS.whole rfl rfl | refine ListO.go gOk hE ?_)
  all_goals (try simp only [adN_zero] at *)
  all_goals first
    | (exfalso; have h9 := hg (by omega); simp only [h9] at *; first | omega | (simp_all; done) | (simp_all; omega))
    | (refine Need.mk ?_; first | omega | rw [show i = xs.length by omega])
    | (refine ⟨i + 1, (by refine leT.of ?_ ?_ rfl <;> repeat' (first | exact trivial | refine And.intro rfl ?_ | refine And.intro (by first | rfl | (refine litInt ?_; omega)) ?_)), by omega, by first | omega | (dsimp only; omega)⟩)
    | trace_state
end Go.Proofs.Ythfcpaplnifhiaa
end

section
/- The law ApplyWrites. -/
namespace Go.Proofs.Ythfcpaplnifhiaa
open Go Go.Tr
set_option maxRecDepth 100000
set_option maxHeartbeats 40000000
set_option linter.unusedVariables false
set_option linter.unusedSimpArgs false
theorem ApplyWrites_law (xs : List KVT) (ys : List WriteT) (hnxs : xs.length ≤ 9223372036854775807) (hnys : ys.length ≤ 9223372036854775807) : RunT Try.prog 7 [.one (.c (tKV 0 xs)), .one (.c (tWrite 0 ys))] [] [ob true] [] := by
  have z0 := szKVS_run 0 xs (1048576) (by omega) (by omega) hnxs
  by_cases hz0 : szI xs (1048576) < 0
  · generalize szI xs (1048576) = zz0 at *
    refine RunT.of_vc gOk Try.func7 rfl rfl (Nat.le_of_ble_eq_true rfl) (by repeat' (first | exact trivial | exact ⟨_, rfl, Nat.le_refl _⟩ | exact Nat.le_of_ble_eq_true rfl | refine And.intro ?_ ?_)) (Nat.le_of_ble_eq_true rfl) rfl (fun F hE => ?_)
    repeat' (first | exact trivial | refine BS.d (fun h => ?_) (fun h => ?_) | refine BS.e (fun h => ?_) (fun h => ?_) | refine BS.ne (fun h => ?_) (fun h => ?_) | refine BS.n ?_ | refine BS.s (fun h => ?_) (fun h => ?_) | refine And.intro ?_ ?_ | (refine Need.mk ?_; first | with_reducible rfl | (show @Eq TC _ _; rfl) | omega | (simp only [adN_zero]; omega)) | exact OutS.whole rfl rfl | (refine OpK.call z0 rfl rfl rfl rfl hE ?_ rfl rfl ?_; focus ((repeat' (first | exact PsA.lit _ | exact PsA.ref rfl rfl | constructor)); all_goals (fail "ps"))) | refine ListO.go gOk hE ?_)
    all_goals first | exact Need.mk rfl | (exfalso; omega) | trace_state
  have b0 := szI_le (xs := xs) (m := 1048576) (by omega)
  have hm0 : xs.length ≤ 1048576 := by omega
  generalize szI xs (1048576) = zz0 at *
  have z1 := szWriteS_run 0 ys (zz0) (by omega) (by omega) hnys
  by_cases hz1 : szI ys (zz0) < 0
  · generalize szI ys (zz0) = zz1 at *
    refine RunT.of_vc gOk Try.func7 rfl rfl (Nat.le_of_ble_eq_true rfl) (by repeat' (first | exact trivial | exact ⟨_, rfl, Nat.le_refl _⟩ | exact Nat.le_of_ble_eq_true rfl | refine And.intro ?_ ?_)) (Nat.le_of_ble_eq_true rfl) rfl (fun F hE => ?_)
    repeat' (first | exact trivial | refine BS.d (fun h => ?_) (fun h => ?_) | refine BS.e (fun h => ?_) (fun h => ?_) | refine BS.ne (fun h => ?_) (fun h => ?_) | refine BS.n ?_ | refine BS.s (fun h => ?_) (fun h => ?_) | refine And.intro ?_ ?_ | (refine Need.mk ?_; first | with_reducible rfl | (show @Eq TC _ _; rfl) | omega | (simp only [adN_zero]; omega)) | exact OutS.whole rfl rfl | (refine OpK.call z0 rfl rfl rfl rfl hE ?_ rfl rfl ?_; focus ((repeat' (first | exact PsA.lit _ | exact PsA.ref rfl rfl | constructor)); all_goals (fail "ps"))) | (refine OpK.call z1 rfl rfl rfl rfl hE ?_ rfl rfl ?_; focus ((repeat' (first | exact PsA.lit _ | exact PsA.ref rfl rfl | constructor)); all_goals (fail "ps"))) | refine ListO.go gOk hE ?_)
    all_goals first | exact Need.mk rfl | (exfalso; omega) | trace_state
  have b1 := szI_le (xs := ys) (m := zz0) (by omega)
  have hm1 : ys.length ≤ 1048576 := by omega
  generalize szI ys (zz0) = zz1 at *
  have t0 := toKVS_run 0 xs (by omega)
  have d0 := eqKVS_run 120 xs (by omega)
  have t1 := toWriteS_run 0 ys (by omega)
  have d1 := eqWriteS_run 37 ys (by omega)
  have e1 := ApplyWritesS_run 120 37 xs ys (by omega)
  have e2 := ApplyWritesI_run 120 37 xs ys (by omega)
  have hg0 : (apw xs ys).length ≤ 2097152 := Nat.le_trans (apw_le xs ys) (by omega)
  generalize apw xs ys = g0 at *
  have m0 := markKVG_run xs (1) (by omega) (by omega) (by omega)
  have m1 := markWriteG_run ys (1 + 2 * (xs.length : Int)) (by omega) (by omega) (by omega)
  have n0 := markKVG_run g0 (1) (by omega) (by omega) (by omega)
  have k0 := heldKVG_run 120 g0 (1) (by omega) (by omega) (by omega)
  have q0 := eqKVS_run 120 g0 (by omega)
  refine RunT.of_vc gOk Try.func7 rfl rfl (Nat.le_of_ble_eq_true rfl) (by repeat' (first | exact trivial | exact ⟨_, rfl, Nat.le_refl _⟩ | exact Nat.le_of_ble_eq_true rfl | refine And.intro ?_ ?_)) (Nat.le_of_ble_eq_true rfl) rfl (fun F hE => ?_)
  repeat' (first | exact trivial | refine BS.d (fun h => ?_) (fun h => ?_) | refine BS.e (fun h => ?_) (fun h => ?_) | refine BS.ne (fun h => ?_) (fun h => ?_) | refine BS.n ?_ | refine BS.s (fun h => ?_) (fun h => ?_) | refine And.intro ?_ ?_ | (refine Need.mk ?_; first | with_reducible rfl | (show @Eq TC _ _; rfl) | omega | (simp only [adN_zero]; omega)) | exact OutS.whole rfl rfl | (refine OpK.call z0 rfl rfl rfl rfl hE ?_ rfl rfl ?_; focus ((repeat' (first | exact PsA.lit _ | exact PsA.ref rfl rfl | constructor)); all_goals (fail "ps"))) | (refine OpK.call z1 rfl rfl rfl rfl hE ?_ rfl rfl ?_; focus ((repeat' (first | exact PsA.lit _ | exact PsA.ref rfl rfl | constructor)); all_goals (fail "ps"))) | (refine OpK.call t0 rfl rfl rfl rfl hE ?_ rfl rfl ?_; focus ((repeat' (first | exact PsA.lit _ | exact PsA.ref rfl rfl | constructor)); all_goals (fail "ps"))) | (refine OpK.call d0 rfl rfl rfl rfl hE ?_ rfl rfl ?_; focus ((repeat' (first | exact PsA.lit _ | exact PsA.ref rfl rfl | constructor)); all_goals (fail "ps"))) | (refine OpK.call t1 rfl rfl rfl rfl hE ?_ rfl rfl ?_; focus ((repeat' (first | exact PsA.lit _ | exact PsA.ref rfl rfl | constructor)); all_goals (fail "ps"))) | (refine OpK.call d1 rfl rfl rfl rfl hE ?_ rfl rfl ?_; focus ((repeat' (first | exact PsA.lit _ | exact PsA.ref rfl rfl | constructor)); all_goals (fail "ps"))) | (refine OpK.call e1 rfl rfl rfl rfl hE ?_ rfl rfl ?_; focus ((repeat' (first | exact PsA.lit _ | exact PsA.ref rfl rfl | constructor)); all_goals (fail "ps"))) | (refine OpK.call e2 rfl rfl rfl rfl hE ?_ rfl rfl ?_; focus ((repeat' (first | exact PsA.lit _ | exact PsA.ref rfl rfl | constructor)); all_goals (fail "ps"))) | (refine OpK.callB (bKV 2003840 xs (mkL zKV (fKV (1)) xs xs.length)) m0 rfl rfl rfl rfl hE (BtOk.sl rfl (mkL_len _ _ _ _)) rfl (QsVs.cons (.one (.h rfl rfl rfl)) (.cons (.one (.c (.lit _) rfl)) .nil)) rfl rfl ?_) | (refine OpK.callB (bWrite 2004096 ys (mkL zWrite (fWrite (1 + 2 * (xs.length : Int))) ys ys.length)) m1 rfl rfl rfl rfl hE (BtOk.sl rfl (mkL_len _ _ _ _)) rfl (QsVs.cons (.one (.h rfl rfl rfl)) (.cons (.one (.c (.lit _) rfl)) .nil)) rfl rfl ?_) | (refine OpK.call q0 rfl rfl rfl rfl hE ?_ rfl rfl ?_; focus ((repeat' (first | exact PsA.lit _ | exact PsA.ref rfl rfl | constructor)); all_goals (fail "ps"))) | (refine OpK.call k0 rfl rfl rfl rfl hE ?_ rfl rfl ?_; focus ((repeat' (first | exact PsA.lit _ | exact PsA.ref rfl rfl | exact PsA.ref rfl (mkL_len _ _ _ _).symm | constructor)); all_goals (fail "ps"))) | (refine OpK.callB (bKV 2004480 g0 (mkL zKV (fKV (1)) g0 g0.length)) n0 rfl rfl rfl rfl hE (BtOk.sl rfl (mkL_len _ _ _ _)) rfl (QsVs.cons (.one (.h rfl rfl rfl)) (.cons (.one (.c (.lit _) rfl)) .nil)) rfl rfl ?_) | refine ListO.go gOk hE ?_)
  all_goals first | exact Need.mk rfl | exact absurd rfl h | (exfalso; omega) | (refine Need.mk ?_; omega) | (simp_all; done) | trace_state
end Go.Proofs.Ythfcpaplnifhiaa
end
