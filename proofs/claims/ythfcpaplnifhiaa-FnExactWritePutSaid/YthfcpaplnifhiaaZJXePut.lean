import Derived.Test.YthfcpaplnifhiaaZJA
import Derived.Test.YthfcpaplnifhiaaUP
import Derived.Test.YthfcpaplnifhiaaVU
section
namespace Go.Proofs.Ythfcpaplnifhiaa
open Go Go.Tr
set_option maxRecDepth 100000
set_option maxHeartbeats 4000000
set_option linter.unusedVariables false
set_option linter.unusedSimpArgs false
def plRWrite : Option Nat → Int
  | some j => (j : Int)
  | none => -1
theorem IndexWrite_run {hc : Hc} {cf : Nat} {caps : Array Value} (p : WriteT → Bool) (e : Nat) (xs : List WriteT) (hn : xs.length ≤ 4000000) (hcs : ∀ v ∈ caps, scal v = true) (hf : ∀ x : WriteT, RunH Try.prog hc cf ([aWrite x] ++ capA caps) [] [ob (p x)] []) :
    RunH Try.prog hc 137 [.one (.c (tWrite e xs)), .one (.c (.lit (.func (.func cf) #[] caps)))] [] [oi (plRWrite (firstP (fun j => p (xs.getD j zWrite)) 0 xs.length))] [] := by
  refine RunH.of_vc gOk Try.func137 rfl rfl (Nat.le_of_ble_eq_true rfl) (by repeat' (first | exact trivial | exact ⟨_, rfl, Nat.le_refl _⟩ | exact Nat.le_of_ble_eq_true rfl | refine And.intro ?_ ?_)) (Nat.le_of_ble_eq_true rfl) rfl (fun F hE hA => ?_)
  repeat' (first | exact trivial | refine BS.d (fun h => ?_) (fun h => ?_) | refine BS.e (fun h => ?_) (fun h => ?_) | refine BS.ne (fun h => ?_) (fun h => ?_) | refine BS.n ?_ | refine BS.s (fun h => ?_) (fun h => ?_) | refine And.intro ?_ ?_ | (refine Need.mk ?_; first | with_reducible rfl | (show @Eq TC _ _; rfl) | omega | (simp only [adN_zero]; omega)) | exact OutS.whole rfl rfl | refine ListO.go gOk hE ?_)
  refine CodeK.loop gOk hE (fun i : Nat => ⟨[(0, vr 1000000 xs.length), (1, .a (.lit (.func (.func cf) #[] caps))), (7, vi xs.length), (8, vi i)], [(1000000, rWrite .fro false e xs)]⟩) (fun i => i ≤ xs.length ∧ firstP (fun j => p (xs.getD j zWrite)) 0 xs.length = firstP (fun j => p (xs.getD j zWrite)) i (xs.length - i)) (fun i => xs.length - i) 0 (by refine leT.of ?_ ?_ rfl <;> repeat' (first | exact trivial | refine And.intro rfl ?_ | refine And.intro (by simp) ?_)) ⟨Nat.zero_le _, rfl⟩ ?_
  rintro i ⟨hi, hs⟩
  rcases hp : p (xs.getD i zWrite)
  all_goals (have c1 := hf (xs.getD i zWrite); rw [hp] at c1)
  all_goals (repeat' (first | exact trivial | refine BS.d (fun h => ?_) (fun h => ?_) | refine BS.e (fun h => ?_) (fun h => ?_) | refine BS.ne (fun h => ?_) (fun h => ?_) | refine BS.n ?_ | refine BS.s (fun h => ?_) (fun h => ?_) | refine And.intro ?_ ?_ | (refine Need.mk ?_; first | with_reducible rfl | (show @Eq TC _ _; rfl) | omega | (simp only [adN_zero]; omega)) | exact OutS.whole rfl rfl | (refine OpK.callC c1 hA hcs rfl rfl rfl rfl hE ?_ rfl rfl ?_; focus ((repeat' (first | exact PsA.lit _ | exact PsA.ref rfl rfl | constructor)); all_goals (fail "ps"))) | refine ListO.go gOk hE ?_))
  all_goals (try simp only [adN_zero] at *)
  all_goals first
    | (exfalso; first | omega | (simp_all; done))
    | (refine Need.mk ?_; omega)
    | (refine Need.mk ?_; rw [hs, firstP_yes (by omega) hp]; rfl)
    | (refine Need.mk ?_; rw [hs, show xs.length - i = 0 by omega]; rfl)
    | (refine ⟨i + 1, (by refine leT.of ?_ ?_ rfl <;> repeat' (first | exact trivial | refine And.intro rfl ?_ | refine And.intro (by simp) ?_)), ⟨by omega, by rw [hs, firstP_no (by omega) hp, show xs.length - i - 1 = xs.length - (i + 1) by omega]⟩, by first | omega | (dsimp only; omega)⟩)
theorem firstP_someWrite {p : Nat → Bool} : ∀ {m i j : Nat}, firstP p i m = some j → i ≤ j ∧ j < i + m ∧ p j = true ∧ ∀ t, i ≤ t → t < j → p t = false
  | 0, i, j, h => by cases h
  | m + 1, i, j, h => by
    unfold firstP at h
    split at h
    · injection h with h; subst h; exact ⟨Nat.le_refl _, by omega, by assumption, fun t h1 h2 => by omega⟩
    · rename_i hp
      obtain ⟨h1, h2, h3, h4⟩ := firstP_someWrite h
      refine ⟨by omega, by omega, h3, fun t h5 h6 => ?_⟩
      by_cases e : t = i
      · subst e; simpa using hp
      · exact h4 t (by omega) h6
theorem firstP_noneAWrite {p : Nat → Bool} : ∀ {m i : Nat}, firstP p i m = none → ∀ j, i ≤ j → j < i + m → p j = false
  | 0, i, h, j, h1, h2 => by omega
  | m + 1, i, h, j, h1, h2 => by
    unfold firstP at h
    split at h
    · cases h
    · rename_i hp
      by_cases e : j = i
      · subst e; simpa using hp
      · exact firstP_noneAWrite h j (by omega) (by omega)
def kpWrite (p : WriteT → Bool) (xs : List WriteT) (j : Nat) : List WriteT := (xs.take j).filter fun x => !p x
theorem kpWrite_succ (p : WriteT → Bool) (xs : List WriteT) {j : Nat} (h : j < xs.length) : kpWrite p xs (j + 1) = if p (xs.getD j zWrite) then kpWrite p xs j else kpWrite p xs j ++ [xs.getD j zWrite] := by
  unfold kpWrite
  have e : xs.getD j zWrite = xs[j] := by simp [List.getD, h]
  rw [List.take_succ_eq_append_getElem h, List.filter_append, e]
  cases hp : p xs[j] <;> simp [hp]
theorem kpWrite_le (p : WriteT → Bool) (xs : List WriteT) (j : Nat) : (kpWrite p xs j).length ≤ j := by
  unfold kpWrite
  exact Nat.le_trans (List.length_filter_le _ _) (by simp; omega)
theorem kpWrite_all (p : WriteT → Bool) (xs : List WriteT) : ∀ j, (∀ t, t < j → p (xs.getD t zWrite) = false) → j ≤ xs.length → kpWrite p xs j = xs.take j
  | 0, _, _ => rfl
  | j + 1, h, hj => by
    rw [kpWrite_succ p xs (by omega), h j (by omega), kpWrite_all p xs j (fun t ht => h t (by omega)) (by omega)]
    rw [List.take_succ_eq_append_getElem (show j < xs.length by omega)]
    simp [List.getD, show j < xs.length by omega]
theorem take_kpWrite {ys ks : List WriteT} (hk : ks.length ≤ ys.length) (h : ∀ t, t < ks.length → ys.getD t zWrite = ks.getD t zWrite) : ys.take ks.length = ks := by
  refine List.ext_getElem (by simp; omega) (fun i h1 h2 => ?_)
  have := h i h2
  simp only [List.getD, List.getElem?_eq_getElem h2, List.getElem?_eq_getElem (show i < ys.length by omega), Option.getD_some] at this
  rw [List.getElem_take, this]
theorem padWrite_ge (ys : List WriteT) (k n : Nat) {q : Nat} (h : k ≤ q) (hk : k ≤ ys.length := by omega) : (ys.take k ++ List.replicate n zWrite).getD q zWrite = zWrite := by
  simp only [List.getD]
  rw [List.getElem?_append_right (by simp; omega), List.getElem?_replicate]
  split <;> rfl
theorem padWrite_out {ys : List WriteT} {k n q : Nat} (hl : ys.length = n) (hk : k ≤ n) (h : ¬ (k ≤ q ∧ q < k + (n - k))) : (ys.take k ++ List.replicate (n - k) zWrite).getD q zWrite = ys.getD q zWrite := by
  simp only [List.getD]
  by_cases h1 : q < k
  · rw [List.getElem?_append_left (by simp; omega), List.getElem?_take, if_pos h1]
  · rw [List.getElem?_eq_none (by simp; omega), List.getElem?_eq_none (by omega)]
theorem DelWrite_run {hc : Hc} {cf : Nat} {caps : Array Value} (p : WriteT → Bool) (e : Nat) (xs : List WriteT) (hn : xs.length ≤ 4000000) (hcs : ∀ v ∈ caps, scal v = true) (hf : ∀ x : WriteT, RunH Try.prog hc cf ([aWrite x] ++ capA caps) [] [ob (p x)] []) :
    RunH Try.prog hc 92 [.one (.m (tWrite e xs)), .one (.c (.lit (.func (.func cf) #[] caps)))] [] [.one (tWrite e (xs.filter fun x => !p x))] [] := by
  have c1 := IndexWrite_run p e xs hn hcs hf
  cases hq : firstP (fun j => p (xs.getD j zWrite)) 0 xs.length with
  | none =>
    have ha := firstP_noneAWrite hq
    have hall := kpWrite_all p xs xs.length (fun t ht => ha t (Nat.zero_le _) (by omega)) (Nat.le_refl _)
    unfold kpWrite at hall
    rw [List.take_length] at hall
    rw [hall]
    rw [hq] at c1
    refine RunH.of_vc gOk Try.func92 rfl rfl (Nat.le_of_ble_eq_true rfl) (by repeat' (first | exact trivial | exact ⟨_, rfl, Nat.le_refl _⟩ | exact Nat.le_of_ble_eq_true rfl | refine And.intro ?_ ?_)) (Nat.le_of_ble_eq_true rfl) rfl (fun F hE hA => ?_)
    repeat' (first | exact trivial | refine BS.d (fun h => ?_) (fun h => ?_) | refine BS.e (fun h => ?_) (fun h => ?_) | refine BS.ne (fun h => ?_) (fun h => ?_) | refine BS.n ?_ | refine BS.s (fun h => ?_) (fun h => ?_) | refine And.intro ?_ ?_ | (refine Need.mk ?_; first | with_reducible rfl | (show @Eq TC _ _; rfl) | omega | (simp only [adN_zero]; omega)) | exact OutS.whole rfl rfl | (refine OpK.callH c1 hA rfl rfl rfl rfl hE ?_ rfl rfl ?_; focus ((repeat' (first | exact PsA.lit _ | exact PsA.ref rfl rfl | constructor)); all_goals (fail "ps"))) | refine ListO.go gOk hE ?_)
    all_goals first | exact OutS.whole rfl rfl | (exfalso; simp_all; done) | trace_state
  | some i0 =>
    obtain ⟨_, hi0, hp0, hall0⟩ := firstP_someWrite hq
    have hk0 : kpWrite p xs (i0 + 1) = xs.take i0 := by
      rw [kpWrite_succ p xs (by omega), hp0, if_pos rfl]
      exact kpWrite_all p xs i0 (fun t ht => hall0 t (Nat.zero_le _) ht) (by omega)
    have hl0 : (kpWrite p xs (i0 + 1)).length = i0 := by rw [hk0]; simp; omega
    rw [hq] at c1
    have hfull : kpWrite p xs xs.length = xs.filter fun x => !p x := by unfold kpWrite; rw [List.take_length]
    refine RunH.of_vc gOk Try.func92 rfl rfl (Nat.le_of_ble_eq_true rfl) (by repeat' (first | exact trivial | exact ⟨_, rfl, Nat.le_refl _⟩ | exact Nat.le_of_ble_eq_true rfl | refine And.intro ?_ ?_)) (Nat.le_of_ble_eq_true rfl) rfl (fun F hE hA => ?_)
    repeat' (first | exact trivial | refine BS.d (fun h => ?_) (fun h => ?_) | refine BS.e (fun h => ?_) (fun h => ?_) | refine BS.ne (fun h => ?_) (fun h => ?_) | refine BS.n ?_ | refine BS.s (fun h => ?_) (fun h => ?_) | refine And.intro ?_ ?_ | (refine Need.mk ?_; first | with_reducible rfl | (show @Eq TC _ _; rfl) | omega | (simp only [adN_zero]; omega)) | exact OutS.whole rfl rfl | (refine OpK.callH c1 hA rfl rfl rfl rfl hE ?_ rfl rfl ?_; focus ((repeat' (first | exact PsA.lit _ | exact PsA.ref rfl rfl | constructor)); all_goals (fail "ps"))) | refine ListO.go gOk hE ?_)
    all_goals first | (exfalso; simp_all [plRWrite]; done) | (exfalso; simp only [plRWrite] at *; omega) | (refine Need.mk ?_; simp only [plRWrite]; omega) | skip
    refine CodeK.loop gOk hE (fun i : Nat × List WriteT => ⟨[(0, vr 1000000 xs.length), (1, .a (.lit (.func (.func cf) #[] caps))), (5, vi (kpWrite p xs i.1).length), (6, vi i.1)], [(1000000, rWrite .own true e i.2)]⟩) (fun i => i.1 ≤ xs.length ∧ i.2.length = xs.length ∧ (∀ t, t < (kpWrite p xs i.1).length → i.2.getD t zWrite = (kpWrite p xs i.1).getD t zWrite) ∧ ∀ t, i.1 ≤ t → i.2.getD t zWrite = xs.getD t zWrite) (fun i => xs.length - i.1) (i0 + 1, xs) (by refine leT.of ?_ ?_ rfl <;> repeat' (first | exact trivial | refine And.intro rfl ?_ | refine And.intro (by first | rfl | (simp [hl0, plRWrite] <;> rfl)) ?_)) ⟨by omega, rfl, fun t ht => (by rw [hl0] at ht; dsimp only; rw [hk0]; simp [List.getD, List.getElem?_take, ht]), fun t ht => rfl⟩ ?_
    rintro ⟨j, ys⟩ ⟨hj, hyl, hB, hC⟩
    dsimp only at hj hyl hB hC
    have hkl := kpWrite_le p xs j
    by_cases hj2 : j < xs.length
    · have hv := hC j (Nat.le_refl _)
      have hsu := kpWrite_succ p xs hj2
      cases hp : p (xs.getD j zWrite) with
      | true =>
        have c2 := hf (ys.getD j zWrite)
        rw [hv, hp] at c2
        rw [hp, if_pos rfl] at hsu
        repeat' (first | exact trivial | refine BS.d (fun h => ?_) (fun h => ?_) | refine BS.e (fun h => ?_) (fun h => ?_) | refine BS.ne (fun h => ?_) (fun h => ?_) | refine BS.n ?_ | refine BS.s (fun h => ?_) (fun h => ?_) | refine And.intro ?_ ?_ | (refine Need.mk ?_; first | with_reducible rfl | (show @Eq TC _ _; rfl) | omega | (simp only [adN_zero]; omega)) | exact OutS.whole rfl rfl | (refine OpK.callC c2 hA hcs rfl rfl rfl rfl hE ?_ rfl rfl ?_; focus ((repeat' (first | exact PsA.lit _ | exact PsA.ref rfl rfl | constructor)); all_goals (fail "ps"))) | refine ListO.go gOk hE ?_)
        all_goals (try simp only [adN_zero, hv] at *)
        all_goals (try (repeat' (first | exact trivial | refine BS.d (fun h => ?_) (fun h => ?_) | refine BS.e (fun h => ?_) (fun h => ?_) | refine BS.ne (fun h => ?_) (fun h => ?_) | refine BS.n ?_ | refine BS.s (fun h => ?_) (fun h => ?_) | refine And.intro ?_ ?_ | (refine Need.mk ?_; first | with_reducible rfl | (show @Eq TC _ _; rfl) | omega | (simp only [adN_zero]; omega)) | exact OutS.whole rfl rfl | (refine OpK.callC c2 hA hcs rfl rfl rfl rfl hE ?_ rfl rfl ?_; focus ((repeat' (first | exact PsA.lit _ | exact PsA.ref rfl rfl | constructor)); all_goals (fail "ps"))) | refine ListO.go gOk hE ?_)))
        all_goals first
          | (exfalso; first | omega | (simp_all; done))
          | (refine Need.mk ?_; omega)
          | (refine ⟨(j + 1, ys), (by refine leT.of ?_ ?_ rfl <;> repeat' (first | exact trivial | refine And.intro rfl ?_ | refine And.intro (by first | rfl | (rw [hsu]; rfl) | (simp [hsu] <;> rfl)) ?_)), ⟨by omega, hyl, by rw [hsu]; exact hB, fun t ht => hC t (by omega)⟩, by first | omega | (dsimp only; omega)⟩)
          | trace_state
      | false =>
        have c2 := hf (ys.getD j zWrite)
        rw [hv, hp] at c2
        rw [hp, if_neg (by simp)] at hsu
        repeat' (first | exact trivial | refine BS.d (fun h => ?_) (fun h => ?_) | refine BS.e (fun h => ?_) (fun h => ?_) | refine BS.ne (fun h => ?_) (fun h => ?_) | refine BS.n ?_ | refine BS.s (fun h => ?_) (fun h => ?_) | refine And.intro ?_ ?_ | (refine Need.mk ?_; first | with_reducible rfl | (show @Eq TC _ _; rfl) | omega | (simp only [adN_zero]; omega)) | exact OutS.whole rfl rfl | (refine OpK.callC c2 hA hcs rfl rfl rfl rfl hE ?_ rfl rfl ?_; focus ((repeat' (first | exact PsA.lit _ | exact PsA.ref rfl rfl | constructor)); all_goals (fail "ps"))) | refine ListO.go gOk hE ?_)
        all_goals (try simp only [adN_zero, hv] at *)
        all_goals (try (repeat' (first | exact trivial | refine BS.d (fun h => ?_) (fun h => ?_) | refine BS.e (fun h => ?_) (fun h => ?_) | refine BS.ne (fun h => ?_) (fun h => ?_) | refine BS.n ?_ | refine BS.s (fun h => ?_) (fun h => ?_) | refine And.intro ?_ ?_ | (refine Need.mk ?_; first | with_reducible rfl | (show @Eq TC _ _; rfl) | omega | (simp only [adN_zero]; omega)) | exact OutS.whole rfl rfl | (refine OpK.callC c2 hA hcs rfl rfl rfl rfl hE ?_ rfl rfl ?_; focus ((repeat' (first | exact PsA.lit _ | exact PsA.ref rfl rfl | constructor)); all_goals (fail "ps"))) | refine ListO.go gOk hE ?_)))
        all_goals first
          | (exfalso; first | omega | (simp_all; done))
          | (refine Need.mk ?_; first | omega | rw [hyl]; omega)
          | (refine ⟨(j + 1, ys.set (kpWrite p xs j).length (xs.getD j zWrite)), (by refine leT.of ?_ ?_ rfl <;> repeat' (first | exact trivial | refine And.intro rfl ?_ | refine And.intro (by first | rfl | (rw [hsu]; simp; rfl) | (simp [hsu] <;> rfl)) ?_)), ⟨by omega, by simp [hyl], fun t ht => ?_, fun t ht => ?_⟩, by first | omega | (dsimp only; omega)⟩; (rw [hsu] at ht ⊢; rw [List.length_append] at ht; simp only [List.getD] at hB ⊢; by_cases h9 : t = (kpWrite p xs j).length; (subst h9; rw [List.getElem?_set_self (by omega), List.getElem?_append_right (by omega)]; simp); (rw [List.getElem?_set_ne (by omega), List.getElem?_append_left (by simp at ht; omega)]; exact hB t (by simp at ht; omega))); (simp only [List.getD] at hC ⊢; rw [List.getElem?_set_ne (by omega)]; exact hC t (by omega)))
          | trace_state
    · obtain rfl : j = xs.length := by omega
      have htk := take_kpWrite (by omega) hB
      repeat' (first | exact trivial | refine BS.d (fun h => ?_) (fun h => ?_) | refine BS.e (fun h => ?_) (fun h => ?_) | refine BS.ne (fun h => ?_) (fun h => ?_) | refine BS.n ?_ | refine BS.s (fun h => ?_) (fun h => ?_) | refine And.intro ?_ ?_ | (refine Need.mk ?_; first | with_reducible rfl | (show @Eq TC _ _; rfl) | omega | (simp only [adN_zero]; omega)) | exact OutS.whole rfl rfl | (refine OpK.clearT gOk (ys.take (kpWrite p xs xs.length).length ++ List.replicate (xs.length - (kpWrite p xs xs.length).length) zWrite) rfl rfl rfl rfl rfl rfl rfl rfl (by simp; omega) ?_ ?_ ?_) | refine ListO.go gOk hE ?_)
      all_goals (try simp only [adN_zero, Int.toNat_natCast] at *)
      all_goals first
        | (exfalso; omega)
        | (refine Need.mk ?_; omega)
        | (intro i r hi hr; rw [padWrite_ge _ _ _ (by omega)]; match r, hr with
            | 0, _ => exact ⟨_, rfl, rfl⟩
            | 1, _ => exact ⟨_, rfl, rfl⟩
            | 2, _ => exact ⟨_, rfl, rfl⟩)
        | (intro q hq; exact padWrite_out hyl hkl hq)
        | (refine OutS.pre (by simp; omega) ?_; rw [List.take_append_of_le_length (by simp; omega), List.take_take, Nat.min_self, htk, hfull]; rfl)
        | trace_state
end Go.Proofs.Ythfcpaplnifhiaa
end

section
/- slices.Insert of one element. -/
namespace Go.Proofs.Ythfcpaplnifhiaa
open Go Go.Tr
set_option maxRecDepth 100000
set_option maxHeartbeats 4000000
set_option linter.unusedVariables false
set_option linter.unusedSimpArgs false
theorem flatWrite (x : WriteT) (r : Nat) (hr : r < 3) : ∃ v, encWrite x r = .lit v ∧ encWrite x r = .lit v := by
  rcases r with _ | _ | _ | r
  · exact ⟨_, rfl, rfl⟩
  · exact ⟨_, rfl, rfl⟩
  · exact ⟨_, rfl, rfl⟩
  · omega
theorem zeroWrite (r : Nat) (hr : r < 3) : ∃ v, encWrite zWrite r = .lit v ∧ ([.lit (.int .i64 0), .lit (.bool false), .lit (.int .i64 0)] : List ZC)[r]? = some (.lit v) ∧ scal v = true := by
  rcases r with _ | _ | _ | r
  · exact ⟨_, rfl, rfl, rfl⟩
  · exact ⟨_, rfl, rfl, rfl⟩
  · exact ⟨_, rfl, rfl, rfl⟩
  · omega
theorem InsWrite_run (xs : List WriteT) (i : Nat) (x : WriteT) (hn : xs.length ≤ 1048576) (hi : i ≤ xs.length) : RunT Try.prog 138 [.one (.m (tWrite 37 xs)), ti i, .one (.m (tWrite 37 [x]))] [] [.one (tWrite 37 (xs.take i ++ x :: xs.drop i))] [] := by
  refine RunT.of_ck0 gOk Try.func138 rfl rfl (Nat.le_of_ble_eq_true rfl) (by repeat' (first | exact trivial | exact ⟨_, rfl, Nat.le_refl _⟩ | exact Nat.le_of_ble_eq_true rfl | refine And.intro ?_ ?_)) (fun F hF => ?_)
  have hE : F.nE ≤ 1000000 := by omega
  have hok : okK F 1000000 := fun ρ hρ => by omega
  obtain ⟨vs, hvs⟩ : ∃ vs, vs = [x] := ⟨_, rfl⟩
  have hvl : vs.length = 1 := by rw [hvs]; rfl
  rw [← hvs]
  by_cases hin : i = xs.length
  · have e1 : xs.take i ++ x :: xs.drop i = xs ++ vs := by subst hin hvs; simp
    rw [e1]
    (repeat' (first | exact trivial | refine BS.d (fun h => ?_) (fun h => ?_) | refine BS.e (fun h => ?_) (fun h => ?_) | refine BS.ne (fun h => ?_) (fun h => ?_) | refine BS.n ?_ | refine BS.s (fun h => ?_) (fun h => ?_) | refine And.intro ?_ ?_ | (refine Need.mk ?_; first | with_reducible rfl | (show @Eq TC _ _; rfl) | omega | (simp only [adN_zero]; omega)) | exact OutS.whole rfl rfl | (refine OpK.appsK gOk (by rfl) (by rfl) (by rfl) (by rfl) (by rfl) (by rfl) (by rfl) (by rfl) (by rfl) (by rfl) (by rfl) flatWrite hok ?_ ?_) | (refine CodeK.seqL 9999 rfl ?_) | (refine CodeK.seqv gOk hE ?_) | (refine CodeK.vc gOk hE ?_) | (refine ListO.step gOk hE ?_) | (refine ListO.done ?_) | refine ListO.go gOk hE ?_))
    all_goals first
      | (exfalso; omega)
      | (unfold maxLen; omega)
      | omega
      | exact Need.mk rfl
      | exact OutS.whole (by simp) rfl
      | trace_state
  · have hF0 : F.nE ≤ 0 := by omega
    rw [fS_eq]
    refine CodeK.know 0 hF0 (fun F' hF' => CodeK.fsd ?_)
    clear hok hE hF hF0
    have hE : F'.nE ≤ 1000000 := by omega
    have hρ : 0 < F'.nE := by omega
    have hi2 : i < xs.length := by omega
    generalize hcp : (F'.E 0).cap = cp
    have a1 : adN 0 ((i : Int) + (vs.length : Int)) = i + 1 := by rw [show (i : Int) + vs.length = ((i + 1 : Nat) : Int) by omega]; exact adN_zero _
    have a2 : adN 0 (i : Int) = i := adN_zero _
    have a3 : ((i : Int) + (vs.length : Int)).toNat = i + 1 := by omega
    have hv0 : vs.getD 0 zWrite = x := by rw [hvs]; rfl
    have l1 : (xs.take (i + 1) ++ xs.drop i).length = xs.length + 1 := by simp; omega
    have l2 : (xs.take i ++ x :: xs.drop i).length = xs.length + 1 := by simp; omega
    have l3 : (xs.take i ++ List.replicate (xs.length + 1 - i) zWrite).length = xs.length + 1 := by simp; omega
    have l4 : (xs.take i ++ x :: List.replicate (xs.length - i) zWrite).length = xs.length + 1 := by simp; omega
    have g3 : ∀ q, i ≤ q → (xs.take i ++ List.replicate (xs.length + 1 - i) zWrite).getD q zWrite = zWrite := by
      intro q hq
      simp only [List.getD]
      rw [List.getElem?_append_right (by simp; omega), List.getElem?_replicate]; split <;> rfl
    have g3' : ∀ q, q < i → (xs.take i ++ List.replicate (xs.length + 1 - i) zWrite).getD q zWrite = xs.getD q zWrite := by
      intro q hq
      simp only [List.getD]
      rw [List.getElem?_append_left (by simp; omega), List.getElem?_take, if_pos hq]
    have g4 : ∀ q, (xs.take i ++ x :: List.replicate (xs.length - i) zWrite).getD q zWrite = if q < i then xs.getD q zWrite else if q = i then x else zWrite := by
      intro q
      have hl : (xs.take i).length = i := by simp; omega
      simp only [List.getD]
      split
      · rw [List.getElem?_append_left (by omega), List.getElem?_take, if_pos (by omega)]
      · rw [List.getElem?_append_right (by omega), hl]
        split
        · subst q; simp
        · obtain ⟨t, rfl⟩ : ∃ t, q = i + 1 + t := ⟨q - i - 1, by omega⟩
          rw [show i + 1 + t - i = t + 1 by omega, List.getElem?_cons_succ, List.getElem?_replicate]; split <;> rfl
    by_cases hc : xs.length + 1 ≤ cp
    · (repeat' (first | exact trivial | refine BS.d (fun h => ?_) (fun h => ?_) | refine BS.e (fun h => ?_) (fun h => ?_) | refine BS.ne (fun h => ?_) (fun h => ?_) | refine BS.n ?_ | refine BS.s (fun h => ?_) (fun h => ?_) | refine And.intro ?_ ?_ | (refine Need.mk ?_; first | with_reducible rfl | (show @Eq TC _ _; rfl) | omega | (simp only [adN_zero]; omega)) | exact OutS.whole rfl rfl | (refine OpK.capE gOk hρ rfl rfl rfl rfl rfl rfl ?_) | (refine OpK.ovl (t := 34) (tR := 4) gOk rfl rfl rfl rfl rfl Try.func161 (by kernel_rfl) (by kernel_rfl) (by kernel_rfl) (by kernel_rfl) rfl rfl rfl rfl rfl rfl rfl ?_) | (refine CodeK.revealR 13 rfl hρ rfl (by rw [hcp]; exact hc) rfl ?_) | (refine ListO.pure rfl rfl (PK.sliceX (h' := xs.length + 1) gOk rfl rfl rfl rfl (.inl ⟨rfl, rfl⟩) rfl ?_ ?_ ?_)) | (refine OpK.copyT (xs := xs.map some ++ [none]) gOk ((xs.take (i + 1) ++ xs.drop i).map some) rfl rfl rfl rfl rfl rfl rfl rfl rfl ?_ ?_ ?_ ?_) | (refine OpK.copyX (xs := (xs.take (i + 1) ++ xs.drop i).map some) gOk encWrite decWrite zWrite (xs.take i ++ x :: xs.drop i) rfl rfl rfl rfl rfl rfl rfl rfl rfl ?_ ?_ ?_ ?_) | (refine CodeK.draw gOk hE rfl (fun _ _ h => h) (.take 0 (.take 1 (.take 2 (.take 3 (.take 4 (.take 5 (.take 6 (.take 7 (.alt 8 .done .stop))))))))) ?_ ?_; focus (decide +kernel)) | (refine CodeK.seqL 13 rfl ?_) | (refine CodeK.seqv gOk hE ?_) | (refine CodeK.vc gOk hE ?_) | (refine ListO.step gOk hE ?_) | (refine ListO.done ?_) | refine ListO.go gOk hE ?_))
      all_goals first
        | (exfalso; omega)
        | omega
        | (simp only [List.length_map, List.length_append, List.length_cons, List.length_nil] at *; omega)
        | (intro q r hq hr; simp only [a1, a2, a3] at *
           have hq' := Nat.lt_of_lt_of_le hq (Nat.min_le_right _ _)
           have hq2 : q + i < xs.length := by omega
           rw [map_some_getD zWrite _ _ (by omega), mapn_getD zWrite _ _ (by omega), ins1_getD zWrite xs i _ hi2, if_neg (by omega), show i + 1 + q - 1 = i + q by omega]
           exact flatWrite _ r hr)
        | (intro q hq; simp only [a1, a2, a3] at *
           by_cases hql : q < xs.length + 1
           · by_cases hqi : q ≤ i
             · rw [map_some_getD zWrite _ _ (by omega), mapn_getD zWrite _ _ (by omega), ins1_getD zWrite xs i _ hi2, if_pos hqi]
             · exfalso; refine hq ⟨by omega, ?_⟩
               rw [show Nat.min _ _ = min _ _ from rfl, Nat.min_def]; split <;> omega
           · simp only [List.getD]
             rw [List.getElem?_eq_none (by simp; omega), List.getElem?_eq_none (by simp; omega)])
        | (intro q r hq hr; simp only [a1, a2, a3] at *
           have hq' := Nat.lt_of_lt_of_le hq (Nat.min_le_left _ _)
           obtain rfl : q = 0 := by omega
           rw [Nat.zero_add, hv0, Nat.add_zero, ins2_getD zWrite xs i _ x hi, if_neg (by omega), if_pos rfl]
           exact flatWrite _ r hr)
        | (intro q r hql hr hq; simp only [a1, a2, a3] at *
           have hql2 : q < xs.length + 1 := by simp only [List.length_map] at hql; omega
           rw [map_some_getD zWrite _ _ (by omega), ins1_getD zWrite xs i _ hi2, ins2_getD zWrite xs i _ x hi]
           show _ = encWrite _ r
           by_cases hqi : q < i
           · rw [if_pos hqi, if_pos (by omega)]
           · rw [if_neg hqi]
             by_cases hqe : q = i
             · exfalso; refine hq ⟨by omega, ?_⟩
               rw [show Nat.min _ _ = min _ _ from rfl, Nat.min_def]; split <;> omega
             · rw [if_neg hqe, if_neg (by omega)])
        | exact OutS.whole (by omega) rfl
        | trace_state
    · (repeat' (first | exact trivial | refine BS.d (fun h => ?_) (fun h => ?_) | refine BS.e (fun h => ?_) (fun h => ?_) | refine BS.ne (fun h => ?_) (fun h => ?_) | refine BS.n ?_ | refine BS.s (fun h => ?_) (fun h => ?_) | refine And.intro ?_ ?_ | (refine Need.mk ?_; first | with_reducible rfl | (show @Eq TC _ _; rfl) | omega | (simp only [adN_zero]; omega)) | exact OutS.whole rfl rfl | (refine OpK.capE gOk hρ rfl rfl rfl rfl rfl rfl ?_) | (refine OpK.growP (m := xs.length + 1 - i) (z := [.lit (.int .i64 0), .lit (.bool false), .lit (.int .i64 0)]) gOk zWrite hρ (by rfl) (by rfl) (by rfl) (by rfl) (by rfl) (by rfl) Try.underlying3 (by rfl) (by rfl) (by rfl) ?_ (by rfl) ?_ ?_ ?_ ?_ zeroWrite ?_ (by rfl) (by decide) ?_) | (refine OpK.copyT (xs := xs.take i ++ List.replicate (xs.length + 1 - i) zWrite) gOk (xs.take i ++ x :: List.replicate (xs.length - i) zWrite) rfl rfl rfl rfl rfl rfl rfl rfl rfl ?_ ?_ ?_ ?_) | (refine OpK.copyT (xs := xs.take i ++ x :: List.replicate (xs.length - i) zWrite) gOk (xs.take i ++ x :: xs.drop i) rfl rfl rfl rfl rfl rfl rfl rfl rfl ?_ ?_ ?_ ?_) | (refine CodeK.draw gOk hE rfl (fun _ _ h => h) (.take 0 (.take 1 (.take 2 (.take 3 (.take 4 (.take 5 (.take 6 (.take 7 (.alt 8 .done .stop))))))))) ?_ ?_; focus (decide +kernel)) | (refine CodeK.seqL 9999 rfl ?_) | (refine CodeK.seqv gOk hE ?_) | (refine CodeK.vc gOk hE ?_) | (refine ListO.step gOk hE ?_) | (refine ListO.done ?_) | refine ListO.go gOk hE ?_))
      all_goals first
        | (exfalso; omega)
        | omega
        | (unfold maxLen; omega)
        | (simp only [List.length_map, List.length_append, List.length_cons, List.length_nil] at *; omega)
        | (intro q r hq hr; exact ⟨_, (flatWrite _ r hr).choose_spec.1⟩)
        | (intro q r hq hr; simp only [a1, a2, a3] at *
           have hq' := Nat.lt_of_lt_of_le hq (Nat.min_le_left _ _)
           obtain rfl : q = 0 := by omega
           rw [Nat.zero_add, hv0, Nat.add_zero, g4, if_neg (by omega), if_pos rfl]
           exact flatWrite _ r hr)
        | (intro q hq; simp only [a1, a2, a3] at *
           by_cases hqi : q < i
           · rw [g4, if_pos hqi, g3' q hqi]
           · by_cases hqe : q = i
             · exfalso; refine hq ⟨by omega, ?_⟩
               rw [show Nat.min _ _ = min _ _ from rfl, Nat.min_def]; split <;> omega
             · rw [g4, if_neg hqi, if_neg hqe, g3 q (by omega)])
        | (intro q r hq hr; simp only [a1, a2, a3] at *
           have hq' := Nat.lt_of_lt_of_le hq (Nat.min_le_left _ _)
           rw [ins2_getD zWrite xs i _ x hi, if_neg (by omega), if_neg (by omega), show i + 1 + q - 1 = i + q by omega]
           exact flatWrite _ r hr)
        | (intro q hq; simp only [a1, a2, a3] at *
           rw [g4, ins2_getD zWrite xs i _ x hi]
           by_cases hqi : q < i
           · rw [if_pos hqi, if_pos hqi]
           · by_cases hqe : q = i
             · rw [if_neg hqi, if_neg hqi, if_pos hqe, if_pos hqe]
             · rw [if_neg hqi, if_neg hqi, if_neg hqe, if_neg hqe]
               by_cases hql : q < xs.length + 1
               · exfalso; refine hq ⟨by omega, ?_⟩
                 rw [show Nat.min _ _ = min _ _ from rfl, Nat.min_def]; split <;> omega
               · simp only [List.getD]; rw [List.getElem?_eq_none (by omega)]; rfl)
        | exact OutS.whole (by omega) rfl
        | trace_state
end Go.Proofs.Ythfcpaplnifhiaa
end

section
/- insertBefore over writes. -/
namespace Go.Proofs.Ythfcpaplnifhiaa
open Go Go.Tr
set_option maxRecDepth 100000
set_option maxHeartbeats 4000000
set_option linter.unusedVariables false
set_option linter.unusedSimpArgs false
theorem insBWrite_run {hc : Hc} {cf : Nat} {caps : Array Value} (p : WriteT → Bool) (xs : List WriteT) (x : WriteT) (hn : xs.length ≤ 1048576) (hcs : ∀ v ∈ caps, scal v = true) (hf : ∀ x : WriteT, RunH Try.prog hc cf ([aWrite x] ++ capA caps) [] [ob (p x)] []) :
    RunH Try.prog hc 95 [.one (.m (tWrite 37 xs)), aWrite x, .one (.c (.lit (.func (.func cf) #[] caps)))] [] [.one (tWrite 37 (insE p zWrite x xs))] [] := by
  have c1 := IndexWrite_run (hc := hc) p 37 xs (by omega) hcs hf
  unfold insE fiP
  cases hfi : firstP (fun j => p (xs.getD j zWrite)) 0 xs.length with
  | none =>
    rw [hfi] at c1
    have c2 := (InsWrite_run xs xs.length x hn (Nat.le_refl _)).toH hc
    rw [List.take_of_length_le (Nat.le_refl _), List.drop_of_length_le (Nat.le_refl _)] at c2
    simp only [plRWrite] at c1
    refine RunH.of_vc gOk Try.func95 rfl rfl (Nat.le_of_ble_eq_true rfl) (by repeat' (first | exact trivial | exact ⟨_, rfl, Nat.le_refl _⟩ | exact Nat.le_of_ble_eq_true rfl | refine And.intro ?_ ?_)) (Nat.le_of_ble_eq_true rfl) rfl (fun F hE hA => ?_)
    repeat' (first | exact trivial | refine BS.d (fun h => ?_) (fun h => ?_) | refine BS.e (fun h => ?_) (fun h => ?_) | refine BS.ne (fun h => ?_) (fun h => ?_) | refine BS.n ?_ | refine BS.s (fun h => ?_) (fun h => ?_) | refine And.intro ?_ ?_ | (refine Need.mk ?_; first | with_reducible rfl | (show @Eq TC _ _; rfl) | omega | (simp only [adN_zero]; omega)) | exact OutS.whole rfl rfl | (refine OpK.callH c1 hA rfl rfl rfl rfl hE ?_ rfl rfl ?_; focus ((repeat' (first | exact PsA.lit _ | exact PsA.ref rfl rfl | constructor)); all_goals (fail "ps"))) | (refine OpK.litTy 18 encWrite decWrite zWrite x rfl rfl (fun r hr => by rcases r with _ | _ | _ | r <;> first | rfl | omega) ?_) | (refine OpK.callG [] [(1000000, 0, 0), (18, 2, 0)] c2 hA rfl rfl rfl rfl hE (List.forall_mem_cons.2 ⟨rfl, List.forall_mem_cons.2 ⟨rfl, fun _ h => nomatch h⟩⟩) (fun _ h => nomatch h) (fun _ h => nomatch h) List.nodup_nil (QsVs.cons (.one (.m rfl rfl (.whole rfl rfl))) (.cons (.one (.c (.lit _) rfl)) (.cons (.one (.m rfl rfl (.whole rfl rfl))) .nil))) rfl rfl ?_) | refine ListO.go gOk hE ?_)
    all_goals first | exact Need.mk rfl | exact OutS.whole rfl rfl | (exfalso; omega) | trace_state
  | some j =>
    rw [hfi] at c1
    have hj : j < xs.length := fiP_lt (P := p) (z := zWrite) (r := xs) hfi
    have c2 := (InsWrite_run xs j x hn (by omega)).toH hc
    simp only [plRWrite] at c1
    (try dsimp only)
    generalize xs.take j ++ x :: xs.drop j = ys at *
    refine RunH.of_vc gOk Try.func95 rfl rfl (Nat.le_of_ble_eq_true rfl) (by repeat' (first | exact trivial | exact ⟨_, rfl, Nat.le_refl _⟩ | exact Nat.le_of_ble_eq_true rfl | refine And.intro ?_ ?_)) (Nat.le_of_ble_eq_true rfl) rfl (fun F hE hA => ?_)
    repeat' (first | exact trivial | refine BS.d (fun h => ?_) (fun h => ?_) | refine BS.e (fun h => ?_) (fun h => ?_) | refine BS.ne (fun h => ?_) (fun h => ?_) | refine BS.n ?_ | refine BS.s (fun h => ?_) (fun h => ?_) | refine And.intro ?_ ?_ | (refine Need.mk ?_; first | with_reducible rfl | (show @Eq TC _ _; rfl) | omega | (simp only [adN_zero]; omega)) | exact OutS.whole rfl rfl | (refine OpK.callH c1 hA rfl rfl rfl rfl hE ?_ rfl rfl ?_; focus ((repeat' (first | exact PsA.lit _ | exact PsA.ref rfl rfl | constructor)); all_goals (fail "ps"))) | (refine OpK.litTy 18 encWrite decWrite zWrite x rfl rfl (fun r hr => by rcases r with _ | _ | _ | r <;> first | rfl | omega) ?_) | (refine OpK.callG [] [(1000000, 0, 0), (18, 2, 0)] c2 hA rfl rfl rfl rfl hE (List.forall_mem_cons.2 ⟨rfl, List.forall_mem_cons.2 ⟨rfl, fun _ h => nomatch h⟩⟩) (fun _ h => nomatch h) (fun _ h => nomatch h) List.nodup_nil (QsVs.cons (.one (.m rfl rfl (.whole rfl rfl))) (.cons (.one (.c (.lit _) rfl)) (.cons (.one (.m rfl rfl (.whole rfl rfl))) .nil))) rfl rfl ?_) | refine ListO.go gOk hE ?_)
    all_goals first | exact Need.mk rfl | exact OutS.whole rfl rfl | (exfalso; omega) | trace_state
end Go.Proofs.Ythfcpaplnifhiaa
end

section
namespace Go.Proofs.Ythfcpaplnifhiaa
open Go Go.Tr
set_option maxRecDepth 100000
set_option linter.unusedVariables false
set_option linter.unusedSimpArgs false
theorem szWriteS_run (e : Nat) (xs : List WriteT) (m : Int) (h0 : 0 ≤ m) (h1 : m ≤ 1048576) (hn : xs.length ≤ 9223372036854775807) : RunT Try.prog 22 [.one (.c (tWrite e xs)), ti m] [] [oi (szI xs m)] [] := by
  refine RunT.of_vc gOk Try.func22 rfl rfl (Nat.le_of_ble_eq_true rfl) (by repeat' (first | exact trivial | exact ⟨_, rfl, Nat.le_refl _⟩ | exact Nat.le_of_ble_eq_true rfl | refine And.intro ?_ ?_)) (Nat.le_of_ble_eq_true rfl) rfl (fun F hE => ?_)
  repeat' (first | exact trivial | refine BS.d (fun h => ?_) (fun h => ?_) | refine BS.e (fun h => ?_) (fun h => ?_) | refine BS.ne (fun h => ?_) (fun h => ?_) | refine BS.n ?_ | refine BS.s (fun h => ?_) (fun h => ?_) | refine And.intro ?_ ?_ | (refine Need.mk ?_; first | with_reducible rfl | (show @Eq TC _ _; rfl) | omega | (simp only [adN_zero]; omega)) | exact OutS.whole rfl rfl | refine ListO.go gOk hE ?_)
  all_goals (refine Need.mk ?_; unfold szI; first | rw [if_pos (by omega)] | rw [if_neg (by omega)])
theorem toWrite_run (x : WriteT) : RunT Try.prog 25 [aWrite x] [] [oWrite x] [] := by
  refine RunT.of_vc gOk Try.func25 rfl rfl (Nat.le_of_ble_eq_true rfl) (by repeat' (first | exact trivial | exact ⟨_, rfl, Nat.le_refl _⟩ | exact Nat.le_of_ble_eq_true rfl | refine And.intro ?_ ?_)) (Nat.le_of_ble_eq_true rfl) rfl (fun F hE => ?_)
  repeat' (first | exact trivial | refine BS.d (fun h => ?_) (fun h => ?_) | refine BS.e (fun h => ?_) (fun h => ?_) | refine BS.ne (fun h => ?_) (fun h => ?_) | refine BS.n ?_ | refine BS.s (fun h => ?_) (fun h => ?_) | refine And.intro ?_ ?_ | (refine Need.mk ?_; first | with_reducible rfl | (show @Eq TC _ _; rfl) | omega | (simp only [adN_zero]; omega)) | exact OutS.whole rfl rfl | refine ListO.go gOk hE ?_)
theorem eqWrite_run (x : WriteT) : RunT Try.prog 97 [aWrite x, aWrite x] [] [ob true] [] := by
  refine RunT.of_vc gOk Try.func97 rfl rfl (Nat.le_of_ble_eq_true rfl) (by repeat' (first | exact trivial | exact ⟨_, rfl, Nat.le_refl _⟩ | exact Nat.le_of_ble_eq_true rfl | refine And.intro ?_ ?_)) (Nat.le_of_ble_eq_true rfl) rfl (fun F hE => ?_)
  repeat' (first | exact trivial | refine BS.d (fun h => ?_) (fun h => ?_) | refine BS.e (fun h => ?_) (fun h => ?_) | refine BS.ne (fun h => ?_) (fun h => ?_) | refine BS.n ?_ | refine BS.s (fun h => ?_) (fun h => ?_) | refine And.intro ?_ ?_ | (refine Need.mk ?_; first | with_reducible rfl | (show @Eq TC _ _; rfl) | omega | (simp only [adN_zero]; omega)) | exact OutS.whole rfl rfl | refine ListO.go gOk hE ?_)
  all_goals exact absurd rfl h
theorem toWriteS_run (e : Nat) (xs : List WriteT) (hn : xs.length ≤ 1048576) : RunT Try.prog 24 [.one (.c (tWrite e xs))] [] [.one (tWrite 37 xs)] [] := by
  refine RunT.of_vc gOk Try.func24 rfl rfl (Nat.le_of_ble_eq_true rfl) (by repeat' (first | exact trivial | exact ⟨_, rfl, Nat.le_refl _⟩ | exact Nat.le_of_ble_eq_true rfl | refine And.intro ?_ ?_)) (Nat.le_of_ble_eq_true rfl) rfl (fun F hE => ?_)
  repeat' (first | exact trivial | refine BS.d (fun h => ?_) (fun h => ?_) | refine BS.e (fun h => ?_) (fun h => ?_) | refine BS.ne (fun h => ?_) (fun h => ?_) | refine BS.n ?_ | refine BS.s (fun h => ?_) (fun h => ?_) | refine And.intro ?_ ?_ | (refine Need.mk ?_; first | with_reducible rfl | (show @Eq TC _ _; rfl) | omega | (simp only [adN_zero]; omega)) | exact OutS.whole rfl rfl | refine ListO.go gOk hE ?_)
  refine CodeK.loop gOk hE (fun i : Nat => ⟨[(0, vr 1000000 xs.length), (3, vr 7 xs.length), (4, vi i)], [(7, rWrite .own true 37 (fl zWrite xs i)), (1000000, rWrite .fro false e xs)]⟩) (fun i => i ≤ xs.length) (fun i => xs.length - i) 0 (by refine leT.of ?_ ?_ rfl <;> repeat' (first | exact trivial | refine And.intro rfl ?_ | refine And.intro (by simp [fl_zero] <;> rfl) ?_)) (Nat.zero_le _) ?_
  rintro i hi
  have hl := fl_len zWrite xs i hi
  repeat' (first | exact trivial | refine BS.d (fun h => ?_) (fun h => ?_) | refine BS.e (fun h => ?_) (fun h => ?_) | refine BS.ne (fun h => ?_) (fun h => ?_) | refine BS.n ?_ | refine BS.s (fun h => ?_) (fun h => ?_) | refine And.intro ?_ ?_ | (refine Need.mk ?_; first | with_reducible rfl | (show @Eq TC _ _; rfl) | omega | (simp only [adN_zero]; omega)) | exact OutS.whole rfl rfl | refine ListO.go gOk hE ?_)
  · refine OpK.call (toWrite_run (xs.getD i zWrite)) rfl rfl rfl rfl hE (by repeat' (first | exact PsA.lit _ | exact PsA.ref rfl rfl | constructor)) rfl rfl ?_
    repeat' (first | exact trivial | refine BS.d (fun h => ?_) (fun h => ?_) | refine BS.e (fun h => ?_) (fun h => ?_) | refine BS.ne (fun h => ?_) (fun h => ?_) | refine BS.n ?_ | refine BS.s (fun h => ?_) (fun h => ?_) | refine And.intro ?_ ?_ | (refine Need.mk ?_; first | with_reducible rfl | (show @Eq TC _ _; rfl) | omega | (simp only [adN_zero]; omega)) | exact OutS.whole rfl rfl | refine ListO.go gOk hE ?_)
    all_goals (refine ⟨i + 1, (by refine leT.of ?_ ?_ rfl <;> repeat' (first | exact trivial | refine And.intro rfl ?_ | refine And.intro (by first | (rw [← fl_set zWrite xs i (by omega)]; rfl) | (simp <;> rfl)) ?_)), ?_⟩; (refine And.intro ?_ ?_) <;> (first | omega | (dsimp only; omega) | trivial))
  · exact OutS.whole hl.symm (by rw [fl_full _ _ _ (by omega) hi]; rfl)
theorem eqWriteS_run (e : Nat) (xs : List WriteT) (hn : xs.length ≤ 4000000) : RunT Try.prog 27 [.one (.c (tWrite e xs)), .one (.c (tWrite e xs))] [] [ob true] [] := by
  refine RunT.of_vc gOk Try.func27 rfl rfl (Nat.le_of_ble_eq_true rfl) (by repeat' (first | exact trivial | exact ⟨_, rfl, Nat.le_refl _⟩ | exact Nat.le_of_ble_eq_true rfl | refine And.intro ?_ ?_)) (Nat.le_of_ble_eq_true rfl) rfl (fun F hE => ?_)
  repeat' (first | exact trivial | refine BS.d (fun h => ?_) (fun h => ?_) | refine BS.e (fun h => ?_) (fun h => ?_) | refine BS.ne (fun h => ?_) (fun h => ?_) | refine BS.n ?_ | refine BS.s (fun h => ?_) (fun h => ?_) | refine And.intro ?_ ?_ | (refine Need.mk ?_; first | with_reducible rfl | (show @Eq TC _ _; rfl) | omega | (simp only [adN_zero]; omega)) | exact OutS.whole rfl rfl | refine ListO.go gOk hE ?_)
  · refine CodeK.loop gOk hE (fun i : Nat => ⟨[(0, vr 1000000 xs.length), (1, vr 1000001 xs.length), (5, vi i)], [(1000000, rWrite .fro false e xs), (1000001, rWrite .fro false e xs)]⟩) (fun i => i ≤ xs.length) (fun i => xs.length - i) 0 (by refine leT.of ?_ ?_ rfl <;> repeat' (first | exact trivial | refine And.intro rfl ?_ | refine And.intro (by simp) ?_)) (Nat.zero_le _) ?_
    rintro i hi
    repeat' (first | exact trivial | refine BS.d (fun h => ?_) (fun h => ?_) | refine BS.e (fun h => ?_) (fun h => ?_) | refine BS.ne (fun h => ?_) (fun h => ?_) | refine BS.n ?_ | refine BS.s (fun h => ?_) (fun h => ?_) | refine And.intro ?_ ?_ | (refine Need.mk ?_; first | with_reducible rfl | (show @Eq TC _ _; rfl) | omega | (simp only [adN_zero]; omega)) | exact OutS.whole rfl rfl | refine ListO.go gOk hE ?_)
    · refine CodeK.draw gOk hE rfl (fun _ _ h => h) (.take 0 (.take 1 (.take 2 (.take 4 (.take 5 (.take 6 (.alt 3 (.alt 7 (.alt 8 (.take 9 .done) .stop) .stop) (.alt 7 (.alt 3 (.alt 8 (.take 9 .done) .stop) .stop) .stop)))))))) (by decide +kernel) ?_
      repeat' (first | exact trivial | refine BS.d (fun h => ?_) (fun h => ?_) | refine BS.e (fun h => ?_) (fun h => ?_) | refine BS.ne (fun h => ?_) (fun h => ?_) | refine BS.n ?_ | refine BS.s (fun h => ?_) (fun h => ?_) | refine And.intro ?_ ?_ | (refine Need.mk ?_; first | with_reducible rfl | (show @Eq TC _ _; rfl) | omega | (simp only [adN_zero]; omega)) | exact OutS.whole rfl rfl | refine ListO.go gOk hE ?_)
      all_goals (refine OpK.call (eqWrite_run _) rfl rfl rfl rfl hE (by repeat' (first | exact PsA.lit _ | exact PsA.ref rfl rfl | constructor)) rfl rfl ?_)
      all_goals (repeat' (first | exact trivial | refine BS.d (fun h => ?_) (fun h => ?_) | refine BS.e (fun h => ?_) (fun h => ?_) | refine BS.ne (fun h => ?_) (fun h => ?_) | refine BS.n ?_ | refine BS.s (fun h => ?_) (fun h => ?_) | refine And.intro ?_ ?_ | (refine Need.mk ?_; first | with_reducible rfl | (show @Eq TC _ _; rfl) | omega | (simp only [adN_zero]; omega)) | exact OutS.whole rfl rfl | refine ListO.go gOk hE ?_))
      all_goals (refine ⟨i + 1, (by refine leT.of ?_ ?_ rfl <;> repeat' (first | exact trivial | refine And.intro rfl ?_ | refine And.intro (by simp) ?_)), ?_⟩; (refine And.intro ?_ ?_) <;> (first | omega | (dsimp only; omega) | trivial))
theorem Writes_of {e e' n : Nat} {row : Nat → Nat → C} (hn : n ≤ 9223372036854775807) (h : ∀ i r t, i < n → ([Dt.i, Dt.b, Dt.i] : List Dt)[r]? = some t → DtOk t (row i r)) : ∃ xs : List WriteT, xs.length = n ∧ (∀ x ∈ xs, (-9223372036854775808 ≤ x.1 ∧ x.1 ≤ 9223372036854775807) ∧ True ∧ (-9223372036854775808 ≤ x.2.2 ∧ x.2.2 ≤ 9223372036854775807)) ∧ CSame (.sl .fro e 3 n row) ((tWrite e' xs).er .fro) :=
  list_of decWrite zWrite 3 (fun f hf => by
    obtain ⟨z0, hz0, w0⟩ := (hf 0 .i rfl).int
    obtain ⟨z1, hz1⟩ := (hf 1 .b rfl).bool
    obtain ⟨z2, hz2, w2⟩ := (hf 2 .i rfl).int
    refine ⟨(z0, z1, z2), ⟨w0, trivial, w2⟩, fun r hr => ?_⟩
    match r, hr with
    | 0, _ => rw [hz0]; exact rfl
    | 1, _ => rw [hz1]; exact rfl
    | 2, _ => rw [hz2]; exact rfl
    ) h
end Go.Proofs.Ythfcpaplnifhiaa
end

section
namespace Go.Proofs.Ythfcpaplnifhiaa
open Go Go.Tr
set_option maxRecDepth 100000
set_option linter.unusedVariables false
set_option linter.unusedSimpArgs false
set_option maxHeartbeats 4000000
theorem CloneWrite_base (e n : Nat) (row : Nat → Nat → C) (hn : n ≤ 1048576) (hfl : ∀ i r, r < 3 → ∃ v, row i r = .lit v) :
    Run Try.prog 93 [.one (.c (.sl .fro e 3 n row))] [] fun outs ext => outs = [.one (.sl .own 37 3 n row)] ∧ ext = [] := by
  refine Run.of_body tyOk Try.func93 (by rfl) (Nat.le_of_ble_eq_true rfl) (by simp [argsOk, aasOk, aaOk]) [] rfl (fun F hF => ?_)
  repeat (first | (first | refine AL.nil ?_ | refine AL.move (.inl (by rfl)) (by rfl) (by rfl) ?_ | refine AL.move (.inr (by rfl)) (by rfl) (by rfl) ?_ | refine AL.fieldAddr tyOk (by rfl) (by rfl) (by rfl) (by rfl) (by rfl) (by rfl) ?_ | refine AL.load1 tyOk (by rfl) (by rfl) (by rfl) (by rfl) (by rfl) (by rfl) (by rfl) (by first | exact Nat.le_of_ble_eq_true rfl | (dsimp only; omega) | omega | assumption | (simp only [openR]; omega) | exact Nat.lt_of_lt_of_le (m := 3) (by omega) (Nat.le_of_ble_eq_true rfl)) (by first | exact Nat.le_of_ble_eq_true rfl | (dsimp only; omega) | omega | assumption | (simp only [openR]; omega) | exact Nat.lt_of_lt_of_le (m := 3) (by omega) (Nat.le_of_ble_eq_true rfl)) (by rfl) ?_ | refine AL.loadAggE tyOk (by rfl) (by rfl) (by rfl) (by rfl) (by rfl) (by rfl) (by rfl) (by first | exact Nat.le_of_ble_eq_true rfl | (dsimp only; omega) | omega | assumption | (simp only [openR]; omega) | exact Nat.lt_of_lt_of_le (m := 3) (by omega) (Nat.le_of_ble_eq_true rfl)) (by first | exact Nat.le_of_ble_eq_true rfl | (dsimp only; omega) | omega | assumption | (simp only [openR]; omega) | exact Nat.lt_of_lt_of_le (m := 3) (by omega) (Nat.le_of_ble_eq_true rfl)) (by rfl) ?_ | refine AL.stor tyOk (by rfl) (by rfl) (by rfl) (by rfl) (by rfl) (by rfl) (by rfl) (by rfl) (by rfl) (by first | exact Nat.le_of_ble_eq_true rfl | (dsimp only; omega) | omega | assumption | (simp only [openR]; omega) | exact Nat.lt_of_lt_of_le (m := 3) (by omega) (Nat.le_of_ble_eq_true rfl)) (by first | exact Nat.le_of_ble_eq_true rfl | (dsimp only; omega) | omega | assumption | (simp only [openR]; omega) | exact Nat.lt_of_lt_of_le (m := 3) (by omega) (Nat.le_of_ble_eq_true rfl)) ?_ | refine AL.len (ty := 0) tyOk (by rfl) (by rfl) (by rfl) (by rfl) (by rfl) ?_ | refine AL.add (by rfl) (by rfl) (by rfl) (by rfl) (by rfl) (by constructor <;> omega) ?_ | refine AL.sub (by rfl) (by rfl) (by rfl) (by rfl) (by rfl) (by constructor <;> omega) ?_ | refine AL.mul (by rfl) (by rfl) (by rfl) (by rfl) (by rfl) (by constructor <;> omega) ?_ | refine AL.int2 (by rfl) (by rfl) (by rfl) (by rfl) (by rfl) (by rfl) (by first | trivial | decide | omega) ?_ | refine AL.bEq (by rfl) (by rfl) (by rfl) (by rfl) (by rfl) Try.underlying4 ?_ | refine AL.bNe (by rfl) (by rfl) (by rfl) (by rfl) (by rfl) Try.underlying4 ?_ | refine AL.not (by rfl) (by rfl) (by rfl) (by rfl) ?_ | refine AL.gOnE (by rfl) (by rfl) (by rfl) (by rfl) (by decide) (by first | rfl | assumption) ?_ | refine AL.gOffE (by rfl) (by rfl) (by rfl) (by rfl) (by rfl) (by decide) (by first | rfl | assumption) ?_ | refine AL.pickE (b' := true) (by rfl) (by rfl) (by rfl) (by rfl) (by first | rfl | assumption) ?_ | refine AL.pickE (b' := false) (by rfl) (by rfl) (by rfl) (by rfl) (by first | rfl | assumption) ?_ | refine AL.extract (by rfl) (by rfl) (by rfl) (by rfl) (by rfl) ?_ | refine AL.boxD tyOk (by rfl) (by rfl) (by rfl) (Nat.le_of_ble_eq_true rfl) (by rfl) (by rfl) (by rfl) (by decide) (by rfl) ?_ | refine AL.allocD tyOk (by rfl) (by rfl) (by rfl) (Nat.le_of_ble_eq_true rfl) (by rfl) (by rfl) (by decide) (by rfl) ?_ | refine AL.indexN tyOk (by rfl) (by rfl) (by rfl) (by rfl) (by rfl) (by rfl) (by rfl) (by rfl) (by first | rfl | exact (Int.toNat_of_nonneg (by omega)).symm) (by omega) ?_ | refine AL.indexSl tyOk (by rfl) (by rfl) (by rfl) (by rfl) (by rfl) (by rfl) (by rfl) (by rfl) (by constructor <;> omega) ?_ | refine AL.indexArr tyOk (by rfl) (by rfl) (by rfl) (by rfl) (by rfl) (by rfl) (by constructor <;> omega) ?_ | refine AL.makeD tyOk _ (by rfl) (by rfl) (by rfl) (Nat.le_of_ble_eq_true rfl) (by rfl) (by rfl) (by rfl) (by rfl) (by rfl) (by rfl) (by rfl) (by omega) (by omega) (by decide) (by rfl) ?_ | refine AL.build (qs := []) tyOk (by rfl) (by rfl) (by rfl) (by rfl) (by rfl) (by exact PartsOk.nil) (by rfl) ?_ | refine AL.build (qs := [(_, _)]) tyOk (by rfl) (by rfl) (by rfl) (by rfl) (by rfl) (by exact PartsOk.cons (by rfl) (by rfl) PartsOk.nil) (by rfl) ?_ | refine AL.build (qs := [(_, _), (_, _)]) tyOk (by rfl) (by rfl) (by rfl) (by rfl) (by rfl) (by exact PartsOk.cons (by rfl) (by rfl) (PartsOk.cons (by rfl) (by rfl) PartsOk.nil)) (by rfl) ?_ | refine AL.nilCheck (by rfl) (by rfl) (by rfl) (by rfl) ?_) | (first | refine AC.region ?_ | refine AC.seq ?_ | refine AC.block ?_ | refine AC.ret ?_ | refine AC.exit ?_ | refine AC.skip ?_))
  refine AL.isNil (by rfl) (by rfl) (by rfl) (by rfl) (by rfl) Try.underlying34 (fun b hb => ?_)
  repeat (first | (first | refine AL.nil ?_ | refine AL.move (.inl (by rfl)) (by rfl) (by rfl) ?_ | refine AL.move (.inr (by rfl)) (by rfl) (by rfl) ?_ | refine AL.fieldAddr tyOk (by rfl) (by rfl) (by rfl) (by rfl) (by rfl) (by rfl) ?_ | refine AL.load1 tyOk (by rfl) (by rfl) (by rfl) (by rfl) (by rfl) (by rfl) (by rfl) (by first | exact Nat.le_of_ble_eq_true rfl | (dsimp only; omega) | omega | assumption | (simp only [openR]; omega) | exact Nat.lt_of_lt_of_le (m := 3) (by omega) (Nat.le_of_ble_eq_true rfl)) (by first | exact Nat.le_of_ble_eq_true rfl | (dsimp only; omega) | omega | assumption | (simp only [openR]; omega) | exact Nat.lt_of_lt_of_le (m := 3) (by omega) (Nat.le_of_ble_eq_true rfl)) (by rfl) ?_ | refine AL.loadAggE tyOk (by rfl) (by rfl) (by rfl) (by rfl) (by rfl) (by rfl) (by rfl) (by first | exact Nat.le_of_ble_eq_true rfl | (dsimp only; omega) | omega | assumption | (simp only [openR]; omega) | exact Nat.lt_of_lt_of_le (m := 3) (by omega) (Nat.le_of_ble_eq_true rfl)) (by first | exact Nat.le_of_ble_eq_true rfl | (dsimp only; omega) | omega | assumption | (simp only [openR]; omega) | exact Nat.lt_of_lt_of_le (m := 3) (by omega) (Nat.le_of_ble_eq_true rfl)) (by rfl) ?_ | refine AL.stor tyOk (by rfl) (by rfl) (by rfl) (by rfl) (by rfl) (by rfl) (by rfl) (by rfl) (by rfl) (by first | exact Nat.le_of_ble_eq_true rfl | (dsimp only; omega) | omega | assumption | (simp only [openR]; omega) | exact Nat.lt_of_lt_of_le (m := 3) (by omega) (Nat.le_of_ble_eq_true rfl)) (by first | exact Nat.le_of_ble_eq_true rfl | (dsimp only; omega) | omega | assumption | (simp only [openR]; omega) | exact Nat.lt_of_lt_of_le (m := 3) (by omega) (Nat.le_of_ble_eq_true rfl)) ?_ | refine AL.len (ty := 0) tyOk (by rfl) (by rfl) (by rfl) (by rfl) (by rfl) ?_ | refine AL.add (by rfl) (by rfl) (by rfl) (by rfl) (by rfl) (by constructor <;> omega) ?_ | refine AL.sub (by rfl) (by rfl) (by rfl) (by rfl) (by rfl) (by constructor <;> omega) ?_ | refine AL.mul (by rfl) (by rfl) (by rfl) (by rfl) (by rfl) (by constructor <;> omega) ?_ | refine AL.int2 (by rfl) (by rfl) (by rfl) (by rfl) (by rfl) (by rfl) (by first | trivial | decide | omega) ?_ | refine AL.bEq (by rfl) (by rfl) (by rfl) (by rfl) (by rfl) Try.underlying4 ?_ | refine AL.bNe (by rfl) (by rfl) (by rfl) (by rfl) (by rfl) Try.underlying4 ?_ | refine AL.not (by rfl) (by rfl) (by rfl) (by rfl) ?_ | refine AL.gOnE (by rfl) (by rfl) (by rfl) (by rfl) (by decide) (by first | rfl | assumption) ?_ | refine AL.gOffE (by rfl) (by rfl) (by rfl) (by rfl) (by rfl) (by decide) (by first | rfl | assumption) ?_ | refine AL.pickE (b' := true) (by rfl) (by rfl) (by rfl) (by rfl) (by first | rfl | assumption) ?_ | refine AL.pickE (b' := false) (by rfl) (by rfl) (by rfl) (by rfl) (by first | rfl | assumption) ?_ | refine AL.extract (by rfl) (by rfl) (by rfl) (by rfl) (by rfl) ?_ | refine AL.boxD tyOk (by rfl) (by rfl) (by rfl) (Nat.le_of_ble_eq_true rfl) (by rfl) (by rfl) (by rfl) (by decide) (by rfl) ?_ | refine AL.allocD tyOk (by rfl) (by rfl) (by rfl) (Nat.le_of_ble_eq_true rfl) (by rfl) (by rfl) (by decide) (by rfl) ?_ | refine AL.indexN tyOk (by rfl) (by rfl) (by rfl) (by rfl) (by rfl) (by rfl) (by rfl) (by rfl) (by first | rfl | exact (Int.toNat_of_nonneg (by omega)).symm) (by omega) ?_ | refine AL.indexSl tyOk (by rfl) (by rfl) (by rfl) (by rfl) (by rfl) (by rfl) (by rfl) (by rfl) (by constructor <;> omega) ?_ | refine AL.indexArr tyOk (by rfl) (by rfl) (by rfl) (by rfl) (by rfl) (by rfl) (by constructor <;> omega) ?_ | refine AL.makeD tyOk _ (by rfl) (by rfl) (by rfl) (Nat.le_of_ble_eq_true rfl) (by rfl) (by rfl) (by rfl) (by rfl) (by rfl) (by rfl) (by rfl) (by omega) (by omega) (by decide) (by rfl) ?_ | refine AL.build (qs := []) tyOk (by rfl) (by rfl) (by rfl) (by rfl) (by rfl) (by exact PartsOk.nil) (by rfl) ?_ | refine AL.build (qs := [(_, _)]) tyOk (by rfl) (by rfl) (by rfl) (by rfl) (by rfl) (by exact PartsOk.cons (by rfl) (by rfl) PartsOk.nil) (by rfl) ?_ | refine AL.build (qs := [(_, _), (_, _)]) tyOk (by rfl) (by rfl) (by rfl) (by rfl) (by rfl) (by exact PartsOk.cons (by rfl) (by rfl) (PartsOk.cons (by rfl) (by rfl) PartsOk.nil)) (by rfl) ?_ | refine AL.nilCheck (by rfl) (by rfl) (by rfl) (by rfl) ?_) | (first | refine AC.region ?_ | refine AC.seq ?_ | refine AC.block ?_ | refine AC.ret ?_ | refine AC.exit ?_ | refine AC.skip ?_))
  refine AC.cond (by rfl) (fun h => ?_) (fun h => ?_)
  · have h0 : n = 0 := hb (by simpa using h)
    subst h0
    repeat (first | (first | (first | refine AL.nil ?_ | refine AL.move (.inl (by rfl)) (by rfl) (by rfl) ?_ | refine AL.move (.inr (by rfl)) (by rfl) (by rfl) ?_ | refine AL.fieldAddr tyOk (by rfl) (by rfl) (by rfl) (by rfl) (by rfl) (by rfl) ?_ | refine AL.load1 tyOk (by rfl) (by rfl) (by rfl) (by rfl) (by rfl) (by rfl) (by rfl) (by first | exact Nat.le_of_ble_eq_true rfl | (dsimp only; omega) | omega | assumption | (simp only [openR]; omega) | exact Nat.lt_of_lt_of_le (m := 3) (by omega) (Nat.le_of_ble_eq_true rfl)) (by first | exact Nat.le_of_ble_eq_true rfl | (dsimp only; omega) | omega | assumption | (simp only [openR]; omega) | exact Nat.lt_of_lt_of_le (m := 3) (by omega) (Nat.le_of_ble_eq_true rfl)) (by rfl) ?_ | refine AL.loadAggE tyOk (by rfl) (by rfl) (by rfl) (by rfl) (by rfl) (by rfl) (by rfl) (by first | exact Nat.le_of_ble_eq_true rfl | (dsimp only; omega) | omega | assumption | (simp only [openR]; omega) | exact Nat.lt_of_lt_of_le (m := 3) (by omega) (Nat.le_of_ble_eq_true rfl)) (by first | exact Nat.le_of_ble_eq_true rfl | (dsimp only; omega) | omega | assumption | (simp only [openR]; omega) | exact Nat.lt_of_lt_of_le (m := 3) (by omega) (Nat.le_of_ble_eq_true rfl)) (by rfl) ?_ | refine AL.stor tyOk (by rfl) (by rfl) (by rfl) (by rfl) (by rfl) (by rfl) (by rfl) (by rfl) (by rfl) (by first | exact Nat.le_of_ble_eq_true rfl | (dsimp only; omega) | omega | assumption | (simp only [openR]; omega) | exact Nat.lt_of_lt_of_le (m := 3) (by omega) (Nat.le_of_ble_eq_true rfl)) (by first | exact Nat.le_of_ble_eq_true rfl | (dsimp only; omega) | omega | assumption | (simp only [openR]; omega) | exact Nat.lt_of_lt_of_le (m := 3) (by omega) (Nat.le_of_ble_eq_true rfl)) ?_ | refine AL.len (ty := 0) tyOk (by rfl) (by rfl) (by rfl) (by rfl) (by rfl) ?_ | refine AL.add (by rfl) (by rfl) (by rfl) (by rfl) (by rfl) (by constructor <;> omega) ?_ | refine AL.sub (by rfl) (by rfl) (by rfl) (by rfl) (by rfl) (by constructor <;> omega) ?_ | refine AL.mul (by rfl) (by rfl) (by rfl) (by rfl) (by rfl) (by constructor <;> omega) ?_ | refine AL.int2 (by rfl) (by rfl) (by rfl) (by rfl) (by rfl) (by rfl) (by first | trivial | decide | omega) ?_ | refine AL.bEq (by rfl) (by rfl) (by rfl) (by rfl) (by rfl) Try.underlying4 ?_ | refine AL.bNe (by rfl) (by rfl) (by rfl) (by rfl) (by rfl) Try.underlying4 ?_ | refine AL.not (by rfl) (by rfl) (by rfl) (by rfl) ?_ | refine AL.gOnE (by rfl) (by rfl) (by rfl) (by rfl) (by decide) (by first | rfl | assumption) ?_ | refine AL.gOffE (by rfl) (by rfl) (by rfl) (by rfl) (by rfl) (by decide) (by first | rfl | assumption) ?_ | refine AL.pickE (b' := true) (by rfl) (by rfl) (by rfl) (by rfl) (by first | rfl | assumption) ?_ | refine AL.pickE (b' := false) (by rfl) (by rfl) (by rfl) (by rfl) (by first | rfl | assumption) ?_ | refine AL.extract (by rfl) (by rfl) (by rfl) (by rfl) (by rfl) ?_ | refine AL.boxD tyOk (by rfl) (by rfl) (by rfl) (Nat.le_of_ble_eq_true rfl) (by rfl) (by rfl) (by rfl) (by decide) (by rfl) ?_ | refine AL.allocD tyOk (by rfl) (by rfl) (by rfl) (Nat.le_of_ble_eq_true rfl) (by rfl) (by rfl) (by decide) (by rfl) ?_ | refine AL.indexN tyOk (by rfl) (by rfl) (by rfl) (by rfl) (by rfl) (by rfl) (by rfl) (by rfl) (by first | rfl | exact (Int.toNat_of_nonneg (by omega)).symm) (by omega) ?_ | refine AL.indexSl tyOk (by rfl) (by rfl) (by rfl) (by rfl) (by rfl) (by rfl) (by rfl) (by rfl) (by constructor <;> omega) ?_ | refine AL.indexArr tyOk (by rfl) (by rfl) (by rfl) (by rfl) (by rfl) (by rfl) (by constructor <;> omega) ?_ | refine AL.makeD tyOk _ (by rfl) (by rfl) (by rfl) (Nat.le_of_ble_eq_true rfl) (by rfl) (by rfl) (by rfl) (by rfl) (by rfl) (by rfl) (by rfl) (by omega) (by omega) (by decide) (by rfl) ?_ | refine AL.build (qs := []) tyOk (by rfl) (by rfl) (by rfl) (by rfl) (by rfl) (by exact PartsOk.nil) (by rfl) ?_ | refine AL.build (qs := [(_, _)]) tyOk (by rfl) (by rfl) (by rfl) (by rfl) (by rfl) (by exact PartsOk.cons (by rfl) (by rfl) PartsOk.nil) (by rfl) ?_ | refine AL.build (qs := [(_, _), (_, _)]) tyOk (by rfl) (by rfl) (by rfl) (by rfl) (by rfl) (by exact PartsOk.cons (by rfl) (by rfl) (PartsOk.cons (by rfl) (by rfl) PartsOk.nil)) (by rfl) ?_ | refine AL.nilCheck (by rfl) (by rfl) (by rfl) (by rfl) ?_) | refine AL.buildSl0D tyOk (by rfl) (by rfl) (by rfl) (by rfl) (Nat.le_of_ble_eq_true rfl) (by rfl) (by decide) (by rfl) ?_ | refine AL.copyN tyOk (by rfl) (by rfl) (by rfl) (by rfl) (by rfl) (by rfl) (by rfl) (by rfl) (by rfl) (by rfl) (by rfl) (by rfl) (by rfl) ?_ | refine AL.append0 tyOk (by rfl) (by rfl) (by rfl) (by rfl) (by rfl) (by rfl) (by rfl) (by rfl) (by rfl) (by rfl) (by rfl) (by rfl) (by rfl) (by rfl) (by rfl) (okK_lt (by decide)) (by first | omega | (dsimp only; omega) | (unfold maxLen; dsimp only; omega)) (by first | omega | (dsimp only; omega) | (unfold maxLen; dsimp only; omega)) ?_ | refine AL.appendL tyOk (by rfl) (by rfl) (by rfl) (by rfl) (by rfl) (by rfl) (by rfl) (by rfl) (by rfl) (by rfl) (by rfl) (by rfl) (by rfl) (by rfl) (by rfl) (fun _ _ _ _ => rfl) (okK_lt (by decide)) (by first | omega | (dsimp only; omega) | (unfold maxLen; dsimp only; omega)) (by first | omega | (dsimp only; omega) | (unfold maxLen; dsimp only; omega)) ?_) | (first | refine AC.region ?_ | refine AC.seq ?_ | refine AC.block ?_ | refine AC.exit ?_ | refine AC.skip ?_))
    refine AC.nilRoot (t := 2) (d := 3) 37 3 (by rfl) (Nat.le_of_ble_eq_true rfl) (by rfl) ?_
    refine AC.le (St.le.sub (σ' := ⟨[(2, .a (.ref 3 0 0))], [(3, ⟨.own, true, 37, 3, 0, row, []⟩)]⟩) (And.intro rfl trivial) (And.intro ⟨_, rfl, ⟨rfl, (fun _ => And.intro rfl rfl), rfl, rfl, fun i r hi hr => absurd hi (Nat.not_lt_zero _)⟩⟩ trivial) (by rfl) (by rfl)) ?_
    refine AC.ret ?_
    refine And.intro (by first | exact .inr rfl | exact .inl rfl) (And.intro (by repeat (first | exact trivial | exact Nat.le_of_ble_eq_true rfl | rfl | exact ⟨_, rfl, rfl, Nat.le_refl _, rfl⟩ | refine And.intro ?_ ?_)) (And.intro (by rfl) (And.intro (by rfl) (And.intro (by repeat (first | exact trivial | exact Nat.le_of_ble_eq_true rfl | rfl | exact ⟨_, rfl, rfl, Nat.le_refl _, rfl⟩ | refine And.intro ?_ ?_)) (And.intro (by repeat (first | exact trivial | exact Nat.le_of_ble_eq_true rfl | rfl | exact ⟨_, rfl, rfl, Nat.le_refl _, rfl⟩ | refine And.intro ?_ ?_)) ?_)))))
    exact And.intro rfl rfl
  · repeat (first | (first | (first | refine AL.nil ?_ | refine AL.move (.inl (by rfl)) (by rfl) (by rfl) ?_ | refine AL.move (.inr (by rfl)) (by rfl) (by rfl) ?_ | refine AL.fieldAddr tyOk (by rfl) (by rfl) (by rfl) (by rfl) (by rfl) (by rfl) ?_ | refine AL.load1 tyOk (by rfl) (by rfl) (by rfl) (by rfl) (by rfl) (by rfl) (by rfl) (by first | exact Nat.le_of_ble_eq_true rfl | (dsimp only; omega) | omega | assumption | (simp only [openR]; omega) | exact Nat.lt_of_lt_of_le (m := 3) (by omega) (Nat.le_of_ble_eq_true rfl)) (by first | exact Nat.le_of_ble_eq_true rfl | (dsimp only; omega) | omega | assumption | (simp only [openR]; omega) | exact Nat.lt_of_lt_of_le (m := 3) (by omega) (Nat.le_of_ble_eq_true rfl)) (by rfl) ?_ | refine AL.loadAggE tyOk (by rfl) (by rfl) (by rfl) (by rfl) (by rfl) (by rfl) (by rfl) (by first | exact Nat.le_of_ble_eq_true rfl | (dsimp only; omega) | omega | assumption | (simp only [openR]; omega) | exact Nat.lt_of_lt_of_le (m := 3) (by omega) (Nat.le_of_ble_eq_true rfl)) (by first | exact Nat.le_of_ble_eq_true rfl | (dsimp only; omega) | omega | assumption | (simp only [openR]; omega) | exact Nat.lt_of_lt_of_le (m := 3) (by omega) (Nat.le_of_ble_eq_true rfl)) (by rfl) ?_ | refine AL.stor tyOk (by rfl) (by rfl) (by rfl) (by rfl) (by rfl) (by rfl) (by rfl) (by rfl) (by rfl) (by first | exact Nat.le_of_ble_eq_true rfl | (dsimp only; omega) | omega | assumption | (simp only [openR]; omega) | exact Nat.lt_of_lt_of_le (m := 3) (by omega) (Nat.le_of_ble_eq_true rfl)) (by first | exact Nat.le_of_ble_eq_true rfl | (dsimp only; omega) | omega | assumption | (simp only [openR]; omega) | exact Nat.lt_of_lt_of_le (m := 3) (by omega) (Nat.le_of_ble_eq_true rfl)) ?_ | refine AL.len (ty := 0) tyOk (by rfl) (by rfl) (by rfl) (by rfl) (by rfl) ?_ | refine AL.add (by rfl) (by rfl) (by rfl) (by rfl) (by rfl) (by constructor <;> omega) ?_ | refine AL.sub (by rfl) (by rfl) (by rfl) (by rfl) (by rfl) (by constructor <;> omega) ?_ | refine AL.mul (by rfl) (by rfl) (by rfl) (by rfl) (by rfl) (by constructor <;> omega) ?_ | refine AL.int2 (by rfl) (by rfl) (by rfl) (by rfl) (by rfl) (by rfl) (by first | trivial | decide | omega) ?_ | refine AL.bEq (by rfl) (by rfl) (by rfl) (by rfl) (by rfl) Try.underlying4 ?_ | refine AL.bNe (by rfl) (by rfl) (by rfl) (by rfl) (by rfl) Try.underlying4 ?_ | refine AL.not (by rfl) (by rfl) (by rfl) (by rfl) ?_ | refine AL.gOnE (by rfl) (by rfl) (by rfl) (by rfl) (by decide) (by first | rfl | assumption) ?_ | refine AL.gOffE (by rfl) (by rfl) (by rfl) (by rfl) (by rfl) (by decide) (by first | rfl | assumption) ?_ | refine AL.pickE (b' := true) (by rfl) (by rfl) (by rfl) (by rfl) (by first | rfl | assumption) ?_ | refine AL.pickE (b' := false) (by rfl) (by rfl) (by rfl) (by rfl) (by first | rfl | assumption) ?_ | refine AL.extract (by rfl) (by rfl) (by rfl) (by rfl) (by rfl) ?_ | refine AL.boxD tyOk (by rfl) (by rfl) (by rfl) (Nat.le_of_ble_eq_true rfl) (by rfl) (by rfl) (by rfl) (by decide) (by rfl) ?_ | refine AL.allocD tyOk (by rfl) (by rfl) (by rfl) (Nat.le_of_ble_eq_true rfl) (by rfl) (by rfl) (by decide) (by rfl) ?_ | refine AL.indexN tyOk (by rfl) (by rfl) (by rfl) (by rfl) (by rfl) (by rfl) (by rfl) (by rfl) (by first | rfl | exact (Int.toNat_of_nonneg (by omega)).symm) (by omega) ?_ | refine AL.indexSl tyOk (by rfl) (by rfl) (by rfl) (by rfl) (by rfl) (by rfl) (by rfl) (by rfl) (by constructor <;> omega) ?_ | refine AL.indexArr tyOk (by rfl) (by rfl) (by rfl) (by rfl) (by rfl) (by rfl) (by constructor <;> omega) ?_ | refine AL.makeD tyOk _ (by rfl) (by rfl) (by rfl) (Nat.le_of_ble_eq_true rfl) (by rfl) (by rfl) (by rfl) (by rfl) (by rfl) (by rfl) (by rfl) (by omega) (by omega) (by decide) (by rfl) ?_ | refine AL.build (qs := []) tyOk (by rfl) (by rfl) (by rfl) (by rfl) (by rfl) (by exact PartsOk.nil) (by rfl) ?_ | refine AL.build (qs := [(_, _)]) tyOk (by rfl) (by rfl) (by rfl) (by rfl) (by rfl) (by exact PartsOk.cons (by rfl) (by rfl) PartsOk.nil) (by rfl) ?_ | refine AL.build (qs := [(_, _), (_, _)]) tyOk (by rfl) (by rfl) (by rfl) (by rfl) (by rfl) (by exact PartsOk.cons (by rfl) (by rfl) (PartsOk.cons (by rfl) (by rfl) PartsOk.nil)) (by rfl) ?_ | refine AL.nilCheck (by rfl) (by rfl) (by rfl) (by rfl) ?_) | refine AL.buildSl0D tyOk (by rfl) (by rfl) (by rfl) (by rfl) (Nat.le_of_ble_eq_true rfl) (by rfl) (by decide) (by rfl) ?_ | refine AL.copyN tyOk (by rfl) (by rfl) (by rfl) (by rfl) (by rfl) (by rfl) (by rfl) (by rfl) (by rfl) (by rfl) (by rfl) (by rfl) (by rfl) ?_ | refine AL.append0 tyOk (by rfl) (by rfl) (by rfl) (by rfl) (by rfl) (by rfl) (by rfl) (by rfl) (by rfl) (by rfl) (by rfl) (by rfl) (by rfl) (by rfl) (by rfl) (okK_lt (by decide)) (by first | omega | (dsimp only; omega) | (unfold maxLen; dsimp only; omega)) (by first | omega | (dsimp only; omega) | (unfold maxLen; dsimp only; omega)) ?_ | refine AL.appendL tyOk (by rfl) (by rfl) (by rfl) (by rfl) (by rfl) (by rfl) (by rfl) (by rfl) (by rfl) (by rfl) (by rfl) (by rfl) (by rfl) (by rfl) (by rfl) (fun _ _ _ _ => rfl) (okK_lt (by decide)) (by first | omega | (dsimp only; omega) | (unfold maxLen; dsimp only; omega)) (by first | omega | (dsimp only; omega) | (unfold maxLen; dsimp only; omega)) ?_) | (first | refine AC.region ?_ | refine AC.seq ?_ | refine AC.block ?_ | refine AC.exit ?_ | refine AC.skip ?_))
    refine AC.le (St.le.sub (σ' := ⟨[(2, .a (.ref 5 0 n))], [(5, ⟨.own, true, 37, 3, n, row, []⟩)]⟩) (And.intro rfl trivial) (And.intro ⟨_, rfl, ⟨rfl, (fun _ => And.intro rfl rfl), rfl, rfl, fun i r hi hr => (by obtain ⟨v, hv⟩ := hfl i r hr; show Cl.cl (row i r) = Cl.cl (flat (row (0 + i) r)); rw [Nat.zero_add, hv]; rfl)⟩⟩ trivial) (by rfl) (by rfl)) ?_
    refine AC.ret ?_
    refine And.intro (by first | exact .inr rfl | exact .inl rfl) (And.intro (by repeat (first | exact trivial | exact Nat.le_of_ble_eq_true rfl | rfl | exact ⟨_, rfl, rfl, Nat.le_refl _, rfl⟩ | refine And.intro ?_ ?_)) (And.intro (by rfl) (And.intro (by rfl) (And.intro (by repeat (first | exact trivial | exact Nat.le_of_ble_eq_true rfl | rfl | exact ⟨_, rfl, rfl, Nat.le_refl _, rfl⟩ | refine And.intro ?_ ?_)) (And.intro (by repeat (first | exact trivial | exact Nat.le_of_ble_eq_true rfl | rfl | exact ⟨_, rfl, rfl, Nat.le_refl _, rfl⟩ | refine And.intro ?_ ?_)) ?_)))))
    exact And.intro rfl rfl
theorem encWrite_flat (x : WriteT) (r : Nat) : ∃ v, encWrite x r = .lit v := by rcases r with _ | _ | _; all_goals exact ⟨_, rfl⟩
theorem CloneWrite_run (e : Nat) (xs : List WriteT) (hn : xs.length ≤ 1048576) : RunT Try.prog 93 [.one (.c (tWrite e xs))] [] [.one (tWrite 37 xs)] [] := by
  refine ⟨⟨_, Try.func93, rfl, rfl⟩, fun w q A args he => ?_⟩
  refine (CloneWrite_base e xs.length (fun i r => (encWrite (xs.getD i zWrite) r).er .fro) hn (fun i r _ => by obtain ⟨v, hv⟩ := encWrite_flat (xs.getD i zWrite) r; exact ⟨v, by rw [hv]; rfl⟩) w q A args he).mono fun e w' hx => ?_
  obtain ⟨us, outs, ext, q', h1, ⟨rfl, rfl⟩, h2⟩ := hx
  have hr : (fun i r => (encWrite (xs.getD i zWrite) r).er .fro) = fun i r => (encWrite (xs.getD i zWrite) r).er .own := by
    funext i r; obtain ⟨v, hv⟩ := encWrite_flat (xs.getD i zWrite) r; rw [hv]; rfl
  rw [hr] at h2
  exact ⟨us, _, _, q', h1, ⟨rfl, rfl⟩, h2⟩
end Go.Proofs.Ythfcpaplnifhiaa
end

section
/- WritePut in spec. -/
namespace Go.Proofs.Ythfcpaplnifhiaa
open Go Go.Tr
set_option maxRecDepth 100000
set_option maxHeartbeats 4000000
set_option linter.unusedVariables false
set_option linter.unusedSimpArgs false
def wdel (xs : List WriteT) (w : WriteT) : List WriteT := xs.filter fun x => !decide (x.1 = w.1)
theorem wdel_succ (xs : List WriteT) (w : WriteT) {i : Nat} (h : i < xs.length) : wdel (xs.take (i + 1)) w = if (xs.getD i zWrite).1 = w.1 then wdel (xs.take i) w else wdel (xs.take i) w ++ [xs.getD i zWrite] := by
  have := kpWrite_succ (fun x => decide (x.1 = w.1)) xs h
  unfold kpWrite at this
  unfold wdel
  rw [this]
  by_cases hp : (xs.getD i zWrite).1 = w.1
  · rw [if_pos hp, if_pos (by simpa using hp)]
  · rw [if_neg hp, if_neg (by simpa using hp)]
theorem wdel_le (xs : List WriteT) (w : WriteT) : (wdel xs w).length ≤ xs.length := List.length_filter_le _ _
abbrev gtW (w : WriteT) (y : WriteT) : Bool := decide (w.1 < y.1)
def wput (xs : List WriteT) (w : WriteT) : List WriteT := insE (gtW w) zWrite w (wdel xs w)
theorem wput_le (xs : List WriteT) (w : WriteT) : (wput xs w).length ≤ xs.length + 1 := by
  unfold wput; rw [insE_len]; have := wdel_le xs w; omega
abbrev wpR (xs : List WriteT) (w : WriteT) (i : Nat) : List WriteT := insP (gtW w) zWrite w (wdel (xs.take i) w)
abbrev wpD (xs : List WriteT) (w : WriteT) (i : Nat) : Bool := (fiP (gtW w) zWrite (wdel (xs.take i) w)).isSome
theorem WritePutS_run (e : Nat) (xs : List WriteT) (w : WriteT) (hn : xs.length ≤ 4000000) : RunT Try.prog 23 [.one (.c (tWrite e xs)), aWrite w] [] [.one (tWrite 37 (wput xs w))] [] := by
  have hfin : wput xs w = if wpD xs w xs.length then wpR xs w xs.length else wdel xs w ++ [w] := by
    unfold wput; rw [insE_eq]; unfold wpD wpR; rw [List.take_of_length_le (Nat.le_refl _)]
  have hnil : wdel (xs.take 0) w = [] := rfl
  refine RunT.of_vc gOk Try.func23 rfl rfl (Nat.le_of_ble_eq_true rfl) (by repeat' (first | exact trivial | exact ⟨_, rfl, Nat.le_refl _⟩ | exact Nat.le_of_ble_eq_true rfl | refine And.intro ?_ ?_)) (Nat.le_of_ble_eq_true rfl) rfl (fun F hE => ?_)
  repeat' (first | exact trivial | refine BS.d (fun h => ?_) (fun h => ?_) | refine BS.e (fun h => ?_) (fun h => ?_) | refine BS.ne (fun h => ?_) (fun h => ?_) | refine BS.n ?_ | refine BS.s (fun h => ?_) (fun h => ?_) | refine And.intro ?_ ?_ | (refine Need.mk ?_; first | with_reducible rfl | (show @Eq TC _ _; rfl) | omega | (simp only [adN_zero]; omega)) | exact OutS.whole rfl rfl | refine ListO.go gOk hE ?_)
  refine CodeK.loop gOk hE (fun i : Nat => ⟨[(0, vr 1000000 xs.length), (3, .ptr 3 0 0), (5, vr 8 (wpR xs w i).length), (6, .a (.lit (.bool (wpD xs w i)))), (7, vi i)], [(8, rWrite .own true 37 (wpR xs w i)), (1000000, rWrite .fro false e xs), (3, .box 37 [.cl (.lit (.int .i64 w.1)), .cl (.lit (.bool w.2.1)), .cl (.lit (.int .i64 w.2.2))])]⟩) (fun i => i ≤ xs.length) (fun i => xs.length - i) 0 (by refine leT.of ?_ ?_ rfl <;> repeat' (first | exact trivial | refine And.intro rfl ?_ | refine And.intro (by first | rfl | (simp [wpR, wpD, hnil, insP, fiP] <;> rfl)) ?_)) (Nat.zero_le _) ?_
  rintro i hi
  have hle := wdel_le (xs.take i) w
  rw [List.length_take] at hle
  have hle2 : (wpR xs w i).length ≤ i + 1 := by
    have := insP_le (gtW w) zWrite w (wdel (xs.take i) w)
    unfold wpR; omega
  by_cases hi2 : i < xs.length
  · have hsu := wdel_succ xs w hi2
    by_cases hp : (xs.getD i zWrite).1 = w.1
    · rw [if_pos hp] at hsu
      have hR : wpR xs w (i + 1) = wpR xs w i := by unfold wpR; rw [hsu]
      have hD : wpD xs w (i + 1) = wpD xs w i := by unfold wpD; rw [hsu]
      generalize wpD xs w i = dd at *
      generalize wpR xs w i = rr at *
      repeat' (first | exact trivial | refine BS.d (fun h => ?_) (fun h => ?_) | refine BS.e (fun h => ?_) (fun h => ?_) | refine BS.ne (fun h => ?_) (fun h => ?_) | refine BS.n ?_ | refine BS.s (fun h => ?_) (fun h => ?_) | refine And.intro ?_ ?_ | (refine Need.mk ?_; first | with_reducible rfl | (show @Eq TC _ _; rfl) | omega | (simp only [adN_zero]; omega)) | exact OutS.whole rfl rfl | (refine CodeK.draw gOk hE rfl (fun _ _ h => h) (.take 0 (.take 1 (.take 2 (.take 3 (.take 5 (.alt 4 (.alt 6 (.take 7 .done) .stop) (.alt 6 (.alt 4 (.take 7 .done) .stop) .stop))))))) ?_ ?_; focus (decide +kernel)) | (refine CodeK.draw gOk hE rfl (fun _ _ h => h) (.take 0 (.take 1 (.take 2 (.take 3 (.take 4 (.take 5 (.take 6 (.take 8 (.alt 7 (.alt 9 (.take 10 (.take 11 .done)) .stop) (.alt 9 (.alt 7 (.take 10 (.take 11 .done)) .stop) .stop)))))))))) ?_ ?_; focus (decide +kernel)) | refine ListO.go gOk hE ?_)
      all_goals (try simp only [adN_zero] at *)
      all_goals first
        | (exfalso; first | omega | (simp_all; done))
        | (refine Need.mk ?_; omega)
        | (refine ⟨i + 1, (by refine leT.of ?_ ?_ rfl <;> repeat' (first | exact trivial | refine And.intro rfl ?_ | refine And.intro (by first | rfl | (rw [hR]; rfl) | (rw [hD]; rfl) | (simp [hR, hD] <;> rfl)) ?_)), by omega, by first | omega | (dsimp only; omega)⟩)
        | trace_state
    · rw [if_neg hp] at hsu
      have hR : wpR xs w (i + 1) = if wpD xs w i then wpR xs w i ++ [xs.getD i zWrite] else if gtW w (xs.getD i zWrite) then wpR xs w i ++ [w] ++ [xs.getD i zWrite] else wpR xs w i ++ [xs.getD i zWrite] := by
        show insP (gtW w) zWrite w (wdel (xs.take (i + 1)) w) = _
        rw [hsu, insP_app]
        show _ = if (fiP (gtW w) zWrite (wdel (xs.take i) w)).isSome then insP (gtW w) zWrite w (wdel (xs.take i) w) ++ [xs.getD i zWrite] else if gtW w (xs.getD i zWrite) then insP (gtW w) zWrite w (wdel (xs.take i) w) ++ [w] ++ [xs.getD i zWrite] else insP (gtW w) zWrite w (wdel (xs.take i) w) ++ [xs.getD i zWrite]
        cases hd : (fiP (gtW w) zWrite (wdel (xs.take i) w)).isSome with
        | true => rfl
        | false =>
          have : insP (gtW w) zWrite w (wdel (xs.take i) w) = wdel (xs.take i) w := by
            unfold insP; cases hq : fiP (gtW w) zWrite (wdel (xs.take i) w) with
            | none => rfl
            | some j => rw [hq] at hd; cases hd
          rw [this]
      have hD : wpD xs w (i + 1) = (wpD xs w i || gtW w (xs.getD i zWrite)) := by unfold wpD; rw [hsu, fiP_app_some]
      generalize wpD xs w i = dd at *
      generalize wpR xs w i = rr at *
      cases dd with
      | true =>
        simp only [Bool.true_or, if_true] at hR hD
        repeat' (first | exact trivial | refine BS.d (fun h => ?_) (fun h => ?_) | refine BS.e (fun h => ?_) (fun h => ?_) | refine BS.ne (fun h => ?_) (fun h => ?_) | refine BS.n ?_ | refine BS.s (fun h => ?_) (fun h => ?_) | refine And.intro ?_ ?_ | (refine Need.mk ?_; first | with_reducible rfl | (show @Eq TC _ _; rfl) | omega | (simp only [adN_zero]; omega)) | exact OutS.whole rfl rfl | (refine CodeK.draw gOk hE rfl (fun _ _ h => h) (.take 0 (.take 1 (.take 2 (.take 3 (.take 5 (.alt 4 (.alt 6 (.take 7 .done) .stop) (.alt 6 (.alt 4 (.take 7 .done) .stop) .stop))))))) ?_ ?_; focus (decide +kernel)) | (refine CodeK.draw gOk hE rfl (fun _ _ h => h) (.take 0 (.take 1 (.take 2 (.take 3 (.take 4 (.take 5 (.take 6 (.take 8 (.alt 7 (.alt 9 (.take 10 (.take 11 .done)) .stop) (.alt 9 (.alt 7 (.take 10 (.take 11 .done)) .stop) .stop)))))))))) ?_ ?_; focus (decide +kernel)) | refine ListO.go gOk hE ?_)
        all_goals (try simp only [adN_zero] at *)
        all_goals first
          | (exfalso; first | omega | (simp_all; done))
          | (refine Need.mk ?_; first | omega | (refine ⟨?_, ?_⟩ <;> (try unfold maxLen) <;> omega))
          | (refine ⟨i + 1, (by refine leT.of ?_ ?_ rfl <;> repeat' (first | exact trivial | refine And.intro rfl ?_ | refine And.intro (by first | rfl | (rw [hR]; rfl) | (rw [hD]; rfl) | (simp [hR, hD] <;> rfl)) ?_)), by omega, by first | omega | (dsimp only; omega)⟩)
          | trace_state
      | false =>
        simp only [Bool.false_or, Bool.false_eq_true, if_false] at hR hD
        by_cases hg : w.1 < (xs.getD i zWrite).1
        · have hg2 : gtW w (xs.getD i zWrite) = true := decide_eq_true hg
          rw [hg2] at hR hD
          simp only [if_true] at hR
          repeat' (first | exact trivial | refine BS.d (fun h => ?_) (fun h => ?_) | refine BS.e (fun h => ?_) (fun h => ?_) | refine BS.ne (fun h => ?_) (fun h => ?_) | refine BS.n ?_ | refine BS.s (fun h => ?_) (fun h => ?_) | refine And.intro ?_ ?_ | (refine Need.mk ?_; first | with_reducible rfl | (show @Eq TC _ _; rfl) | omega | (simp only [adN_zero]; omega)) | exact OutS.whole rfl rfl | (refine CodeK.draw gOk hE rfl (fun _ _ h => h) (.take 0 (.take 1 (.take 2 (.take 3 (.take 5 (.alt 4 (.alt 6 (.take 7 .done) .stop) (.alt 6 (.alt 4 (.take 7 .done) .stop) .stop))))))) ?_ ?_; focus (decide +kernel)) | (refine CodeK.draw gOk hE rfl (fun _ _ h => h) (.take 0 (.take 1 (.take 2 (.take 3 (.take 4 (.take 5 (.take 6 (.take 8 (.alt 7 (.alt 9 (.take 10 (.take 11 .done)) .stop) (.alt 9 (.alt 7 (.take 10 (.take 11 .done)) .stop) .stop)))))))))) ?_ ?_; focus (decide +kernel)) | refine ListO.go gOk hE ?_)
          all_goals (try simp only [adN_zero] at *)
          all_goals first
            | (exfalso; first | omega | (simp_all; done))
            | (refine Need.mk ?_; first | omega | (simp only [List.length_append, List.length_singleton]; omega) | (refine ⟨?_, ?_⟩ <;> (try unfold maxLen) <;> (try simp only [List.length_append, List.length_singleton]) <;> omega))
            | (refine ⟨i + 1, (by refine leT.of ?_ ?_ rfl <;> repeat' (first | exact trivial | refine And.intro rfl ?_ | refine And.intro (by first | rfl | (rw [hR]; rfl) | (rw [hD]; rfl) | (simp [hR, hD] <;> rfl)) ?_)), by omega, by first | omega | (dsimp only; omega)⟩)
            | trace_state
        · have hg2 : gtW w (xs.getD i zWrite) = false := decide_eq_false hg
          rw [hg2] at hR hD
          simp only [Bool.false_eq_true, if_false] at hR
          repeat' (first | exact trivial | refine BS.d (fun h => ?_) (fun h => ?_) | refine BS.e (fun h => ?_) (fun h => ?_) | refine BS.ne (fun h => ?_) (fun h => ?_) | refine BS.n ?_ | refine BS.s (fun h => ?_) (fun h => ?_) | refine And.intro ?_ ?_ | (refine Need.mk ?_; first | with_reducible rfl | (show @Eq TC _ _; rfl) | omega | (simp only [adN_zero]; omega)) | exact OutS.whole rfl rfl | (refine CodeK.draw gOk hE rfl (fun _ _ h => h) (.take 0 (.take 1 (.take 2 (.take 3 (.take 5 (.alt 4 (.alt 6 (.take 7 .done) .stop) (.alt 6 (.alt 4 (.take 7 .done) .stop) .stop))))))) ?_ ?_; focus (decide +kernel)) | (refine CodeK.draw gOk hE rfl (fun _ _ h => h) (.take 0 (.take 1 (.take 2 (.take 3 (.take 4 (.take 5 (.take 6 (.take 8 (.alt 7 (.alt 9 (.take 10 (.take 11 .done)) .stop) (.alt 9 (.alt 7 (.take 10 (.take 11 .done)) .stop) .stop)))))))))) ?_ ?_; focus (decide +kernel)) | refine ListO.go gOk hE ?_)
          all_goals (try simp only [adN_zero] at *)
          all_goals first
            | (exfalso; first | omega | (simp_all; done))
            | (refine Need.mk ?_; first | omega | (refine ⟨?_, ?_⟩ <;> (try unfold maxLen) <;> omega))
            | (refine ⟨i + 1, (by refine leT.of ?_ ?_ rfl <;> repeat' (first | exact trivial | refine And.intro rfl ?_ | refine And.intro (by first | rfl | (rw [hR]; rfl) | (rw [hD]; rfl) | (simp [hR, hD] <;> rfl)) ?_)), by omega, by first | omega | (dsimp only; omega)⟩)
            | trace_state
  · obtain rfl : i = xs.length := by omega
    have hRn : wpD xs w xs.length = false → wpR xs w xs.length = wdel xs w := by
      unfold wpD wpR insP
      rw [List.take_of_length_le (Nat.le_refl _)]
      intro h
      cases hq : fiP (gtW w) zWrite (wdel xs w) with
      | none => rfl
      | some j => rw [hq] at h; cases h
    generalize wpD xs w xs.length = dd at *
    generalize wpR xs w xs.length = rr at *
    cases dd with
    | true =>
      simp only [if_true] at hfin
      repeat' (first | exact trivial | refine BS.d (fun h => ?_) (fun h => ?_) | refine BS.e (fun h => ?_) (fun h => ?_) | refine BS.ne (fun h => ?_) (fun h => ?_) | refine BS.n ?_ | refine BS.s (fun h => ?_) (fun h => ?_) | refine And.intro ?_ ?_ | (refine Need.mk ?_; first | with_reducible rfl | (show @Eq TC _ _; rfl) | omega | (simp only [adN_zero]; omega)) | exact OutS.whole rfl rfl | (refine CodeK.draw gOk hE rfl (fun _ _ h => h) (.take 0 (.take 1 (.take 2 (.take 3 (.take 5 (.alt 4 (.alt 6 (.take 7 .done) .stop) (.alt 6 (.alt 4 (.take 7 .done) .stop) .stop))))))) ?_ ?_; focus (decide +kernel)) | (refine CodeK.draw gOk hE rfl (fun _ _ h => h) (.take 0 (.take 1 (.take 2 (.take 3 (.take 4 (.take 5 (.take 6 (.take 8 (.alt 7 (.alt 9 (.take 10 (.take 11 .done)) .stop) (.alt 9 (.alt 7 (.take 10 (.take 11 .done)) .stop) .stop)))))))))) ?_ ?_; focus (decide +kernel)) | refine ListO.go gOk hE ?_)
      all_goals first
        | (exfalso; omega)
        | exact OutS.whole rfl (by rw [hfin]; rfl)
        | trace_state
    | false =>
      simp only [Bool.false_eq_true, if_false] at hfin
      rw [← hRn rfl] at hfin
      repeat' (first | exact trivial | refine BS.d (fun h => ?_) (fun h => ?_) | refine BS.e (fun h => ?_) (fun h => ?_) | refine BS.ne (fun h => ?_) (fun h => ?_) | refine BS.n ?_ | refine BS.s (fun h => ?_) (fun h => ?_) | refine And.intro ?_ ?_ | (refine Need.mk ?_; first | with_reducible rfl | (show @Eq TC _ _; rfl) | omega | (simp only [adN_zero]; omega)) | exact OutS.whole rfl rfl | (refine CodeK.draw gOk hE rfl (fun _ _ h => h) (.take 0 (.take 1 (.take 2 (.take 3 (.take 5 (.alt 4 (.alt 6 (.take 7 .done) .stop) (.alt 6 (.alt 4 (.take 7 .done) .stop) .stop))))))) ?_ ?_; focus (decide +kernel)) | (refine CodeK.draw gOk hE rfl (fun _ _ h => h) (.take 0 (.take 1 (.take 2 (.take 3 (.take 4 (.take 5 (.take 6 (.take 8 (.alt 7 (.alt 9 (.take 10 (.take 11 .done)) .stop) (.alt 9 (.alt 7 (.take 10 (.take 11 .done)) .stop) .stop)))))))))) ?_ ?_; focus (decide +kernel)) | refine ListO.go gOk hE ?_)
      all_goals first
        | (exfalso; omega)
        | (refine Need.mk ?_; first | omega | (refine ⟨?_, ?_⟩ <;> (try unfold maxLen) <;> omega))
        | exact OutS.whole (by simp) (by rw [hfin]; rfl)
        | trace_state
end Go.Proofs.Ythfcpaplnifhiaa
end

section
/- WritePut of impl. -/
namespace Go.Proofs.Ythfcpaplnifhiaa
open Go Go.Tr
set_option maxRecDepth 100000
set_option maxHeartbeats 4000000
set_option linter.unusedVariables false
set_option linter.unusedSimpArgs false
theorem WritePut1_run (x w : WriteT) (g1 j1 : Nat) : RunH Try.prog (hcL (tol g1 j1 [.int .i64 w.1, .bool w.2.1, .int .i64 w.2.2])) 94 [aWrite x, .one (.c (.lit (.pointer (some ⟨g1, j1, none⟩))))] [] [ob (decide (x.1 = w.1))] [] := by
  refine RunH.of_vc gOk Try.func94 rfl rfl (Nat.le_of_ble_eq_true rfl) (by repeat' (first | exact trivial | exact ⟨_, rfl, Nat.le_refl _⟩ | exact Nat.le_of_ble_eq_true rfl | refine And.intro ?_ ?_)) (Nat.le_of_ble_eq_true rfl) rfl (fun F hE hA => ?_)
  repeat' (first | exact trivial | refine BS.d (fun h => ?_) (fun h => ?_) | refine BS.e (fun h => ?_) (fun h => ?_) | refine BS.ne (fun h => ?_) (fun h => ?_) | refine BS.n ?_ | refine BS.s (fun h => ?_) (fun h => ?_) | refine And.intro ?_ ?_ | (refine Need.mk ?_; first | with_reducible rfl | (show @Eq TC _ _; rfl) | omega | (simp only [adN_zero]; omega)) | exact OutS.whole rfl rfl | (first | refine OpK.ldI gOk 0 hA rfl rfl rfl rfl rfl rfl rfl ?_ | refine OpK.ldI gOk 1 hA rfl rfl rfl rfl rfl rfl rfl ?_ | refine OpK.ldI gOk 2 hA rfl rfl rfl rfl rfl rfl rfl ?_) | (refine PK.fieldH gOk rfl rfl rfl rfl ?_) | refine ListO.go gOk hE ?_)
  all_goals (refine Need.mk ?_; simp [Bool.beq_eq_decide_eq])
theorem WritePut2_run (x w : WriteT) (g1 j1 : Nat) : RunH Try.prog (hcL (tol g1 j1 [.int .i64 w.1, .bool w.2.1, .int .i64 w.2.2])) 96 [aWrite x, .one (.c (.lit (.pointer (some ⟨g1, j1, none⟩))))] [] [ob (gtW w x)] [] := by
  refine RunH.of_vc gOk Try.func96 rfl rfl (Nat.le_of_ble_eq_true rfl) (by repeat' (first | exact trivial | exact ⟨_, rfl, Nat.le_refl _⟩ | exact Nat.le_of_ble_eq_true rfl | refine And.intro ?_ ?_)) (Nat.le_of_ble_eq_true rfl) rfl (fun F hE hA => ?_)
  repeat' (first | exact trivial | refine BS.d (fun h => ?_) (fun h => ?_) | refine BS.e (fun h => ?_) (fun h => ?_) | refine BS.ne (fun h => ?_) (fun h => ?_) | refine BS.n ?_ | refine BS.s (fun h => ?_) (fun h => ?_) | refine And.intro ?_ ?_ | (refine Need.mk ?_; first | with_reducible rfl | (show @Eq TC _ _; rfl) | omega | (simp only [adN_zero]; omega)) | exact OutS.whole rfl rfl | (first | refine OpK.ldI gOk 0 hA rfl rfl rfl rfl rfl rfl rfl ?_ | refine OpK.ldI gOk 1 hA rfl rfl rfl rfl rfl rfl rfl ?_ | refine OpK.ldI gOk 2 hA rfl rfl rfl rfl rfl rfl rfl ?_) | (refine PK.fieldH gOk rfl rfl rfl rfl ?_) | refine ListO.go gOk hE ?_)
  all_goals (refine Need.mk ?_; simp [gtW])
theorem WritePutI_run (e : Nat) (xs : List WriteT) (w : WriteT) (hn : xs.length ≤ 1048576) : RunT Try.prog 26 [.one (.c (tWrite e xs)), aWrite w] [] [.one (tWrite 37 (wput xs w))] [] := by
  have c0 := CloneWrite_run e xs hn
  have hml := wdel_le xs w
  have hsc : ∀ g1 j1 : Nat, ∀ v ∈ (#[.pointer (some ⟨g1, j1, none⟩)] : Array Value), scal v = true := fun g1 j1 v hv => by simp at hv; subst hv; rfl
  have c1 : ∀ g1 j1, RunH Try.prog (hcU (hcL (tol g1 j1 [.int .i64 w.1, .bool w.2.1, .int .i64 w.2.2])) hc0) 92 [.one (.m (tWrite 37 xs)), .one (.c (.lit (.func (.func 94) #[] #[.pointer (some ⟨g1, j1, none⟩)])))] [] [.one (tWrite 37 (wdel xs w))] [] := fun g1 j1 =>
    (DelWrite_run (caps := #[.pointer (some ⟨g1, j1, none⟩)]) (fun x => decide (x.1 = w.1)) _ xs (by omega) (hsc g1 j1) (fun x => WritePut1_run x w g1 j1)).mono (fun g j v hm => .inl hm)
  have c2 : ∀ g1 j1, RunH Try.prog (hcU (hcL (tol g1 j1 [.int .i64 w.1, .bool w.2.1, .int .i64 w.2.2])) hc0) 95 [.one (.m (tWrite 37 (wdel xs w))), aWrite w, .one (.c (.lit (.func (.func 96) #[] #[.pointer (some ⟨g1, j1, none⟩)])))] [] [.one (tWrite 37 (wput xs w))] [] := fun g1 j1 =>
    (insBWrite_run (caps := #[.pointer (some ⟨g1, j1, none⟩)]) (gtW w) (wdel xs w) w (by omega) (hsc g1 j1) (fun x => WritePut2_run x w g1 j1)).mono (fun g j v hm => .inl hm)
  generalize wput xs w = ys at *
  generalize wdel xs w = zs at *
  refine RunT.of_ck0 gOk Try.func26 rfl rfl (Nat.le_of_ble_eq_true rfl) (by repeat' (first | exact trivial | exact ⟨_, rfl, Nat.le_refl _⟩ | exact Nat.le_of_ble_eq_true rfl | refine And.intro ?_ ?_)) (fun F hF => ?_)
  have hE0 : F.nE ≤ 1000000 := by omega
  rw [fS_eq]
  refine CodeK.fsd ?_
  refine CodeK.seqv gOk hE0 ?_
  repeat' (first | exact trivial | refine BS.d (fun h => ?_) (fun h => ?_) | refine BS.e (fun h => ?_) (fun h => ?_) | refine BS.ne (fun h => ?_) (fun h => ?_) | refine BS.n ?_ | refine BS.s (fun h => ?_) (fun h => ?_) | refine And.intro ?_ ?_ | (refine Need.mk ?_; first | with_reducible rfl | (show @Eq TC _ _; rfl) | omega | (simp only [adN_zero]; omega)) | exact OutS.whole rfl rfl | refine ListO.go gOk hE ?_)
  refine CodeK.rekey (κ := 3) (κ' := 1000001) (vs := [.int .i64 w.1, .bool w.2.1, .int .i64 w.2.2]) rfl rfl rfl (by decide) (fun ρ h1 h2 => by omega) rfl rfl ?_
  rw [fS_eq]
  refine CodeK.know 1 (by omega) (fun F' hF' => ?_)
  have hE : F'.nE ≤ 1000000 := by omega
  have hρ : 1 < F'.nE := by omega
  have hA : AmbF hc0 F' := fun g j v h => h.elim
  refine CodeK.where (ρ := 1) (vs := [.int .i64 w.1, .bool w.2.1, .int .i64 w.2.2]) hρ rfl (Nat.zero_lt_succ _) (fun g1 o1 hgo => CodeK.fsd ?_)
  repeat' (first | exact trivial | refine BS.d (fun h => ?_) (fun h => ?_) | refine BS.e (fun h => ?_) (fun h => ?_) | refine BS.ne (fun h => ?_) (fun h => ?_) | refine BS.n ?_ | refine BS.s (fun h => ?_) (fun h => ?_) | refine And.intro ?_ ?_ | (refine Need.mk ?_; first | with_reducible rfl | (show @Eq TC _ _; rfl) | omega | (simp only [adN_zero]; omega)) | exact OutS.whole rfl rfl | (refine OpK.call c0 rfl rfl rfl rfl hE ?_ rfl rfl ?_; focus ((repeat' (first | exact PsA.lit _ | exact PsA.ref rfl rfl | constructor)); all_goals (fail "ps"))) | (refine ListK.ofP gOk hE rfl rfl (PK.mkFuncE (ρ := 1) hρ hgo rfl rfl rfl rfl ?_)) | (refine OpK.callK (ρ := 1) (vs := [.int .i64 w.1, .bool w.2.1, .int .i64 w.2.2]) [(2000896, 0, 0)] hρ hgo (c1 g1 o1) hA rfl rfl rfl rfl hE rfl (Nat.zero_lt_succ _) rfl (List.forall_mem_cons.2 ⟨rfl, fun _ h => nomatch h⟩) (QsVs.cons (.one (.m rfl rfl (.whole rfl rfl))) (.cons (.one (.c (.lit _) rfl)) .nil)) rfl rfl ?_) | (refine OpK.callK (ρ := 1) (vs := [.int .i64 w.1, .bool w.2.1, .int .i64 w.2.2]) [(2001152, 0, 0)] hρ hgo (c2 g1 o1) hA rfl rfl rfl rfl hE rfl (Nat.zero_lt_succ _) rfl (List.forall_mem_cons.2 ⟨rfl, fun _ h => nomatch h⟩) (QsVs.cons (.one (.m rfl rfl (.whole rfl rfl))) (.cons (.agg (.cons (.c (.lit _) rfl) (.cons (.c (.lit _) rfl) (.cons (.c (.lit _) rfl) .nil)))) (.cons (.one (.c (.lit _) rfl)) .nil))) rfl rfl ?_) | (refine CodeK.seqL 9999 rfl ?_) | (refine CodeK.seqv gOk hE ?_) | (refine CodeK.vc gOk hE ?_) | (refine ListO.step gOk hE ?_) | (refine ListO.done ?_) | refine ListO.go gOk hE ?_)
  all_goals first | exact OutS.whole rfl rfl | trace_state
end Go.Proofs.Ythfcpaplnifhiaa
end

section
/- Marks of a row of flat elements. -/
namespace Go.Proofs.Ythfcpaplnifhiaa
open Go Go.Tr
set_option maxRecDepth 100000
set_option maxHeartbeats 4000000
set_option linter.unusedVariables false
set_option linter.unusedSimpArgs false
abbrev fWrite (m : Int) (j : Nat) : WriteT := (m + 3 * j, ((m + 3 * j + 1).tmod 3 == 0), m + 3 * j + 2)
abbrev bWrite (κ : Nat) (xs xs' : List WriteT) : Bt := ⟨κ, 0, true, .sl 37 3 WriteT encWrite decWrite zWrite xs, .sl 37 3 WriteT encWrite decWrite zWrite xs', .ty .own true 37 3 WriteT encWrite decWrite zWrite xs'⟩
theorem markWriteG_run (xs : List WriteT) (m : Int) (h0 : 0 ≤ m) (h1 : m ≤ 33554432) (hn : xs.length ≤ 4000000) : RunT Try.prog 28 [.one (.h 0 xs.length), ti m] [.sl 37 3 WriteT encWrite decWrite zWrite xs] [oi (m + 3 * xs.length)] [.sl 37 3 WriteT encWrite decWrite zWrite (mkL zWrite (fWrite m) xs xs.length)] := by
  refine RunT.of_vc gOk Try.func28 rfl rfl (Nat.le_of_ble_eq_true rfl) (by repeat' (first | exact trivial | exact ⟨_, rfl, Nat.le_refl _⟩ | exact Nat.le_of_ble_eq_true rfl | refine And.intro ?_ ?_)) (Nat.le_of_ble_eq_true rfl) rfl (fun F hE => ?_)
  repeat' (first | exact trivial | refine BS.d (fun h => ?_) (fun h => ?_) | refine BS.e (fun h => ?_) (fun h => ?_) | refine BS.ne (fun h => ?_) (fun h => ?_) | refine BS.n ?_ | refine BS.s (fun h => ?_) (fun h => ?_) | refine And.intro ?_ ?_ | (refine Need.mk ?_; first | with_reducible rfl | (show @Eq TC _ _; rfl) | omega | (simp only [adN_zero]; omega)) | exact OutS.whole rfl rfl | refine ListO.go gOk hE ?_)
  refine CodeK.loop gOk hE (fun i : Nat => ⟨[(0, vr 1000000 xs.length), (1, vi (m + 3 * i)), (5, vi i)], [(1000000, rWrite .own false 0 (mkL zWrite (fWrite m) xs i))]⟩) (fun i => i ≤ xs.length) (fun i => xs.length - i) 0 (by refine leT.of ?_ ?_ rfl <;> repeat' (first | exact trivial | refine And.intro rfl ?_ | refine And.intro (by simp [mkL_zero] <;> rfl) ?_)) (Nat.zero_le _) ?_
  rintro i hi
  have hl := mkL_len zWrite (fWrite m) xs i
  have hgs : ∀ (ys : List WriteT) (a : WriteT), ys.length = xs.length → i < xs.length → (ys.set i a).getD i zWrite = a := fun ys a h1 h2 => by simp [List.getD, h1, h2]
  repeat' (first | exact trivial | refine BS.d (fun h => ?_) (fun h => ?_) | refine BS.e (fun h => ?_) (fun h => ?_) | refine BS.ne (fun h => ?_) (fun h => ?_) | refine BS.n ?_ | refine BS.s (fun h => ?_) (fun h => ?_) | refine And.intro ?_ ?_ | (refine Need.mk ?_; first | with_reducible rfl | (show @Eq TC _ _; rfl) | omega | (simp only [adN_zero]; omega)) | exact OutS.whole rfl rfl | refine ListO.go gOk hE ?_)
  all_goals (try simp only [adN_zero] at *)
  all_goals first
    | (refine Need.mk ?_; first | omega | (simp only [List.length_set]; omega) | rw [show i = xs.length by omega])
    | (refine ⟨i + 1, (by refine leT.of ?_ ?_ rfl <;> repeat' (first | exact trivial | refine And.intro rfl ?_ | refine And.intro (by first | rfl | (refine litInt ?_; omega) | (refine congrArg (fun l => some (rWrite .own false 0 l)) ?_; simp only [List.set_set, hgs _ _ hl (by omega)]; refine Eq.trans (congrArg (List.set _ i) ?_) (mkL_set _ _ _ _ (by omega)); first | rfl | (refine Prod.ext ?_ ?_ <;> first | rfl | (dsimp only; omega) | (refine Prod.ext ?_ ?_ <;> first | rfl | (dsimp only; omega))))) ?_)), by omega, by first | omega | (dsimp only; omega)⟩)
    | trace_state
theorem heldWriteG_run (e : Nat) (xs : List WriteT) (m : Int) (h0 : 0 ≤ m) (h1 : m ≤ 33554432) (hn : xs.length ≤ 4000000) : RunT Try.prog 29 [.one (.c (tWrite e (mkL zWrite (fWrite m) xs xs.length))), ti m] [] [oi (m + 3 * xs.length)] [] := by
  have hl := mkL_len zWrite (fWrite m) xs xs.length
  refine RunT.of_vc gOk Try.func29 rfl rfl (Nat.le_of_ble_eq_true rfl) (by repeat' (first | exact trivial | exact ⟨_, rfl, Nat.le_refl _⟩ | exact Nat.le_of_ble_eq_true rfl | refine And.intro ?_ ?_)) (Nat.le_of_ble_eq_true rfl) rfl (fun F hE => ?_)
  repeat' (first | exact trivial | refine BS.d (fun h => ?_) (fun h => ?_) | refine BS.e (fun h => ?_) (fun h => ?_) | refine BS.ne (fun h => ?_) (fun h => ?_) | refine BS.n ?_ | refine BS.s (fun h => ?_) (fun h => ?_) | refine And.intro ?_ ?_ | (refine Need.mk ?_; first | with_reducible rfl | (show @Eq TC _ _; rfl) | omega | (simp only [adN_zero]; omega)) | exact OutS.whole rfl rfl | refine ListO.go gOk hE ?_)
  refine CodeK.loop gOk hE (fun i : Nat => ⟨[(0, vr 1000000 (mkL zWrite (fWrite m) xs xs.length).length), (1, vi (m + 3 * i)), (5, vi i)], [(1000000, rWrite .fro false e (mkL zWrite (fWrite m) xs xs.length))]⟩) (fun i => i ≤ xs.length) (fun i => xs.length - i) 0 (by refine leT.of ?_ ?_ rfl <;> repeat' (first | exact trivial | refine And.intro rfl ?_ | refine And.intro (by simp <;> rfl) ?_)) (Nat.zero_le _) ?_
  rintro i hi
  have hg : i < xs.length → (mkL zWrite (fWrite m) xs xs.length).getD i zWrite = fWrite m i := fun h => mkL_get _ _ _ _ _ h h
  repeat' (first | exact trivial | refine BS.d (fun h => ?_) (fun h => ?_) | refine BS.e (fun h => ?_) (fun h => ?_) | refine BS.ne (fun h => ?_) (fun h => ?_) | refine BS.n ?_ | refine BS.s (fun h => ?_) (fun h => ?_) | refine And.intro ?_ ?_ | (refine Need.mk ?_; first | with_reducible rfl | (show @Eq TC _ _; rfl) | omega | (simp only [adN_zero]; omega)) | exact OutS.whole rfl rfl | refine ListO.go gOk hE ?_)
  all_goals (try simp only [adN_zero] at *)
  all_goals first
    | (exfalso; have h9 := hg (by omega); simp only [h9] at *; first | omega | (simp_all; done) | (simp_all; omega))
    | (refine Need.mk ?_; first | omega | rw [show i = xs.length by omega])
    | (refine ⟨i + 1, (by refine leT.of ?_ ?_ rfl <;> repeat' (first | exact trivial | refine And.intro rfl ?_ | refine And.intro (by first | rfl | (refine litInt ?_; omega)) ?_)), by omega, by first | omega | (dsimp only; omega)⟩)
    | trace_state
end Go.Proofs.Ythfcpaplnifhiaa
end

section
/- The law WritePut. -/
namespace Go.Proofs.Ythfcpaplnifhiaa
open Go Go.Tr
set_option maxRecDepth 100000
set_option maxHeartbeats 40000000
set_option linter.unusedVariables false
set_option linter.unusedSimpArgs false
theorem WritePut_law (xs : List WriteT) (y : WriteT) (hnxs : xs.length ≤ 9223372036854775807) : RunT Try.prog 4 [.one (.c (tWrite 0 xs)), aWrite y] [] [ob true] [] := by
  have z0 := szWriteS_run 0 xs (1048576) (by omega) (by omega) hnxs
  by_cases hz0 : szI xs (1048576) < 0
  · generalize szI xs (1048576) = zz0 at *
    refine RunT.of_vc gOk Try.func4 rfl rfl (Nat.le_of_ble_eq_true rfl) (by repeat' (first | exact trivial | exact ⟨_, rfl, Nat.le_refl _⟩ | exact Nat.le_of_ble_eq_true rfl | refine And.intro ?_ ?_)) (Nat.le_of_ble_eq_true rfl) rfl (fun F hE => ?_)
    repeat' (first | exact trivial | refine BS.d (fun h => ?_) (fun h => ?_) | refine BS.e (fun h => ?_) (fun h => ?_) | refine BS.ne (fun h => ?_) (fun h => ?_) | refine BS.n ?_ | refine BS.s (fun h => ?_) (fun h => ?_) | refine And.intro ?_ ?_ | (refine Need.mk ?_; first | with_reducible rfl | (show @Eq TC _ _; rfl) | omega | (simp only [adN_zero]; omega)) | exact OutS.whole rfl rfl | (refine OpK.call z0 rfl rfl rfl rfl hE ?_ rfl rfl ?_; focus ((repeat' (first | exact PsA.lit _ | exact PsA.ref rfl rfl | constructor)); all_goals (fail "ps"))) | refine ListO.go gOk hE ?_)
    all_goals first | exact Need.mk rfl | (exfalso; omega) | trace_state
  have b0 := szI_le (xs := xs) (m := 1048576) (by omega)
  have hm0 : xs.length ≤ 1048576 := by omega
  generalize szI xs (1048576) = zz0 at *
  have t0 := toWriteS_run 0 xs (by omega)
  have d0 := eqWriteS_run 37 xs (by omega)
  have t1 := toWrite_run y
  have e1 := WritePutS_run 37 xs y (by omega)
  have e2 := WritePutI_run 37 xs y hm0
  have hg0 : (wput xs y).length ≤ 2097152 := Nat.le_trans (wput_le xs y) (by omega)
  generalize wput xs y = g0 at *
  have m0 := markWriteG_run xs (1) (by omega) (by omega) (by omega)
  have n0 := markWriteG_run g0 (1) (by omega) (by omega) (by omega)
  have k0 := heldWriteG_run 37 g0 (1) (by omega) (by omega) (by omega)
  have q0 := eqWriteS_run 37 g0 (by omega)
  refine RunT.of_vc gOk Try.func4 rfl rfl (Nat.le_of_ble_eq_true rfl) (by repeat' (first | exact trivial | exact ⟨_, rfl, Nat.le_refl _⟩ | exact Nat.le_of_ble_eq_true rfl | refine And.intro ?_ ?_)) (Nat.le_of_ble_eq_true rfl) rfl (fun F hE => ?_)
  repeat' (first | exact trivial | refine BS.d (fun h => ?_) (fun h => ?_) | refine BS.e (fun h => ?_) (fun h => ?_) | refine BS.ne (fun h => ?_) (fun h => ?_) | refine BS.n ?_ | refine BS.s (fun h => ?_) (fun h => ?_) | refine And.intro ?_ ?_ | (refine Need.mk ?_; first | with_reducible rfl | (show @Eq TC _ _; rfl) | omega | (simp only [adN_zero]; omega)) | exact OutS.whole rfl rfl | (refine OpK.call z0 rfl rfl rfl rfl hE ?_ rfl rfl ?_; focus ((repeat' (first | exact PsA.lit _ | exact PsA.ref rfl rfl | constructor)); all_goals (fail "ps"))) | (refine OpK.call t0 rfl rfl rfl rfl hE ?_ rfl rfl ?_; focus ((repeat' (first | exact PsA.lit _ | exact PsA.ref rfl rfl | constructor)); all_goals (fail "ps"))) | (refine OpK.call d0 rfl rfl rfl rfl hE ?_ rfl rfl ?_; focus ((repeat' (first | exact PsA.lit _ | exact PsA.ref rfl rfl | constructor)); all_goals (fail "ps"))) | (refine OpK.call t1 rfl rfl rfl rfl hE ?_ rfl rfl ?_; focus ((repeat' (first | exact PsA.lit _ | exact PsA.ref rfl rfl | constructor)); all_goals (fail "ps"))) | (refine OpK.call e1 rfl rfl rfl rfl hE ?_ rfl rfl ?_; focus ((repeat' (first | exact PsA.lit _ | exact PsA.ref rfl rfl | constructor)); all_goals (fail "ps"))) | (refine OpK.call e2 rfl rfl rfl rfl hE ?_ rfl rfl ?_; focus ((repeat' (first | exact PsA.lit _ | exact PsA.ref rfl rfl | constructor)); all_goals (fail "ps"))) | (refine OpK.callB (bWrite 2003072 xs (mkL zWrite (fWrite (1)) xs xs.length)) m0 rfl rfl rfl rfl hE (BtOk.sl rfl (mkL_len _ _ _ _)) rfl (QsVs.cons (.one (.h rfl rfl rfl)) (.cons (.one (.c (.lit _) rfl)) .nil)) rfl rfl ?_) | (refine OpK.call q0 rfl rfl rfl rfl hE ?_ rfl rfl ?_; focus ((repeat' (first | exact PsA.lit _ | exact PsA.ref rfl rfl | constructor)); all_goals (fail "ps"))) | (refine OpK.call k0 rfl rfl rfl rfl hE ?_ rfl rfl ?_; focus ((repeat' (first | exact PsA.lit _ | exact PsA.ref rfl rfl | exact PsA.ref rfl (mkL_len _ _ _ _).symm | constructor)); all_goals (fail "ps"))) | (refine OpK.callB (bWrite 2003584 g0 (mkL zWrite (fWrite (1)) g0 g0.length)) n0 rfl rfl rfl rfl hE (BtOk.sl rfl (mkL_len _ _ _ _)) rfl (QsVs.cons (.one (.h rfl rfl rfl)) (.cons (.one (.c (.lit _) rfl)) .nil)) rfl rfl ?_) | (refine CodeK.draw gOk hE rfl (fun _ _ h => h) (.take 0 (.alt 1 (.alt 2 (.alt 3 (.alt 4 (.take 5 .done) .stop) .stop) .stop) (.alt 2 (.alt 1 (.alt 3 (.alt 4 (.take 5 .done) .stop) .stop) .stop) .stop))) ?_ ?_; focus (decide +kernel)) | (refine CodeK.draw gOk hE rfl (fun _ _ h => h) (.take 0 (.alt 1 (.alt 2 (.alt 3 (.alt 4 (.take 5 .done) .stop) .stop) .stop) (.alt 2 (.alt 1 (.alt 3 (.alt 4 (.take 5 .done) .stop) .stop) .stop) .stop))) ?_ ?_; focus (decide +kernel)) | refine ListO.go gOk hE ?_)
  all_goals first | exact Need.mk rfl | exact absurd rfl h | (exfalso; omega) | (refine Need.mk ?_; omega) | (simp_all; done) | trace_state
end Go.Proofs.Ythfcpaplnifhiaa
end
