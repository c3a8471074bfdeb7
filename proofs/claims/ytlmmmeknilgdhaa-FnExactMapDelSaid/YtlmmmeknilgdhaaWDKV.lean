import Derived.Test.YtlmmmeknilgdhaaWA
import Derived.Test.YtlmmmeknilgdhaaWM
import Derived.Test.YtlmmmeknilgdhaaUP
namespace Go.Proofs.Ytlmmmeknilgdhaa
open Go Go.Tr
set_option maxRecDepth 100000
set_option maxHeartbeats 4000000
set_option linter.unusedVariables false
set_option linter.unusedSimpArgs false
def plRKV : Option Nat → Int
  | some j => (j : Int)
  | none => -1
theorem IndexKV_run {hc : Hc} {cf : Nat} {caps : Array Value} (p : KVT → Bool) (e : Nat) (xs : List KVT) (hn : xs.length ≤ 4000000) (hcs : ∀ v ∈ caps, scal v = true) (hf : ∀ x : KVT, RunH Try.prog hc cf ([aKV x] ++ capA caps) [] [ob (p x)] []) :
    RunH Try.prog hc 139 [.one (.c (tKV e xs)), .one (.c (.lit (.func (.func cf) #[] caps)))] [] [oi (plRKV (firstP (fun j => p (xs.getD j zKV)) 0 xs.length))] [] := by
  refine RunH.of_vc gOk Try.func139 rfl rfl (Nat.le_of_ble_eq_true rfl) (by repeat' (first | exact trivial | exact ⟨_, rfl, Nat.le_refl _⟩ | exact Nat.le_of_ble_eq_true rfl | refine And.intro ?_ ?_)) (Nat.le_of_ble_eq_true rfl) rfl (fun F hE hA => ?_)
  repeat' (first | exact trivial | refine BS.d (fun h => ?_) (fun h => ?_) | refine BS.e (fun h => ?_) (fun h => ?_) | refine BS.ne (fun h => ?_) (fun h => ?_) | refine BS.n ?_ | refine BS.s (fun h => ?_) (fun h => ?_) | refine And.intro ?_ ?_ | (refine Need.mk ?_; first | with_reducible rfl | (show @Eq TC _ _; rfl) | omega | (simp only [adN_zero]; omega)) | exact OutS.whole rfl rfl | refine ListO.go gOk hE ?_)
  refine CodeK.loop gOk hE (fun i : Nat => ⟨[(0, vr 1000000 xs.length), (1, .a (.lit (.func (.func cf) #[] caps))), (7, vi xs.length), (8, vi i)], [(1000000, rKV .fro false e xs)]⟩) (fun i => i ≤ xs.length ∧ firstP (fun j => p (xs.getD j zKV)) 0 xs.length = firstP (fun j => p (xs.getD j zKV)) i (xs.length - i)) (fun i => xs.length - i) 0 (by refine leT.of ?_ ?_ rfl <;> repeat' (first | exact trivial | refine And.intro rfl ?_ | refine And.intro (by simp) ?_)) ⟨Nat.zero_le _, rfl⟩ ?_
  rintro i ⟨hi, hs⟩
  rcases hp : p (xs.getD i zKV)
  all_goals (have c1 := hf (xs.getD i zKV); rw [hp] at c1)
  all_goals (repeat' (first | exact trivial | refine BS.d (fun h => ?_) (fun h => ?_) | refine BS.e (fun h => ?_) (fun h => ?_) | refine BS.ne (fun h => ?_) (fun h => ?_) | refine BS.n ?_ | refine BS.s (fun h => ?_) (fun h => ?_) | refine And.intro ?_ ?_ | (refine Need.mk ?_; first | with_reducible rfl | (show @Eq TC _ _; rfl) | omega | (simp only [adN_zero]; omega)) | exact OutS.whole rfl rfl | (refine OpK.callC c1 hA hcs rfl rfl rfl rfl hE ?_ rfl rfl ?_; focus ((repeat' (first | exact PsA.lit _ | exact PsA.ref rfl rfl | constructor)); all_goals (fail "ps"))) | refine ListO.go gOk hE ?_))
  all_goals (try simp only [adN_zero] at *)
  all_goals first
    | (exfalso; first | omega | (simp_all; done))
    | (refine Need.mk ?_; omega)
    | (refine Need.mk ?_; rw [hs, firstP_yes (by omega) hp]; rfl)
    | (refine Need.mk ?_; rw [hs, show xs.length - i = 0 by omega]; rfl)
    | (refine ⟨i + 1, (by refine leT.of ?_ ?_ rfl <;> repeat' (first | exact trivial | refine And.intro rfl ?_ | refine And.intro (by simp) ?_)), ⟨by omega, by rw [hs, firstP_no (by omega) hp, show xs.length - i - 1 = xs.length - (i + 1) by omega]⟩, by first | omega | (dsimp only; omega)⟩)
theorem firstP_someKV {p : Nat → Bool} : ∀ {m i j : Nat}, firstP p i m = some j → i ≤ j ∧ j < i + m ∧ p j = true ∧ ∀ t, i ≤ t → t < j → p t = false
  | 0, i, j, h => by cases h
  | m + 1, i, j, h => by
    unfold firstP at h
    split at h
    · injection h with h; subst h; exact ⟨Nat.le_refl _, by omega, by assumption, fun t h1 h2 => by omega⟩
    · rename_i hp
      obtain ⟨h1, h2, h3, h4⟩ := firstP_someKV h
      refine ⟨by omega, by omega, h3, fun t h5 h6 => ?_⟩
      by_cases e : t = i
      · subst e; simpa using hp
      · exact h4 t (by omega) h6
theorem firstP_noneAKV {p : Nat → Bool} : ∀ {m i : Nat}, firstP p i m = none → ∀ j, i ≤ j → j < i + m → p j = false
  | 0, i, h, j, h1, h2 => by omega
  | m + 1, i, h, j, h1, h2 => by
    unfold firstP at h
    split at h
    · cases h
    · rename_i hp
      by_cases e : j = i
      · subst e; simpa using hp
      · exact firstP_noneAKV h j (by omega) (by omega)
def kpKV (p : KVT → Bool) (xs : List KVT) (j : Nat) : List KVT := (xs.take j).filter fun x => !p x
theorem kpKV_succ (p : KVT → Bool) (xs : List KVT) {j : Nat} (h : j < xs.length) : kpKV p xs (j + 1) = if p (xs.getD j zKV) then kpKV p xs j else kpKV p xs j ++ [xs.getD j zKV] := by
  unfold kpKV
  have e : xs.getD j zKV = xs[j] := by simp [List.getD, h]
  rw [List.take_succ_eq_append_getElem h, List.filter_append, e]
  cases hp : p xs[j] <;> simp [hp]
theorem kpKV_le (p : KVT → Bool) (xs : List KVT) (j : Nat) : (kpKV p xs j).length ≤ j := by
  unfold kpKV
  exact Nat.le_trans (List.length_filter_le _ _) (by simp; omega)
theorem kpKV_all (p : KVT → Bool) (xs : List KVT) : ∀ j, (∀ t, t < j → p (xs.getD t zKV) = false) → j ≤ xs.length → kpKV p xs j = xs.take j
  | 0, _, _ => rfl
  | j + 1, h, hj => by
    rw [kpKV_succ p xs (by omega), h j (by omega), kpKV_all p xs j (fun t ht => h t (by omega)) (by omega)]
    rw [List.take_succ_eq_append_getElem (show j < xs.length by omega)]
    simp [List.getD, show j < xs.length by omega]
theorem take_kpKV {ys ks : List KVT} (hk : ks.length ≤ ys.length) (h : ∀ t, t < ks.length → ys.getD t zKV = ks.getD t zKV) : ys.take ks.length = ks := by
  refine List.ext_getElem (by simp; omega) (fun i h1 h2 => ?_)
  have := h i h2
  simp only [List.getD, List.getElem?_eq_getElem h2, List.getElem?_eq_getElem (show i < ys.length by omega), Option.getD_some] at this
  rw [List.getElem_take, this]
theorem padKV_ge (ys : List KVT) (k n : Nat) {q : Nat} (h : k ≤ q) (hk : k ≤ ys.length := by omega) : (ys.take k ++ List.replicate n zKV).getD q zKV = zKV := by
  simp only [List.getD]
  rw [List.getElem?_append_right (by simp; omega), List.getElem?_replicate]
  split <;> rfl
theorem padKV_out {ys : List KVT} {k n q : Nat} (hl : ys.length = n) (hk : k ≤ n) (h : ¬ (k ≤ q ∧ q < k + (n - k))) : (ys.take k ++ List.replicate (n - k) zKV).getD q zKV = ys.getD q zKV := by
  simp only [List.getD]
  by_cases h1 : q < k
  · rw [List.getElem?_append_left (by simp; omega), List.getElem?_take, if_pos h1]
  · rw [List.getElem?_eq_none (by simp; omega), List.getElem?_eq_none (by omega)]
theorem DelKV_run {hc : Hc} {cf : Nat} {caps : Array Value} (p : KVT → Bool) (e : Nat) (xs : List KVT) (hn : xs.length ≤ 4000000) (hcs : ∀ v ∈ caps, scal v = true) (hf : ∀ x : KVT, RunH Try.prog hc cf ([aKV x] ++ capA caps) [] [ob (p x)] []) :
    RunH Try.prog hc 79 [.one (.m (tKV e xs)), .one (.c (.lit (.func (.func cf) #[] caps)))] [] [.one (tKV e (xs.filter fun x => !p x))] [] := by
  have c1 := IndexKV_run p e xs hn hcs hf
  cases hq : firstP (fun j => p (xs.getD j zKV)) 0 xs.length with
  | none =>
    have ha := firstP_noneAKV hq
    have hall := kpKV_all p xs xs.length (fun t ht => ha t (Nat.zero_le _) (by omega)) (Nat.le_refl _)
    unfold kpKV at hall
    rw [List.take_length] at hall
    rw [hall]
    rw [hq] at c1
    refine RunH.of_vc gOk Try.func79 rfl rfl (Nat.le_of_ble_eq_true rfl) (by repeat' (first | exact trivial | exact ⟨_, rfl, Nat.le_refl _⟩ | exact Nat.le_of_ble_eq_true rfl | refine And.intro ?_ ?_)) (Nat.le_of_ble_eq_true rfl) rfl (fun F hE hA => ?_)
    repeat' (first | exact trivial | refine BS.d (fun h => ?_) (fun h => ?_) | refine BS.e (fun h => ?_) (fun h => ?_) | refine BS.ne (fun h => ?_) (fun h => ?_) | refine BS.n ?_ | refine BS.s (fun h => ?_) (fun h => ?_) | refine And.intro ?_ ?_ | (refine Need.mk ?_; first | with_reducible rfl | (show @Eq TC _ _; rfl) | omega | (simp only [adN_zero]; omega)) | exact OutS.whole rfl rfl | (refine OpK.callH c1 hA rfl rfl rfl rfl hE ?_ rfl rfl ?_; focus ((repeat' (first | exact PsA.lit _ | exact PsA.ref rfl rfl | constructor)); all_goals (fail "ps"))) | refine ListO.go gOk hE ?_)
    all_goals first | exact OutS.whole rfl rfl | (exfalso; simp_all; done) | trace_state
  | some i0 =>
    obtain ⟨_, hi0, hp0, hall0⟩ := firstP_someKV hq
    have hk0 : kpKV p xs (i0 + 1) = xs.take i0 := by
      rw [kpKV_succ p xs (by omega), hp0, if_pos rfl]
      exact kpKV_all p xs i0 (fun t ht => hall0 t (Nat.zero_le _) ht) (by omega)
    have hl0 : (kpKV p xs (i0 + 1)).length = i0 := by rw [hk0]; simp; omega
    rw [hq] at c1
    have hfull : kpKV p xs xs.length = xs.filter fun x => !p x := by unfold kpKV; rw [List.take_length]
    refine RunH.of_vc gOk Try.func79 rfl rfl (Nat.le_of_ble_eq_true rfl) (by repeat' (first | exact trivial | exact ⟨_, rfl, Nat.le_refl _⟩ | exact Nat.le_of_ble_eq_true rfl | refine And.intro ?_ ?_)) (Nat.le_of_ble_eq_true rfl) rfl (fun F hE hA => ?_)
    repeat' (first | exact trivial | refine BS.d (fun h => ?_) (fun h => ?_) | refine BS.e (fun h => ?_) (fun h => ?_) | refine BS.ne (fun h => ?_) (fun h => ?_) | refine BS.n ?_ | refine BS.s (fun h => ?_) (fun h => ?_) | refine And.intro ?_ ?_ | (refine Need.mk ?_; first | with_reducible rfl | (show @Eq TC _ _; rfl) | omega | (simp only [adN_zero]; omega)) | exact OutS.whole rfl rfl | (refine OpK.callH c1 hA rfl rfl rfl rfl hE ?_ rfl rfl ?_; focus ((repeat' (first | exact PsA.lit _ | exact PsA.ref rfl rfl | constructor)); all_goals (fail "ps"))) | refine ListO.go gOk hE ?_)
    all_goals first | (exfalso; simp_all [plRKV]; done) | (exfalso; simp only [plRKV] at *; omega) | (refine Need.mk ?_; simp only [plRKV]; omega) | skip
    refine CodeK.loop gOk hE (fun i : Nat × List KVT => ⟨[(0, vr 1000000 xs.length), (1, .a (.lit (.func (.func cf) #[] caps))), (5, vi (kpKV p xs i.1).length), (6, vi i.1)], [(1000000, rKV .own true e i.2)]⟩) (fun i => i.1 ≤ xs.length ∧ i.2.length = xs.length ∧ (∀ t, t < (kpKV p xs i.1).length → i.2.getD t zKV = (kpKV p xs i.1).getD t zKV) ∧ ∀ t, i.1 ≤ t → i.2.getD t zKV = xs.getD t zKV) (fun i => xs.length - i.1) (i0 + 1, xs) (by refine leT.of ?_ ?_ rfl <;> repeat' (first | exact trivial | refine And.intro rfl ?_ | refine And.intro (by first | rfl | (simp [hl0, plRKV] <;> rfl)) ?_)) ⟨by omega, rfl, fun t ht => (by rw [hl0] at ht; dsimp only; rw [hk0]; simp [List.getD, List.getElem?_take, ht]), fun t ht => rfl⟩ ?_
    rintro ⟨j, ys⟩ ⟨hj, hyl, hB, hC⟩
    dsimp only at hj hyl hB hC
    have hkl := kpKV_le p xs j
    by_cases hj2 : j < xs.length
    · have hv := hC j (Nat.le_refl _)
      have hsu := kpKV_succ p xs hj2
      cases hp : p (xs.getD j zKV) with
      | true =>
        have c2 := hf (ys.getD j zKV)
        rw [hv, hp] at c2
        rw [hp, if_pos rfl] at hsu
        repeat' (first | exact trivial | refine BS.d (fun h => ?_) (fun h => ?_) | refine BS.e (fun h => ?_) (fun h => ?_) | refine BS.ne (fun h => ?_) (fun h => ?_) | refine BS.n ?_ | refine BS.s (fun h => ?_) (fun h => ?_) | refine And.intro ?_ ?_ | (refine Need.mk ?_; first | with_reducible rfl | (show @Eq TC _ _; rfl) | omega | (simp only [adN_zero]; omega)) | exact OutS.whole rfl rfl | (refine OpK.callC c2 hA hcs rfl rfl rfl rfl hE ?_ rfl rfl ?_; focus ((repeat' (first | exact PsA.lit _ | exact PsA.ref rfl rfl | constructor)); all_goals (fail "ps"))) | refine ListO.go gOk hE ?_)
        all_goals (try simp only [adN_zero, hv] at *)
        all_goals (try (repeat' (first | exact trivial | refine BS.d (fun h => ?_) (fun h => ?_) | refine BS.e (fun h => ?_) (fun h => ?_) | refine BS.ne (fun h => ?_) (fun h => ?_) | refine BS.n ?_ | refine BS.s (fun h => ?_) (fun h => ?_) | refine And.intro ?_ ?_ | (refine Need.mk ?_; first | with_reducible rfl | (show @Eq TC _ _; rfl) | omega | (simp only [adN_zero]; omega)) | exact OutS.whole rfl rfl | (refine OpK.callC c2 hA hcs rfl rfl rfl rfl hE ?_ rfl rfl ?_; focus ((repeat' (first | exact PsA.lit _ | exact PsA.ref rfl rfl | constructor)); all_goals (fail "ps"))) | refine ListO.go gOk hE ?_)))
        all_goals first
          | (exfalso; first | omega | (simp_all; done))
          | (refine Need.mk ?_; omega)
          | (refine ⟨(j + 1, ys), (by refine leT.of ?_ ?_ rfl <;> repeat' (first | exact trivial | refine And.intro rfl ?_ | refine And.intro (by first | rfl | (rw [hsu]; rfl) | (simp [hsu] <;> rfl)) ?_)), ⟨by omega, hyl, by rw [hsu]; exact hB, fun t ht => hC t (by omega)⟩, by first | omega | (dsimp only; omega)⟩)
          | trace_state
      | false =>
        have c2 := hf (ys.getD j zKV)
        rw [hv, hp] at c2
        rw [hp, if_neg (by simp)] at hsu
        repeat' (first | exact trivial | refine BS.d (fun h => ?_) (fun h => ?_) | refine BS.e (fun h => ?_) (fun h => ?_) | refine BS.ne (fun h => ?_) (fun h => ?_) | refine BS.n ?_ | refine BS.s (fun h => ?_) (fun h => ?_) | refine And.intro ?_ ?_ | (refine Need.mk ?_; first | with_reducible rfl | (show @Eq TC _ _; rfl) | omega | (simp only [adN_zero]; omega)) | exact OutS.whole rfl rfl | (refine OpK.callC c2 hA hcs rfl rfl rfl rfl hE ?_ rfl rfl ?_; focus ((repeat' (first | exact PsA.lit _ | exact PsA.ref rfl rfl | constructor)); all_goals (fail "ps"))) | refine ListO.go gOk hE ?_)
        all_goals (try simp only [adN_zero, hv] at *)
        all_goals (try (repeat' (first | exact trivial | refine BS.d (fun h => ?_) (fun h => ?_) | refine BS.e (fun h => ?_) (fun h => ?_) | refine BS.ne (fun h => ?_) (fun h => ?_) | refine BS.n ?_ | refine BS.s (fun h => ?_) (fun h => ?_) | refine And.intro ?_ ?_ | (refine Need.mk ?_; first | with_reducible rfl | (show @Eq TC _ _; rfl) | omega | (simp only [adN_zero]; omega)) | exact OutS.whole rfl rfl | (refine OpK.callC c2 hA hcs rfl rfl rfl rfl hE ?_ rfl rfl ?_; focus ((repeat' (first | exact PsA.lit _ | exact PsA.ref rfl rfl | constructor)); all_goals (fail "ps"))) | refine ListO.go gOk hE ?_)))
        all_goals first
          | (exfalso; first | omega | (simp_all; done))
          | (refine Need.mk ?_; first | omega | rw [hyl]; omega)
          | (refine ⟨(j + 1, ys.set (kpKV p xs j).length (xs.getD j zKV)), (by refine leT.of ?_ ?_ rfl <;> repeat' (first | exact trivial | refine And.intro rfl ?_ | refine And.intro (by first | rfl | (rw [hsu]; simp; rfl) | (simp [hsu] <;> rfl)) ?_)), ⟨by omega, by simp [hyl], fun t ht => ?_, fun t ht => ?_⟩, by first | omega | (dsimp only; omega)⟩; (rw [hsu] at ht ⊢; rw [List.length_append] at ht; simp only [List.getD] at hB ⊢; by_cases h9 : t = (kpKV p xs j).length; (subst h9; rw [List.getElem?_set_self (by omega), List.getElem?_append_right (by omega)]; simp); (rw [List.getElem?_set_ne (by omega), List.getElem?_append_left (by simp at ht; omega)]; exact hB t (by simp at ht; omega))); (simp only [List.getD] at hC ⊢; rw [List.getElem?_set_ne (by omega)]; exact hC t (by omega)))
          | trace_state
    · obtain rfl : j = xs.length := by omega
      have htk := take_kpKV (by omega) hB
      repeat' (first | exact trivial | refine BS.d (fun h => ?_) (fun h => ?_) | refine BS.e (fun h => ?_) (fun h => ?_) | refine BS.ne (fun h => ?_) (fun h => ?_) | refine BS.n ?_ | refine BS.s (fun h => ?_) (fun h => ?_) | refine And.intro ?_ ?_ | (refine Need.mk ?_; first | with_reducible rfl | (show @Eq TC _ _; rfl) | omega | (simp only [adN_zero]; omega)) | exact OutS.whole rfl rfl | (refine OpK.clearT gOk (ys.take (kpKV p xs xs.length).length ++ List.replicate (xs.length - (kpKV p xs xs.length).length) zKV) rfl rfl rfl rfl rfl rfl rfl rfl (by simp; omega) ?_ ?_ ?_) | refine ListO.go gOk hE ?_)
      all_goals (try simp only [adN_zero, Int.toNat_natCast] at *)
      all_goals first
        | (exfalso; omega)
        | (refine Need.mk ?_; omega)
        | (intro i r hi hr; rw [padKV_ge _ _ _ (by omega)]; match r, hr with
            | 0, _ => exact ⟨_, rfl, rfl⟩
            | 1, _ => exact ⟨_, rfl, rfl⟩)
        | (intro q hq; exact padKV_out hyl hkl hq)
        | (refine OutS.pre (by simp; omega) ?_; rw [List.take_append_of_le_length (by simp; omega), List.take_take, Nat.min_self, htk, hfull]; rfl)
        | trace_state
end Go.Proofs.Ytlmmmeknilgdhaa
