import Derived.Test.YtpmhkpmkmbkjbaaDoorZHY
/- l3Store: the same bytes as putNum. -/
namespace Go.Proofs.YtpmhkpmkmbkjbaaDoor
open Go Go.Tr
set_option maxRecDepth 100000
set_option maxHeartbeats 4000000
set_option linter.unusedVariables false
set_option linter.unusedSimpArgs false
theorem fxd_digit : ∀ (k : Nat) (n : Int) (t : Nat), t < k → (((fxd k n).getD (k - 1 - t) 0).toNat : Int) = n / 256 ^ t % 256
  | 0, n, t, h => by omega
  | k + 1, n, 0, h => by
    have hl := fxd_len k (n / 256)
    have h1 : (fxd (k + 1) n).getD (k + 1 - 1 - 0) 0 = UInt8.ofNat (n % 256).toNat := by
      simp only [fxd, List.getD]
      rw [List.getElem?_append_right (by omega), hl, show k + 1 - 1 - 0 - k = 0 by omega]; rfl
    rw [h1, UInt8.toNat_ofNat']
    simp
    omega
  | k + 1, n, t + 1, h => by
    have hl := fxd_len k (n / 256)
    have h1 : (fxd (k + 1) n).getD (k + 1 - 1 - (t + 1)) 0 = (fxd k (n / 256)).getD (k - 1 - t) 0 := by
      simp only [fxd, List.getD]
      rw [List.getElem?_append_left (by omega), show k + 1 - 1 - (t + 1) = k - 1 - t by omega]
    rw [h1, fxd_digit k (n / 256) t (by omega), Int.pow_succ', Int.ediv_ediv_of_nonneg (by decide)]
theorem ext_getD {α : Type} (d : α) {xs ys : List α} (hl : xs.length = ys.length) (h : ∀ q, q < xs.length → xs.getD q d = ys.getD q d) : xs = ys := by
  refine List.ext_getElem hl (fun i h1 h2 => ?_)
  have := h i h1
  simpa [List.getD, h1, h2] using this
theorem set_getDq (xs : List Int) (i q : Nat) (v : Int) (hi : i < xs.length) : (xs.set i v).getD q 0 = if q = i then v else xs.getD q 0 := by
  simp only [List.getD]
  by_cases h : q = i
  · subst h; rw [List.getElem?_set_self hi, if_pos rfl]; rfl
  · rw [List.getElem?_set_ne (Ne.symm h), if_neg h]
theorem putL_get (xs : List Int) (p : Nat) (ds : List UInt8) : ∀ i, p + i ≤ xs.length → ∀ q, (putL xs p ds i).getD q 0 = if p ≤ q ∧ q < p + i then ((ds.getD (q - p) 0).toNat : Int) else xs.getD q 0
  | 0, h, q => by rw [if_neg (by omega)]; rfl
  | i + 1, h, q => by
    have hl := putL_len xs p ds i
    rw [putL, set_getDq _ _ _ _ (by omega), putL_get xs p ds i (by omega) q]
    by_cases h1 : q = p + i
    · rw [if_pos h1, if_pos (by omega), h1, show p + i - p = i by omega]
    · rw [if_neg h1]
      by_cases h2 : p ≤ q ∧ q < p + i
      · rw [if_pos h2, if_pos (by omega)]
      · rw [if_neg h2, if_neg (by omega)]
/-- The last t digits are laid. -/
def putH (xs : List Int) (p : Nat) (ds : List UInt8) (k : Nat) : Nat → List Int
  | 0 => xs
  | t + 1 => (putH xs p ds k t).set (p + (k - 1 - t)) ((ds.getD (k - 1 - t) 0).toNat : Int)
theorem putH_len (xs : List Int) (p : Nat) (ds : List UInt8) (k : Nat) : ∀ t, (putH xs p ds k t).length = xs.length
  | 0 => rfl
  | t + 1 => by unfold putH; rw [List.length_set, putH_len xs p ds k t]
theorem putH_get (xs : List Int) (p : Nat) (ds : List UInt8) (k : Nat) (hk : p + k ≤ xs.length) : ∀ t, t ≤ k → ∀ q, (putH xs p ds k t).getD q 0 = if p + (k - t) ≤ q ∧ q < p + k then ((ds.getD (q - p) 0).toNat : Int) else xs.getD q 0
  | 0, h, q => by rw [if_neg (by omega)]; rfl
  | t + 1, h, q => by
    have hl := putH_len xs p ds k t
    rw [putH, set_getDq _ _ _ _ (by omega), putH_get xs p ds k hk t (by omega) q]
    by_cases h1 : q = p + (k - 1 - t)
    · rw [if_pos h1, if_pos (by omega), h1, show p + (k - 1 - t) - p = k - 1 - t by omega]
    · rw [if_neg h1]
      by_cases h2 : p + (k - t) ≤ q ∧ q < p + k
      · rw [if_pos h2, if_pos (by omega)]
      · rw [if_neg h2, if_neg (by omega)]
theorem putH_full (xs : List Int) (p : Nat) (ds : List UInt8) (k : Nat) (hk : p + k ≤ xs.length) : putH xs p ds k k = putL xs p ds k := by
  refine ext_getD 0 (by rw [putH_len, putL_len]) (fun q _ => ?_)
  rw [putH_get xs p ds k hk k (Nat.le_refl _), putL_get xs p ds k hk]
  simp
theorem l3Store_run (xs : List Int) (q k : Nat) (n : Int) (hn : xs.length ≤ 4000000) (hk : k ≤ 7) (hl : q + k ≤ xs.length) (h0 : 0 ≤ n) (hm : n ≤ 9223372036854775807) :
    RunT Tryd.prog 34 [.one (.m (tI xs)), ti q, ti k, ti n] [] [.one (tI (putL xs q (fxd k n) k))] [] := by
  have hd := fxd_digit k n
  have hf := putH_full xs q (fxd k n) k hl
  generalize fxd k n = ds at *
  refine RunT.of_vc gOk Tryd.func34 rfl rfl (Nat.le_of_ble_eq_true rfl) (by repeat' (first | exact trivial | exact ⟨_, rfl, Nat.le_refl _⟩ | exact Nat.le_of_ble_eq_true rfl | refine And.intro ?_ ?_)) (Nat.le_of_ble_eq_true rfl) rfl (fun F hE => ?_)
  repeat' (first | exact trivial | refine BS.d (fun h => ?_) (fun h => ?_) | refine BS.e (fun h => ?_) (fun h => ?_) | refine BS.ne (fun h => ?_) (fun h => ?_) | refine BS.n ?_ | refine BS.s (fun h => ?_) (fun h => ?_) | refine And.intro ?_ ?_ | (refine Need.mk ?_; first | with_reducible rfl | (show @Eq TC _ _; rfl) | omega | (simp only [adN_zero]; omega)) | exact OutS.whole rfl rfl | refine ListO.go gOk hE ?_)
  refine CodeK.loop gOk hE (fun t : Nat => ⟨[(0, vr 1000000 xs.length), (1, vi q), (3, vi (n / 256 ^ t)), (9, vi ((k : Int) - 1 - t))], [(1000000, rI .own true (putH xs q ds k t))]⟩) (fun t => t ≤ k) (fun t => k - t) 0 (by refine leT.of ?_ ?_ rfl <;> repeat' (first | exact trivial | refine And.intro rfl ?_ | refine And.intro (by first | rfl | (simp [putH] <;> rfl)) ?_)) (Nat.zero_le _) ?_
  rintro t ht
  have hl2 := putH_len xs q ds k t
  have hnn : 0 ≤ n / 256 ^ t := Int.ediv_nonneg h0 (Int.pow_nonneg (by decide))
  have hle : n / 256 ^ t ≤ n := Int.ediv_le_self _ h0
  by_cases ht2 : t < k
  · have hg := hd t ht2
    have hs := div_step n t
    have ha : adN 0 ((q : Int) + ((k : Int) - 1 - (t : Int))) = q + (k - 1 - t) := by rw [adN_eq]; omega
    have hr : Int.tmod (n / 256 ^ t) 256 = ((ds.getD (k - 1 - t) 0).toNat : Int) := by rw [Int.tmod_eq_emod_of_nonneg hnn, hg]
    have hq : wr .i64 (Int.tdiv (n / 256 ^ t) 256) = n / 256 ^ (t + 1) := by rw [Int.tdiv_eq_ediv_of_nonneg hnn, hs, wr_in]; rw [← hs]; omega
    generalize n / 256 ^ t = m at *
    repeat' (first | exact trivial | refine BS.d (fun h => ?_) (fun h => ?_) | refine BS.e (fun h => ?_) (fun h => ?_) | refine BS.ne (fun h => ?_) (fun h => ?_) | refine BS.n ?_ | refine BS.s (fun h => ?_) (fun h => ?_) | refine And.intro ?_ ?_ | (refine Need.mk ?_; first | with_reducible rfl | (show @Eq TC _ _; rfl) | omega | (simp only [adN_zero]; omega)) | exact OutS.whole rfl rfl | refine ListO.go gOk hE ?_)
    all_goals (try simp only [ha, hr, hq])
    all_goals first
      | (exfalso; omega)
      | (refine Need.mk ?_; first | omega | (rw [hl2]; omega))
      | (refine ⟨t + 1, (by refine leT.of ?_ ?_ rfl <;> repeat' (first | exact trivial | refine And.intro rfl ?_ | refine And.intro (by first | rfl | (refine litInt ?_; omega) | (simp; done)) ?_)), by omega, by first | omega | (dsimp only; omega)⟩)
      | trace_state
  · obtain rfl : t = k := by omega
    repeat' (first | exact trivial | refine BS.d (fun h => ?_) (fun h => ?_) | refine BS.e (fun h => ?_) (fun h => ?_) | refine BS.ne (fun h => ?_) (fun h => ?_) | refine BS.n ?_ | refine BS.s (fun h => ?_) (fun h => ?_) | refine And.intro ?_ ?_ | (refine Need.mk ?_; first | with_reducible rfl | (show @Eq TC _ _; rfl) | omega | (simp only [adN_zero]; omega)) | exact OutS.whole rfl rfl | refine ListO.go gOk hE ?_)
    all_goals first | (exfalso; omega) | exact OutS.whole hl2.symm (by rw [hf]; rfl) | (refine Need.mk ?_; omega) | trace_state
end Go.Proofs.YtpmhkpmkmbkjbaaDoor
