import Derived.Test.YtpmhkpmkmbkjbaaDoorZUQ
import Derived.Test.YtpmhkpmkmbkjbaaDoorZFxC
import Derived.Test.YtpmhkpmkmbkjbaaDoorZB
import Derived.Test.YtpmhkpmkmbkjbaaDoorMkL
/- Numbers laid into bytes: putNum, l3Store. -/
namespace Go.Proofs.YtpmhkpmkmbkjbaaDoor
open Go Go.Tr
set_option maxRecDepth 100000
set_option maxHeartbeats 4000000
set_option linter.unusedVariables false
set_option linter.unusedSimpArgs false
theorem Fixed_run (n k : Int) (h : n ≤ 9223372036854775807) : RunT Tryd.prog 81 [ti n, ti k] [] [.one (.lit (.string (fxS n k)))] [] :=
  RunT.of_below (vs := [.int .i64 n, .int .i64 k]) ⟨_, Tryd.func81, rfl, rfl⟩ rfl (fun w => iFixed_any n k w h)
/-- The first i digits are laid from p on. -/
def putL (xs : List Int) (p : Nat) (ds : List UInt8) : Nat → List Int
  | 0 => xs
  | i + 1 => (putL xs p ds i).set (p + i) ((ds.getD i 0).toNat : Int)
theorem putL_len (xs : List Int) (p : Nat) (ds : List UInt8) : ∀ i, (putL xs p ds i).length = xs.length
  | 0 => rfl
  | i + 1 => by unfold putL; rw [List.length_set, putL_len xs p ds i]
theorem ds_get {ds : List UInt8} {i : Nat} (h : i < ds.length) : (ByteArray.mk ds.toArray)[i]? = some (ds.getD i 0) := by
  have hlt : i < (ByteArray.mk ds.toArray).size := by show i < ds.toArray.size; simpa using h
  rw [getElem?_pos _ i hlt]
  show some (ds.toArray[i]'(by simpa using h)) = _
  simp [List.getD, h]
theorem ds_ne {ds : List UInt8} (h : 1 ≤ ds.length) : ((ByteArray.mk ds.toArray).toList == (ByteArray.mk #[]).toList) = false := by
  cases ds with
  | nil => simp at h
  | cons a l => simp
theorem putNum_run (e : Nat) (xs : List Int) (q : Nat) (k : Nat) (n : Int) (hn : xs.length ≤ 4000000) (hk : k ≤ 7) (hl : q + k ≤ xs.length) (hok : fxOk n k = true) (hk0 : 1 ≤ k) (hm : n ≤ 9223372036854775807) :
    RunT Tryd.prog 41 [.one (.h 0 xs.length), ti q, ti k, ti n] [.sl e 1 Int encI decI 0 xs] [ob true] [.sl e 1 Int encI decI 0 (putL xs q (fxd k n) k)] := by
  have c1 := Fixed_run n k hm
  have hs : fxS n k = ⟨(fxd k n).toArray⟩ := by unfold fxS; rw [if_pos hok]; rfl
  have hdl := fxd_len k n
  rw [hs] at c1
  generalize fxd k n = ds at *
  have hsz : (ByteArray.mk ds.toArray).size = k := by show ds.toArray.size = k; simp [hdl]
  have hne := ds_ne (ds := ds) (by omega)
  have hget : ∀ i : Nat, i < k → (ByteArray.mk ds.toArray)[i]? = some (ds.getD i 0) := fun i hi => ds_get (by omega)
  generalize ByteArray.mk ds.toArray = s at *
  refine RunT.of_vc gOk Tryd.func41 rfl rfl (Nat.le_of_ble_eq_true rfl) (by repeat' (first | exact trivial | exact ⟨_, rfl, Nat.le_refl _⟩ | exact Nat.le_of_ble_eq_true rfl | refine And.intro ?_ ?_)) (Nat.le_of_ble_eq_true rfl) rfl (fun F hE => ?_)
  repeat' (first | exact trivial | refine BS.d (fun h => ?_) (fun h => ?_) | refine BS.e (fun h => ?_) (fun h => ?_) | refine BS.ne (fun h => ?_) (fun h => ?_) | refine BS.n ?_ | refine BS.s (fun h => ?_) (fun h => ?_) | refine And.intro ?_ ?_ | (refine Need.mk ?_; first | with_reducible rfl | (show @Eq TC _ _; rfl) | omega | (simp only [adN_zero]; omega)) | exact OutS.whole rfl rfl | (refine OpK.call c1 rfl rfl rfl rfl hE ?_ rfl rfl ?_; focus ((repeat' (first | exact PsA.lit _ | exact PsA.ref rfl rfl | constructor)); all_goals (fail "ps"))) | (refine PK.lenS rfl rfl Tryd.underlying9 ?_) | refine ListO.go gOk hE ?_)
  refine CodeK.loop gOk hE (fun i : Nat => ⟨[(0, vr 1000000 xs.length), (1, vi q), (9, .a (.lit (.string s))), (15, vi s.size), (16, vi i)], [(1000000, .ty .own false 0 1 Int encI decI 0 (putL xs q ds i))]⟩) (fun i => i ≤ k) (fun i => k - i) 0 (by refine leT.of ?_ ?_ rfl <;> repeat' (first | exact trivial | refine And.intro rfl ?_ | refine And.intro (by first | rfl | (simp [putL]; done)) ?_)) (Nat.zero_le _) ?_
  rintro i hi
  have hl2 := putL_len xs q ds i
  by_cases hi2 : i < k
  · have hg := hget i hi2
    have hu : (ds.getD i 0).toNat < 256 := UInt8.toNat_lt _
    have ha : adN 0 ((q : Int) + (i : Int)) = q + i := by rw [adN_eq]; omega
    repeat' (first | exact trivial | refine BS.d (fun h => ?_) (fun h => ?_) | refine BS.e (fun h => ?_) (fun h => ?_) | refine BS.ne (fun h => ?_) (fun h => ?_) | refine BS.n ?_ | refine BS.s (fun h => ?_) (fun h => ?_) | refine And.intro ?_ ?_ | (refine Need.mk ?_; first | with_reducible rfl | (show @Eq TC _ _; rfl) | omega | (simp only [adN_zero]; omega)) | exact OutS.whole rfl rfl | (refine OpK.ixS rfl rfl rfl Tryd.underlying9 rfl rfl (by omega) (show s[((i : Int)).toNat]? = some (ds.getD i 0) from hg) ?_) | (refine OpK.cv8 rfl rfl rfl Tryd.underlying5 Tryd.underlying3 rfl (by omega) ?_) | refine ListO.go gOk hE ?_)
    all_goals (try simp only [adN_zero, ha] at *)
    all_goals first
      | (exfalso; omega)
      | (refine Need.mk ?_; first | omega | (rw [hl2]; omega))
      | (refine ⟨i + 1, (by refine leT.of ?_ ?_ rfl <;> repeat' (first | exact trivial | refine And.intro rfl ?_ | refine And.intro (by first | rfl | (simp; done)) ?_)), by omega, by first | omega | (dsimp only; omega)⟩)
      | trace_state
  · obtain rfl : i = k := by omega
    repeat' (first | exact trivial | refine BS.d (fun h => ?_) (fun h => ?_) | refine BS.e (fun h => ?_) (fun h => ?_) | refine BS.ne (fun h => ?_) (fun h => ?_) | refine BS.n ?_ | refine BS.s (fun h => ?_) (fun h => ?_) | refine And.intro ?_ ?_ | (refine Need.mk ?_; first | with_reducible rfl | (show @Eq TC _ _; rfl) | omega | (simp only [adN_zero]; omega)) | exact OutS.whole rfl rfl | (refine PK.neS false rfl rfl rfl Tryd.underlying9 hne ?_) | refine ListO.go gOk hE ?_)
    all_goals first | (exfalso; omega) | (refine Need.mk ?_; omega) | exact Need.mk rfl | trace_state
end Go.Proofs.YtpmhkpmkmbkjbaaDoor
