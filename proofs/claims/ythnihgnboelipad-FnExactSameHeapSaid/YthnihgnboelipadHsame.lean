/- Contracts of SameHeap in both packages. -/
import Derived.Test.YthnihgnboelipadHp
import Derived.Test.YthnihgnboelipadEqI
import Derived.Test.YthnihgnboelipadSameS
namespace Go.Proofs.Ythnihgnboelipad
open Go Go.RowKit

set_option maxHeartbeats 400000 in
theorem sSameHeap_any (A A' D D' : Option Addr) (n c n' c' m d m' d' : Nat) (xs ys us vs : List Int) (w : World) (h : RI w A n xs) (h' : RI w A' n' ys) (k : RI w D m us) (k' : RI w D' m' vs) (hn : n ≤ 1048576) (hn' : n' ≤ 1048576) (hm : m ≤ 1048576) (hm' : m' ≤ 1048576) :
    Calls Try.prog 13 #[.agg #[.slice A n c, .slice A' n' c'], .agg #[.slice D m d, .slice D' m' d']] w fun e w' => e = .returned (.bool ((xs == us) && (ys == vs))) ∧ Below w.heap.size w w' := by
  have hb0 : Below w.heap.size w ((w.alloc (.cells #[.slice A n c, .slice A' n' c'] 27)).alloc (.cells #[.slice D m d, .slice D' m' d'] 27)) :=
    ((Below.refl _ _).alloc (Nat.le_refl _) _).alloc (by simp) _
  cases e : (xs == us)
  · go_enter Try.func13, Try.ntmps13
    go_wp2_with fail
    refine (sSameBytes_any _ _ _ _ _ _ _ _ _ (h.below hb0) (k.below hb0) hn (by omega)).mono ?_
    rintro e w1 ⟨rfl, q1, rfl⟩
    go_wp2_with fail
    go_ret
    exact ⟨rfl, below_drewN hb0 q1⟩
  · go_enter Try.func13, Try.ntmps13
    go_wp2_with fail
    refine (sSameBytes_any _ _ _ _ _ _ _ _ _ (h.below hb0) (k.below hb0) hn (by omega)).mono ?_
    rintro e w1 ⟨rfl, q1, rfl⟩
    go_wp2_with fail
    refine (sSameBytes_any _ _ _ _ _ _ _ _ _ ((h'.below hb0).drewN q1) ((k'.below hb0).drewN q1) hn' (by omega)).mono ?_
    rintro e w1 ⟨rfl, q2, rfl⟩
    go_wp2_with fail
    go_ret
    exact ⟨by simp, below_drewN hb0 (q1 + q2)⟩

set_option maxHeartbeats 400000 in
theorem iSameHeap_any (A A' D D' : Option Addr) (n c n' c' m d m' d' : Nat) (xs ys us vs : List Int) (w : World) (h : RI w A n xs) (h' : RI w A' n' ys) (k : RI w D m us) (k' : RI w D' m' vs) (hn : n ≤ 1048576) (hn' : n' ≤ 1048576) (hm : m ≤ 1048576) (hm' : m' ≤ 1048576) :
    Calls Try.prog 15 #[.agg #[.slice A n c, .slice A' n' c'], .agg #[.slice D m d, .slice D' m' d']] w fun e w' => e = .returned (.bool ((xs == us) && (ys == vs))) ∧ Below w.heap.size w w' := by
  have hb0 : Below w.heap.size w ((w.alloc (.cells #[.slice A n c, .slice A' n' c'] 27)).alloc (.cells #[.slice D m d, .slice D' m' d'] 27)) :=
    ((Below.refl _ _).alloc (Nat.le_refl _) _).alloc (by simp) _
  cases e : (xs == us)
  · go_enter Try.func15, Try.ntmps15
    go_wp2_with fail
    refine (slEqual_any _ _ _ _ _ _ _ _ _ (h.below hb0) (k.below hb0) hn (by omega)).mono ?_
    rintro e w1 ⟨rfl, q1, rfl⟩
    go_wp2_with fail
    go_ret
    exact ⟨rfl, below_drewN hb0 q1⟩
  · go_enter Try.func15, Try.ntmps15
    go_wp2_with fail
    refine (slEqual_any _ _ _ _ _ _ _ _ _ (h.below hb0) (k.below hb0) hn (by omega)).mono ?_
    rintro e w1 ⟨rfl, q1, rfl⟩
    go_wp2_with fail
    refine (slEqual_any _ _ _ _ _ _ _ _ _ ((h'.below hb0).drewN q1) ((k'.below hb0).drewN q1) hn' (by omega)).mono ?_
    rintro e w1 ⟨rfl, q2, rfl⟩
    go_wp2_with fail
    go_ret
    exact ⟨by simp, below_drewN hb0 (q1 + q2)⟩
end Go.Proofs.Ythnihgnboelipad
