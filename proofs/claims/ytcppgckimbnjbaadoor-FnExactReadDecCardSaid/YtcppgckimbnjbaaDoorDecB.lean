/- impl.Dec gives the decimal numeral. -/
import Derived.Test.YtcppgckimbnjbaaDoorDecA
import Derived.Test.YtcppgckimbnjbaaDoorDoorTab
import Derived.Test.YtcppgckimbnjbaaDoorShelf
import Derived.WalkSmall
namespace Go.Proofs.YtcppgckimbnjbaaDoor
open Go Go.RowKit

theorem tab_below {W w : World} (h : Lib.TabIs Tryd.prog W "internal/strconv.uint64pow10" .u64 Lib.pow10Tab) (hb : Below W.heap.size W w) :
    Lib.TabIs Tryd.prog w "internal/strconv.uint64pow10" .u64 Lib.pow10Tab := by
  have hg : Tryd.prog.globalNamed "internal/strconv.uint64pow10" = some 3 := by kernel_rfl
  have hlt : 3 < W.heap.size := World.block_lt_of_cell? W ⟨3, 0, none⟩ (h.cell hg 0 (by rw [Lib.pow10Tab_length]; decide))
  unfold Lib.TabIs at h ⊢
  exact var?_below hb hg hlt h

theorem grow_below (w : World) (k : Nat) (os : Array Obj) : Below w.heap.size w (Sort.grow (w.drewN k) os) := by
  refine ⟨rfl, rfl, rfl, ?_, fun i hi => ?_⟩
  · rw [Sort.size_grow]; exact Nat.le_add_right _ _
  · exact Sort.heap_grow_old (w.drewN k) os hi

theorem iDec_any (n : Int) (w : World) (h0 : -9223372036854775808 ≤ n) (h1 : n ≤ 9223372036854775807) (htab : Lib.TabIs Tryd.prog w "internal/strconv.uint64pow10" .u64 Lib.pow10Tab) :
    Calls Tryd.prog 14 #[.int .i64 n] w fun e w' => e = .returned (.string ⟨(Lib.itoa n).toArray⟩) ∧ Below w.heap.size w w' := by
  go_enter Tryd.func14, Tryd.ntmps14
  go_wp2_with (go_at_call 26; refine (Tryd.strconv_Itoa n h0 h1 _ htab).mono ?_; rintro e w' ⟨rfl, k, os, rfl⟩)
  go_ret
  exact ⟨rfl, grow_below _ _ _⟩
end Go.Proofs.YtcppgckimbnjbaaDoor
