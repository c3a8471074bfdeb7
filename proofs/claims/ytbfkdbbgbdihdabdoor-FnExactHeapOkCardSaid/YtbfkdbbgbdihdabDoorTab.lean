/- What the listed table of slot sizes gives a walk. -/
import Derived.Test.YtbfkdbbgbdihdabDoorChecked
import Derived.Test.YtbfkdbbgbdihdabDoorTie
import Derived.Test.YtbfkdbbgbdihdabDoorRet
import Derived.Lib.LaidTab
import Derived.LaidMore
import Derived.Below
import Derived.Laws.Rows
namespace Go.Proofs.YtbfkdbbgbdihdabDoor
open Go Go.RowKit

theorem sizes_datum : (Rows.laid_loop_example_g01538_impl_slotSizes : DataW Unit) = Lib.tabData .i64 [8, 16, 40] := by kernel_rfl

/-- The table of slot sizes lies in its block. -/
def Tab (w : World) : Prop := ∃ t fr, w.heap[0]? = some (.cells #[.int .i64 8, .int .i64 16, .int .i64 40] t fr)

theorem tab_of_var {W : World} (h : W.var? Tryd.prog "loop.example/g01538/impl.slotSizes" = some #[.int .i64 8, .int .i64 16, .int .i64 40]) : Tab W := by
  unfold World.var? at h
  rw [show Tryd.prog.globalNamed "loop.example/g01538/impl.slotSizes" = some 0 by kernel_rfl] at h
  simp only [Option.bind_some] at h
  split at h
  · rename_i cs t fr hh
    injection h with h
    subst h
    exact ⟨t, fr, hh⟩
  · cases h

theorem tab_of_laid {W : World} {rest : List (String × DataW Unit)}
    (h : laidMet Tryd.prog (("loop.example/g01538/impl.slotSizes", Rows.laid_loop_example_g01538_impl_slotSizes) :: rest) W) : Tab W := by
  obtain ⟨ps, ⟨g0, t0, cs0, f0, p0, q0, hg0, ht0, hv0, hd0, _, _⟩, _⟩ := h
  obtain rfl := Option.some.inj ((show Tryd.prog.globalNamed "loop.example/g01538/impl.slotSizes" = some 0 by kernel_rfl).symm.trans hg0)
  obtain rfl := Option.some.inj ((show (Tryd.prog.globals[0]?).map (·.type) = some 45 by kernel_rfl).symm.trans ht0)
  rw [sizes_datum] at hd0
  refine tab_of_var ?_
  have e := Lib.cells_of_tab Tryd.underlying45 Tryd.underlying3 (by kernel_rfl) (by kernel_rfl) hd0
  rw [hv0, show cs0 = #[.int .i64 8, .int .i64 16, .int .i64 40] from Array.toList_inj.1 e]

theorem Tab.lt {w : World} (h : Tab w) : 0 < w.heap.size := by
  obtain ⟨t, fr, h⟩ := h
  exact (Array.getElem?_eq_some_iff.1 h).1
theorem Tab.below {w w' : World} (h : Tab w) (hb : Below w.heap.size w w') : Tab w' := by
  have hl := h.lt
  obtain ⟨t, fr, h⟩ := h
  exact ⟨t, fr, by rw [hb.block _ hl]; exact h⟩
theorem Tab.belowB {B : Nat} {w w' : World} (h : Tab w) (hB : 0 < B) (hb : Below B w w') : Tab w' := by
  obtain ⟨t, fr, h⟩ := h
  exact ⟨t, fr, by rw [hb.block _ hB]; exact h⟩
theorem Tab.c0 {w : World} (h : Tab w) : w.cell? ⟨0, 0, none⟩ = some (.int .i64 8) := by
  obtain ⟨t, fr, h⟩ := h
  rw [cell_of_row w _ 0 _ t fr h]; rfl
theorem Tab.c1 {w : World} (h : Tab w) : w.cell? ⟨0, 1, none⟩ = some (.int .i64 16) := by
  obtain ⟨t, fr, h⟩ := h
  rw [cell_of_row w _ 1 _ t fr h]; rfl
theorem Tab.c2 {w : World} (h : Tab w) : w.cell? ⟨0, 2, none⟩ = some (.int .i64 40) := by
  obtain ⟨t, fr, h⟩ := h
  rw [cell_of_row w _ 2 _ t fr h]; rfl
end Go.Proofs.YtbfkdbbgbdihdabDoor
