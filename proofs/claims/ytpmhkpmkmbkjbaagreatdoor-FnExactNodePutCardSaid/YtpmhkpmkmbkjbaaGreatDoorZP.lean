import Derived.Test.YtpmhkpmkmbkjbaaGreatDoorChecked
import Derived.WalkKit
import Derived.Test.YtpmhkpmkmbkjbaaGreatDoorTie
import Derived.Lib.LaidTab
import Derived.LaidMore
import Derived.Below
import Derived.Laws.Rows
import Derived.Test.YtpmhkpmkmbkjbaaGreatDoorVP
import Derived.Test.YtpmhkpmkmbkjbaaGreatDoorZB
section
/- Equal values make equal endings. -/
namespace Go.Proofs.YtpmhkpmkmbkjbaaGreatDoor
open Go
theorem ret_str {a b : ByteArray} (h : a = b) : Ending.returned (.string a) = .returned (.string b) := by rw [h]
theorem ret_int {k : IntKind} {a b : Int} (h : a = b) : Ending.returned (.int k a) = .returned (.int k b) := by rw [h]
theorem ret_bool {a b : Bool} (h : a = b) : Ending.returned (.bool a) = .returned (.bool b) := by rw [h]
theorem ret_ii {a b c d : Int} (h : a = c) (h' : b = d) : Ending.returned (.tuple #[.int .i64 a, .int .i64 b]) = .returned (.tuple #[.int .i64 c, .int .i64 d]) := by rw [h, h']
theorem ret_ib {a b : Int} {c d : Bool} (h : a = b) (h' : c = d) : Ending.returned (.tuple #[.int .i64 a, .bool c]) = .returned (.tuple #[.int .i64 b, .bool d]) := by rw [h, h']
theorem ret_vb {v : Value} {c d : Bool} (h' : c = d) : Ending.returned (.tuple #[v, .bool c]) = .returned (.tuple #[v, .bool d]) := by rw [h']
end Go.Proofs.YtpmhkpmkmbkjbaaGreatDoor
end

section
/- What the listed table of slot sizes gives a walk. -/
namespace Go.Proofs.YtpmhkpmkmbkjbaaGreatDoor
open Go Go.RowKit

theorem sizes_datum : (Rows.laid_loop_example_g01538_impl_slotSizes : DataW Unit) = Lib.tabData .i64 [8, 16, 40] := by kernel_rfl

/-- The table of slot sizes lies in its block. -/
def Tab (w : World) : Prop := ∃ t fr, w.heap[0]? = some (.cells #[.int .i64 8, .int .i64 16, .int .i64 40] t fr)

theorem tab_of_var {W : World} (h : W.var? Tryz.prog "loop.example/g01538/impl.slotSizes" = some #[.int .i64 8, .int .i64 16, .int .i64 40]) : Tab W := by
  unfold World.var? at h
  rw [show Tryz.prog.globalNamed "loop.example/g01538/impl.slotSizes" = some 0 by kernel_rfl] at h
  simp only [Option.bind_some] at h
  split at h
  · rename_i cs t fr hh
    injection h with h
    subst h
    exact ⟨t, fr, hh⟩
  · cases h

theorem tab_of_laid {W : World} {rest : List (String × DataW Unit)}
    (h : laidMet Tryz.prog (("loop.example/g01538/impl.slotSizes", Rows.laid_loop_example_g01538_impl_slotSizes) :: rest) W) : Tab W := by
  obtain ⟨ps, ⟨g0, t0, cs0, f0, p0, q0, hg0, ht0, hv0, hd0, _, _⟩, _⟩ := h
  obtain rfl := Option.some.inj ((show Tryz.prog.globalNamed "loop.example/g01538/impl.slotSizes" = some 0 by kernel_rfl).symm.trans hg0)
  obtain rfl := Option.some.inj ((show (Tryz.prog.globals[0]?).map (·.type) = some 165 by kernel_rfl).symm.trans ht0)
  rw [sizes_datum] at hd0
  refine tab_of_var ?_
  have e := Lib.cells_of_tab Tryz.underlying165 Tryz.underlying3 (by kernel_rfl) (by kernel_rfl) hd0
  rw [hv0, show cs0 = #[.int .i64 8, .int .i64 16, .int .i64 40] from Array.toList_inj.1 e]

theorem Tab.lt {w : World} (h : Tab w) : 0 < w.heap.size := by
  obtain ⟨t, fr, h⟩ := h
  exact (Array.getElem?_eq_some_iff.1 h).1
theorem Tab.below {w w' : World} (h : Tab w) (hb : Below w.heap.size w w') : Tab w' := by
  have hl := h.lt
  obtain ⟨t, fr, h⟩ := h
  exact ⟨t, fr, by rw [hb.block _ hl]; exact h⟩
theorem Tab.belowB {B : Nat} {w w' : World} (h : Tab w) (hB : 0 < B) (hb : Below B w w') : Tab w' := by
  obtain ⟨t, fr, h⟩ := h
  exact ⟨t, fr, by rw [hb.block _ hB]; exact h⟩
theorem Tab.c0 {w : World} (h : Tab w) : w.cell? ⟨0, 0, none⟩ = some (.int .i64 8) := by
  obtain ⟨t, fr, h⟩ := h
  rw [cell_of_row w _ 0 _ t fr h]; rfl
theorem Tab.c1 {w : World} (h : Tab w) : w.cell? ⟨0, 1, none⟩ = some (.int .i64 16) := by
  obtain ⟨t, fr, h⟩ := h
  rw [cell_of_row w _ 1 _ t fr h]; rfl
theorem Tab.c2 {w : World} (h : Tab w) : w.cell? ⟨0, 2, none⟩ = some (.int .i64 40) := by
  obtain ⟨t, fr, h⟩ := h
  rw [cell_of_row w _ 2 _ t fr h]; rfl
end Go.Proofs.YtpmhkpmkmbkjbaaGreatDoor
end

section
/- A law's frame where a table is told. -/
namespace Go.Tr
open Go Go.RowKit
theorem RunP.args {P : Program} {hc : Hc} {f : FuncId} {args args' : List Ag} {ext : List Xr} {Post : List Ar → List Xr → Prop} (hs : AgsSim args args') (h : RunP P hc f args' ext Post) : RunP P hc f args ext Post := by
  intro w q A cargs he ha
  obtain ⟨f1, f2⟩ := hs.get
  refine h w q A cargs ⟨by rw [he.size, f1], fun i y hi => ?_, he.ext, he.lt⟩ ha
  obtain ⟨x, g1, g2⟩ := f2 i y hi
  obtain ⟨u, k1, k2⟩ := he.args i x g1
  exact ⟨u, k1, g2.rel k2⟩
section
variable {P : Program} {W : World}
theorem RunP.law {hc : Hc} {f : FuncId} {args : List Ag} {cargs : Array Value} (hrun : RunP P hc f args [] fun outs ext => outs = [.one (.lit (.bool true))] ∧ ext = []) (hc' : ∀ g j v, hc g j v → W.cell? ⟨g, j, none⟩ = some v ∧ scal v = true) (hsz : cargs.size = args.length)
    (hargs : ∀ (i : Nat) (x : Ag), args[i]? = some x → ∃ u, cargs[i]? = some u ∧ AgRel W (qAll W) (fun _ => ⟨none, 0⟩) i x u) :
    Calls P f cargs W fun e w' => e = .returned (.bool true) ∧ Below W.heap.size W w' := by
  refine (hrun W (qAll W) (fun _ => ⟨none, 0⟩) cargs ⟨hsz, hargs, fun ρ x h => by simp at h, fun b j x hx => ?_⟩ (fun g j v hm => ?_)).mono fun e w' h => ?_
  · unfold qAll at hx
    split at hx
    · rename_i hh; obtain ⟨v, hv⟩ := hh; exact World.block_lt_of_cell? W ⟨b, j, none⟩ hv
    · cases hx
  · obtain ⟨h1, h2⟩ := hc' g j v hm
    exact ⟨h1, h2, qAll_fro ⟨v, h1⟩⟩
  · obtain ⟨us, outs, ext, q', rfl, ⟨rfl, rfl⟩, hx⟩ := h
    match us, hx.size with
    | [u], _ =>
      obtain ⟨u', hu, hr⟩ := hx.outs 0 _ rfl
      injection hu with hu; subst hu
      obtain ⟨hr, _⟩ := hr
      refine ⟨by rw [hr]; rfl, hx.fr.os, hx.fr.tape, hx.fr.output, hx.fr.mt.size, fun k hk => ?_⟩
      have hkk : W.heap[k]? = some W.heap[k] := Array.getElem?_eq_getElem hk
      cases ho : W.heap[k] with
      | cells cur e fz =>
        rw [ho] at hkk
        obtain ⟨cur', h1, h2⟩ := hx.fr.mt.blk k cur e fz hkk
        rw [hkk, h1]
        have : cur' = cur := by
          apply Array.ext_getElem?
          intro j
          have := hx.fr.cell k j hk (qAll_wof k j)
          simpa [World.cell?, hkk, h1] using this
        rw [this]
      | _ => exact hx.fr.other k hk (fun cur e fz hh => by rw [hkk, ho] at hh; cases hh)
end
end Go.Tr
namespace Go.Proofs.YtpmhkpmkmbkjbaaGreatDoor
open Go Go.Tr Go.RowKit
theorem hT_of {W : World} (ht : Tab W) : ∀ g j v, hT g j v → W.cell? ⟨g, j, none⟩ = some v ∧ scal v = true := by
  intro g j v h
  simp only [hT, hcL, List.mem_cons, List.not_mem_nil, or_false, Prod.mk.injEq] at h
  rcases h with ⟨rfl, rfl, rfl⟩ | ⟨rfl, rfl, rfl⟩ | ⟨rfl, rfl, rfl⟩
  · exact ⟨ht.c0, rfl⟩
  · exact ⟨ht.c1, rfl⟩
  · exact ⟨ht.c2, rfl⟩
end Go.Proofs.YtpmhkpmkmbkjbaaGreatDoor
end
