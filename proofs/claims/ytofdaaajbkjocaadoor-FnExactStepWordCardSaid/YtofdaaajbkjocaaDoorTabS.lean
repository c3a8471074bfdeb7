/- What the listed table of step words gives a walk; contracts of StepWord in both packages. -/
import Derived.Test.YtofdaaajbkjocaaDoorChecked
import Derived.Test.YtofdaaajbkjocaaDoorTie
import Derived.Test.YtofdaaajbkjocaaDoorRet
import Derived.Test.YtofdaaajbkjocaaDoorIn
import Derived.Lib.LaidTab
import Derived.LaidMore
import Derived.Below
import Derived.Laws.Rows
namespace Go.Proofs.YtofdaaajbkjocaaDoor
open Go Go.RowKit

/-- An array of strings that reads as the words holds the words, cell for cell. -/
theorem cells_of_words {H : Type} {enc : TypeId × Value → H} {P : Program} {w : World} {base : Nat} {sp : Nat → Bool} {held : Bool} {fuel : Nat} {t e : TypeId} {n : Nat} {cs : List Value} {zs : List (List UInt8)} {p : List MemPlace}
    (ht : P.underlying t = some (.array n e)) (he : P.underlying e = some .string) (hce : P.cellsOf e = 1) (hct : P.cellsOf t = n)
    (h : DataW.trod enc P w base sp held fuel t cs = some (.agg (zs.map fun z => .lit (.string z)), p)) : cs = zs.map fun z => Value.string ⟨z.toArray⟩ := by
  cases fuel with
  | zero => simp [DataW.trod] at h
  | succ fuel =>
    simp only [DataW.trod, ht, hce, hct, Nat.mul_one] at h
    split at h
    case isFalse => cases h
    rename_i hl
    obtain ⟨xs, hm, hx⟩ := Option.map_eq_some_iff.1 h
    have hd : xs.map (·.1) = zs.map fun z => (DataW.lit (.string z) : DataW H) := by
      have := congrArg Prod.fst hx
      simpa using this
    have hxl : xs.length = n := by simpa using Lib.mapM_length hm
    have hzl : zs.length = n := by have := congrArg List.length hd; simp at this; omega
    refine List.ext_getElem? fun i => ?_
    rcases Nat.lt_or_ge i n with hi | hi
    · obtain ⟨b, hb, hf⟩ := Lib.mapM_at hm i i (by simp [hi])
      obtain ⟨s, hc, rfl, _⟩ := DataW.trod_string he hf
      have h1 : cs[i]? = some (.string s) := by
        have := congrArg (·[0]?) hc
        simpa [List.getElem?_take, List.getElem?_drop] using this
      have h2 : (xs.map (·.1))[i]? = some (DataW.lit (.string s.data.toList) : DataW H) := by simp [hb]
      rw [hd] at h2
      simp only [List.getElem?_map, Option.map_eq_some_iff, DataW.lit.injEq, Lit.string.injEq] at h2
      obtain ⟨z, hz, rfl⟩ := h2
      rw [h1, List.getElem?_map, hz]
      cases s; simp
    · rw [List.getElem?_eq_none (by omega), List.getElem?_eq_none (by simp; omega)]

def words : List (List UInt8) := [[112, 105, 110], [110, 101, 120, 116], [104, 101, 97, 100], [119, 97, 108, 107], [109, 97, 114, 107], [99, 104, 101, 99, 107], [97, 108, 108, 111, 99], [108, 111, 99, 107], [118, 97, 108, 105, 100], [102, 105, 110, 100], [115, 116, 101, 112], [99, 117, 116], [102, 105, 108, 108], [108, 105, 110, 107], [117, 110, 108, 111, 99, 107], [114, 101, 116, 105, 114, 101], [117, 110, 100, 111], [100, 114, 111, 112], [117, 110, 112, 105, 110], [116, 101, 108, 108], [97, 100, 118, 97, 110, 99, 101], [99, 111, 108, 108, 101, 99, 116]]
theorem words_datum : (Rows.laid_loop_example_g01538_impl_stepWords : DataW Unit) = .agg (words.map fun z => .lit (.string z)) := by kernel_rfl

/-- The table of step words lies in its block. -/
def TabW (w : World) : Prop := ∃ t fr, w.heap[0]? = some (.cells (words.map fun z => Value.string ⟨z.toArray⟩).toArray t fr)

theorem tabW_of_laid {W : World} {rest : List (String × DataW Unit)}
    (h : laidMet Tryd.prog (("loop.example/g01538/impl.stepWords", Rows.laid_loop_example_g01538_impl_stepWords) :: rest) W) : TabW W := by
  obtain ⟨ps, ⟨g0, t0, cs0, f0, p0, q0, hg0, ht0, hv0, hd0, _, _⟩, _⟩ := h
  obtain rfl := Option.some.inj ((show Tryd.prog.globalNamed "loop.example/g01538/impl.stepWords" = some 0 by kernel_rfl).symm.trans hg0)
  obtain rfl := Option.some.inj ((show (Tryd.prog.globals[0]?).map (·.type) = some 26 by kernel_rfl).symm.trans ht0)
  rw [words_datum] at hd0
  have e := cells_of_words Tryd.underlying26 Tryd.underlying9 (by kernel_rfl) (by kernel_rfl) hd0
  have e2 : cs0 = (words.map fun z => Value.string ⟨z.toArray⟩).toArray := Array.toList_inj.1 (by rw [e])
  subst e2
  unfold World.var? at hv0
  rw [hg0] at hv0
  simp only [Option.bind_some] at hv0
  split at hv0
  · rename_i cs t fr hh
    injection hv0 with hv0
    subst hv0
    exact ⟨t, fr, hh⟩
  · cases hv0

/-- The word of a code. -/
def cw (c : Int) : ByteArray := if inB c 0 21 then ⟨(words.getD c.toNat []).toArray⟩ else ⟨#[]⟩
theorem TabW.cell {w : World} (h : TabW w) (k : Nat) (hk : k < 22) : w.cell? ⟨0, k, none⟩ = some (.string ⟨(words.getD k []).toArray⟩) := by
  obtain ⟨t, fr, h⟩ := h
  rw [cell_of_row w _ k _ t fr h]
  have : k = 0 ∨ k = 1 ∨ k = 2 ∨ k = 3 ∨ k = 4 ∨ k = 5 ∨ k = 6 ∨ k = 7 ∨ k = 8 ∨ k = 9 ∨ k = 10 ∨ k = 11 ∨ k = 12 ∨ k = 13 ∨ k = 14 ∨ k = 15 ∨ k = 16 ∨ k = 17 ∨ k = 18 ∨ k = 19 ∨ k = 20 ∨ k = 21 := by omega
  rcases this with rfl | rfl | rfl | rfl | rfl | rfl | rfl | rfl | rfl | rfl | rfl | rfl | rfl | rfl | rfl | rfl | rfl | rfl | rfl | rfl | rfl | rfl <;> rfl

theorem iStepWord_any (c : Int) (w : World) (ht : TabW w) :
    Calls Tryd.prog 5 #[.int .i64 c] w fun e w' => e = .returned (.string (cw c)) ∧ w = w' := by
  by_cases h0 : c < 0
  · have HZ := Lib.hid (show cw c = ⟨#[]⟩ by rw [cw, if_neg (by rw [inB_iff]; omega)])
    go_enter Tryd.func5, Tryd.ntmps5
    go_wp2
    go_ret
    exact ⟨ret_str HZ.out.symm, rfl⟩
  by_cases h1 : 22 ≤ c
  · have HZ := Lib.hid (show cw c = ⟨#[]⟩ by rw [cw, if_neg (by rw [inB_iff]; omega)])
    go_enter Tryd.func5, Tryd.ntmps5
    go_wp2
    go_ret
    exact ⟨ret_str HZ.out.symm, rfl⟩
  · obtain ⟨k, rfl⟩ : ∃ k : Nat, c = k := ⟨c.toNat, by omega⟩
    have hc := ht.cell k (by omega)
    have HZ := Lib.hid (show cw k = ⟨(words.getD k []).toArray⟩ by rw [cw, if_pos (by rw [inB_iff]; omega)]; rfl)
    generalize (words.getD k []).toArray = S at hc HZ
    go_enter Tryd.func5, Tryd.ntmps5
    go_wp2
    go_ret
    exact ⟨ret_str HZ.out.symm, rfl⟩

set_option maxHeartbeats 2000000 in
theorem sStepWord_any (c : Int) (w : World) :
    Calls Tryd.prog 4 #[.int .i64 c] w fun e w' => e = .returned (.string (cw c)) ∧ Below w.heap.size w w' := by
  cases hb : inB c 0 21
  · have HZ := Lib.hid (show cw c = ⟨#[]⟩ by rw [cw, hb]; rfl)
    go_enter Tryd.func4, Tryd.ntmps4
    go_wp2_with (go_at_call 6; refine (l1In_any _ _ _ _).mono ?_; rintro e w' ⟨rfl, rfl⟩)
    go_ret
    exact ⟨ret_str HZ.out.symm, Below.refl _ _⟩
  · have hi := inB_iff.1 hb
    have : c = 0 ∨ c = 1 ∨ c = 2 ∨ c = 3 ∨ c = 4 ∨ c = 5 ∨ c = 6 ∨ c = 7 ∨ c = 8 ∨ c = 9 ∨ c = 10 ∨ c = 11 ∨ c = 12 ∨ c = 13 ∨ c = 14 ∨ c = 15 ∨ c = 16 ∨ c = 17 ∨ c = 18 ∨ c = 19 ∨ c = 20 ∨ c = 21 := by omega
    rcases this with rfl | rfl | rfl | rfl | rfl | rfl | rfl | rfl | rfl | rfl | rfl | rfl | rfl | rfl | rfl | rfl | rfl | rfl | rfl | rfl | rfl | rfl
    all_goals
      go_enter Tryd.func4, Tryd.ntmps4
      go_wp2_with (go_at_call 6; refine (l1In_any _ _ _ _).mono ?_; rintro e w' ⟨rfl, rfl⟩)
      go_ret
      exact ⟨rfl, (Below.refl _ _).alloc (Nat.le_refl _) _⟩
theorem TabW.below {w w' : World} (h : TabW w) (hb : Below w.heap.size w w') : TabW w' := by
  obtain ⟨t, fr, h⟩ := h
  exact ⟨t, fr, by rw [hb.block _ (Array.getElem?_eq_some_iff.1 h).1]; exact h⟩
end Go.Proofs.YtofdaaajbkjocaaDoor
