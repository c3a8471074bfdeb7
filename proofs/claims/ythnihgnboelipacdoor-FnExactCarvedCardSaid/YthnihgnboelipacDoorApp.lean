/- append of one integer to a row of the call's own. -/
import Derived.Test.YthnihgnboelipacDoorMem
namespace Go.Proofs.YthnihgnboelipacDoor
open Go Go.RowKit

theorem OI_of_owns {w : World} {B : Nat} {v : Value} {n : Nat} {xs : List Int} (hw : ∀ x ∈ xs, (Lit.int .i64 x).wf = true) (h : w.ownsRow B 3 1 v n (xs.map (Value.int .i64))) : ∃ A c, v = .slice A n c ∧ OI w B A n c xs := by
  rcases h.2 with ⟨rfl, rfl⟩ | ⟨g, cap, cur, rfl, _⟩
  · exact ⟨_, _, rfl, hw, h⟩
  · exact ⟨_, _, rfl, hw, h⟩
theorem wpList_appendI {ops : Array Oper} {rest : List Oper} {o : Oper} {a : Act} {Q : Exit → Act → World → Prop} (w : World) (hgd : o.guard = none) (s x : Operand)
    (ho : o.op = .call { callee := .builtin .append, args := #[s, x], argTypes := #[24, 24] })
    (B : Nat) (A : Option Addr) (n c : Nat) (xs : List Int) (hs : a.eval s = .slice A n c) (hown : OI w B A n c xs) (z : Int) (hz : (Lit.int .i64 z).wf = true)
    (hx : a.eval x = .slice (some ⟨w.heap.size, 0, none⟩) 1 1) (hlen : n ≤ 1048576) (hB : B ≤ w.heap.size)
    (h : ∀ A' c' w', OI w' B A' (n + 1) c' (xs ++ [z]) → Below B w w' → wpList Tryd.prog ops Q rest (a.put o.dst (.slice A' (n + 1) c')) w') :
    wpList Tryd.prog ops Q (o :: rest) a (w.alloc (.cells #[.int .i64 z] 3)) := by
  obtain ⟨i0, hi, hz0', hz1', hz2'⟩ := info_parts info_int
  have hb : Below B w (w.alloc (.cells #[.int .i64 z] 3)) := (Below.refl _ _).alloc hB _
  have hl := hown.len
  refine wpList_append_own _ hgd s x 24 ho B 3 i0 (.int .i64 0) 1 8 Tryd.underlying24 hi hz0' hz1' hz2' rfl (by decide) (.slice A n c) n _ hs (hown.2.alloc _)
    ⟨w.heap.size, 0, none⟩ 1 1 [.int .i64 z] hx rfl ?_ ?_ (by unfold maxLen; omega) (by omega) (by simp; omega) ?_
  · intro j u hj
    cases j with
    | zero => simp at hj; subst hj; simp [Addr.add, go_sem]
    | succ j => simp at hj
  · intro u hu; simp at hu; subst hu; rfl
  · intro v' w' h1 h2 h3
    have h1' : w'.ownsRow B 3 1 v' (n + 1) ((xs ++ [z]).map (Value.int .i64)) := by rw [List.map_append]; exact h1
    obtain ⟨A', c', rfl, ho'⟩ := OI_of_owns (fun y hy => by
      rcases List.mem_append.1 hy with hy | hy
      · exact hown.1 y hy
      · rw [List.mem_singleton.1 hy]; exact hz) h1'
    refine h A' c' w' ho' (hb.grown h2 (by simp; omega) (fun k hk => (hown.2.lt k hk).1))
end Go.Proofs.YthnihgnboelipacDoor
