/- Bytes that a call makes itself: a slice of bytes known by its list; append of one byte; conversion to a string. -/
import Derived.Test.YtcppgckimbnjbaaDoorChecked
import Derived.WalkKit
import Derived.Handy
import Derived.Lib.Hide
import Derived.Laws.BytesArg
namespace Go.Proofs.YtcppgckimbnjbaaDoor
open Go Go.RowKit

theorem info_u8 : (Tryd.prog.info? 5).map (fun i => (i.zero, i.size, i.bytes)) = some (some (.int .u8 0), 1, 1) := by kernel_rfl

/-- The value v is a slice of the call's own (from block B on) that holds the bytes l. -/
def ownsB (w : World) (B : Nat) (v : Value) (l : List UInt8) : Prop :=
  w.ownsRow B 5 1 v l.length (l.map fun c => .int .u8 (c.toNat : Int))

theorem ownsB_kept {w w' : World} {B : Nat} {v : Value} {l : List UInt8} (h : ownsB w B v l) (hb : Below w.heap.size w w') : ownsB w' B v l := by
  refine World.ownsRow.kept (row := none) h ⟨hb.os, hb.tape, hb.output, hb.size, fun k hk _ => hb.block k hk⟩ ?_
  cases hv : v.ownBlock with
  | none => exact .inl rfl
  | some k => exact .inr (by simp)

theorem wpList_append8 {ops : Array Oper} {rest : List Oper} {o : Oper} {a : Act} {Q : Exit → Act → World → Prop} (w : World) (hgd : o.guard = none) (s x : Operand)
    (ho : o.op = .call { callee := .builtin .append, args := #[s, x], argTypes := #[22, 22] })
    (B : Nat) (v : Value) (l : List UInt8) (hs : a.eval s = v) (hown : ownsB w B v l) (z : Int) (hz0 : 0 ≤ z) (hz1 : z ≤ 255)
    (hx : a.eval x = .slice (some ⟨w.heap.size, 0, none⟩) 1 1) (hlen : l.length ≤ 140737488355327) (hB : B ≤ w.heap.size)
    (h : ∀ v' w', ownsB w' B v' (l ++ [UInt8.ofNat z.toNat]) → Below B w w' → v' ≠ .slice none 0 0 → wpList Tryd.prog ops Q rest (a.put o.dst v') w') :
    wpList Tryd.prog ops Q (o :: rest) a (w.alloc (.cells #[.int .u8 z] 5)) := by
  obtain ⟨i0, hi, hz0', hz1', hz2'⟩ := info_parts info_u8
  have hb : Below B w (w.alloc (.cells #[.int .u8 z] 5)) := (Below.refl _ _).alloc hB _
  have ez : ((UInt8.ofNat z.toNat).toNat : Int) = z := by simp; omega
  refine wpList_append_own _ hgd s x 22 ho B 5 i0 (.int .u8 0) 1 1 Tryd.underlying22 hi hz0' hz1' hz2' rfl (by decide) v l.length _ hs (hown.alloc _)
    ⟨w.heap.size, 0, none⟩ 1 1 [.int .u8 z] hx rfl ?_ ?_ (by unfold maxLen; omega) (by omega) (by simp; omega) ?_
  · intro j u hj
    cases j with
    | zero => simp at hj; subst hj; simp [Addr.add, go_sem]
    | succ j => simp at hj
  · intro u hu; simp at hu; subst hu; rfl
  · intro v' w' h1 h2 h3
    refine h v' w' ?_ (hb.grown h2 (by simp; omega) (fun k hk => (hown.lt k hk).1)) (fun e => by have := h3.1 e; simp at this)
    unfold ownsB
    rw [List.length_append, List.map_append, List.map_cons, List.map_nil, ez]; exact h1

theorem conv_own {w : World} {B : Nat} {v : Value} {l : List UInt8} (h : ownsB w B v l) :
    (convert 22 9 v).run Tryd.prog w = .ok (.string ⟨l.toArray⟩) w := by
  have h' := h
  obtain ⟨hl, hv⟩ := h
  rcases hv with ⟨rfl, h0⟩ | ⟨g, cap, cur, rfl, hb, hg, hnc, hcm, hcs, htake⟩
  · have : l = [] := List.length_eq_zero_iff.1 h0
    subst this
    have := run_convert_bytes_nil (P := Tryd.prog) w 22 5 Tryd.underlying22 Tryd.underlying5 0 0 9 Tryd.underlying9
    exact this
  · have := run_convert_bytes_arg (P := Tryd.prog) w 22 5 Tryd.underlying22 Tryd.underlying5 g 0 l.length cap (l.map fun c => (c.toNat : Int)) (by simp) (fun i hi => by
        have := World.ownsRow.cellAt h' i (by omega)
        rw [Nat.zero_add, this]
        simp [List.getD, hi]) 9 Tryd.underlying9
    rw [this]
    simp [strOfNums, Function.comp_def]

/-- append of several bytes that lie in a new block, as a step of a region that draws, and as an operation. -/
theorem step_appendB {ops : Array Oper} {o : Oper} {a : Act} {K : Act → World → Prop} {Q : Exit → Act → World → Prop} {E : Prop} (w : World) (hgd : o.guard = none) (s x : Operand)
    (ho : o.op = .call { callee := .builtin .append, args := #[s, x], argTypes := #[22, 22] })
    (B : Nat) (v : Value) (l : List UInt8) (hs : a.eval s = v) (hown : ownsB w B v l) (cs : Array Value) (news : List UInt8) (hcs : cs.toList = news.map fun c => .int .u8 (c.toNat : Int)) (hnn : news ≠ [])
    (n : Nat) (hn : n = news.length) (g : Nat) (hx : a.eval x = .slice (some ⟨g, 0, none⟩) n n) (hg : g = w.heap.size) (hlen : l.length + news.length ≤ 140737488355328) (hB : B ≤ w.heap.size)
    (h : ∀ v' w', ownsB w' B v' (l ++ news) → Below B w w' → v' ≠ .slice none 0 0 → K (a.put o.dst v') w') :
    if Region.wanted o (yielded ops a.tmps) = true then Oper.wp Tryd.prog o a (w.alloc (.cells cs 5)) K Q else E := by
  have hw : Region.wanted o (yielded ops a.tmps) = true := by simp [Region.wanted, hgd]
  rw [if_pos hw]
  subst hg hn
  obtain ⟨i0, hi, hz0', hz1', hz2'⟩ := info_parts info_u8
  have hb : Below B w (w.alloc (.cells cs 5)) := (Below.refl _ _).alloc hB _
  refine wp_append_own _ s x 22 ho B 5 i0 (.int .u8 0) 1 1 Tryd.underlying22 hi hz0' hz1' hz2' rfl (by decide) v l.length _ hs (hown.alloc _)
    ⟨w.heap.size, 0, none⟩ news.length news.length (news.map fun c => .int .u8 (c.toNat : Int)) hx (by simp) ?_ ?_ (by unfold maxLen; omega) (by omega) (by simp; omega) ?_
  · intro j u hj
    rw [← hcs] at hj
    rw [Addr.add_lit, Nat.zero_add, World.cell?_alloc_at _ _ _ _ rfl]
    simpa using hj
  · intro u hu; obtain ⟨c, _, rfl⟩ := List.mem_map.1 hu; rfl
  · intro v' w' h1 h2 h3
    refine h v' w' ?_ (hb.grown h2 (by simp; omega) (fun k hk => (hown.lt k hk).1)) (fun e => by have := h3.1 e; simp at this; exact hnn this.2)
    unfold ownsB
    rw [List.length_append, List.map_append]; exact h1

/-- An empty literal []byte{}, and make([]byte, 0, n) with n written out. -/
theorem ownsB_lit (w : World) (B : Nat) (hB : B ≤ w.heap.size) : ownsB (w.alloc (.cells #[] 5)) B (.slice (some ⟨w.heap.size, 0, none⟩) 0 0) [] :=
  World.ownsRow_lit w #[] 0 hB (by decide) rfl
end Go.Proofs.YtcppgckimbnjbaaDoor
