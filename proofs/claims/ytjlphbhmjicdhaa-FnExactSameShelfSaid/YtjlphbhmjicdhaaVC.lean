/- Operations that read no memory: what is left to show. -/
import Derived.Test.YtjlphbhmjicdhaaVB
set_option linter.unusedVariables false
set_option linter.unusedSimpArgs false
namespace Go.Tr
open Go Go.RowKit

def rdI (op : BinOp) (kx : IntKind) (i j : Int) (k : V → Prop) (lf : Prop) : Prop :=
  match op with
  | .eql => k (.a (.lit (.bool (i == j))))
  | .neq => k (.a (.lit (.bool (i != j))))
  | .lss => k (.a (.lit (.bool (decide (i < j)))))
  | .leq => k (.a (.lit (.bool (decide (i ≤ j)))))
  | .gtr => k (.a (.lit (.bool (decide (j < i)))))
  | .geq => k (.a (.lit (.bool (decide (j ≤ i)))))
  | .add => match kx with
    | .i64 => Need (-9223372036854775808 ≤ i + j ∧ i + j ≤ 9223372036854775807) ∧ k (.a (.lit (.int .i64 (i + j))))
    | kx => k (.a (.lit (.int kx (wr kx (i + j)))))
  | .sub => match kx with
    | .i64 => Need (-9223372036854775808 ≤ i - j ∧ i - j ≤ 9223372036854775807) ∧ k (.a (.lit (.int .i64 (i - j))))
    | kx => k (.a (.lit (.int kx (wr kx (i - j)))))
  | .mul => match kx with
    | .i64 => Need (-9223372036854775808 ≤ i * j ∧ i * j ≤ 9223372036854775807) ∧ k (.a (.lit (.int .i64 (i * j))))
    | kx => k (.a (.lit (.int kx (wr kx (i * j)))))
  | .quo => Need (j ≠ 0) ∧ k (.a (.lit (.int kx (wr kx (i.tdiv j)))))
  | .rem => Need (j ≠ 0) ∧ k (.a (.lit (.int kx (i.tmod j))))
  | op => match intOp op kx i j with
    | some (p, v) => Need p ∧ k (.a (.lit v))
    | none => lf

def rdSl (σ : TS) (κ l0 n : Nat) (lo hi : Option Operand) (k : V → Prop) (lf : Prop) : Prop :=
  match lo with
  | none => match hi with
    | none => k (.a (.ref κ l0 n))
    | some y => match evS σ y with
      | .a (.lit (.int _ h)) => Need (0 ≤ h ∧ h ≤ n) ∧ k (.a (.ref κ l0 h.toNat))
      | _ => lf
  | some x => match evS σ x with
    | .a (.lit (.int _ l)) => match hi with
      | none => Need (0 ≤ l ∧ l ≤ n) ∧ k (.a (.ref κ (adN l0 l) (n - l.toNat)))
      | some y => match evS σ y with
        | .a (.lit (.int _ h)) => Need (0 ≤ l ∧ l ≤ h ∧ h ≤ n) ∧ k (.a (.ref κ (adN l0 l) (h.toNat - l.toNat)))
        | _ => lf
    | _ => lf

/-- What an operation that reads no memory gives. -/
def rdP (P : Program) (F : Fm) (N : Nat) (G : Gt) (o : Oper) (σ : TS) (k : V → Prop) : Prop :=
  match o.op with
  | .move x => k (evS σ x)
  | .assign x => match evS σ x with
    | .a (.nil e0 k0) => (match G.T o.type with
      | some ⟨_, .sl e ke _, _⟩ => k (.a (.nil e ke))
      | _ => k (.a (.nil e0 k0)))
    | v => k v
  | .pick c x y => match evS σ c with
    | .a (.lit (.bool b)) => BS b (k (evS σ x)) (k (evS σ y))
    | _ => PK P F N o σ k
  | .binOp op t x y _ => match evS σ x, evS σ y with
    | .a (.lit (.int kx i)), .a (.lit (.int ky j)) => bif decide (ky = kx) then rdI op kx i j k (PK P F N o σ k) else PK P F N o σ k
    | .a (.lit (.bool b)), .a (.lit (.bool c)) => bif Nat.beq t G.tb then (match op with
      | .eql => k (.a (.lit (.bool (b == c))))
      | .neq => k (.a (.lit (.bool (b != c))))
      | _ => PK P F N o σ k) else PK P F N o σ k
    | _, _ => PK P F N o σ k
  | .unOp .not _ x => match evS σ x with
    | .a (.lit (.bool b)) => k (.a (.lit (.bool (!b))))
    | _ => PK P F N o σ k
  | .unOp .neg _ x => match evS σ x with
    | .a (.lit (.int kx i)) => k (.a (.lit (.int kx (wr kx (0 - i)))))
    | _ => PK P F N o σ k
  | .nilCheck x => match evS σ x with
    | .ptr κ i r => k (.ptr κ i r)
    | _ => PK P F N o σ k
  | .fieldAddr s x f => match evS σ x, G.T s with
    | .ptr κ i r, some ⟨_, .st pl, _⟩ => (match pl[f]? with
      | some (off, _) => k (.ptr κ i (r + off))
      | none => PK P F N o σ k)
    | _, _ => PK P F N o σ k
  | .indexAddr t x ix => match evS σ x, evS σ ix, G.T t with
    | .a (.ref κ lo n), .a (.lit (.int _ i)), some ⟨_, .sl _ ke _, _⟩ => (match lkR σ.r κ with
      | some R => bif Nat.beq R.er.k ke then (Need (0 ≤ i ∧ i < n) ∧ k (.ptr κ (adN lo i) 0)) else PK P F N o σ k
      | none => PK P F N o σ k)
    | .ptr κ q r, .a (.lit (.int _ i)), some ⟨_, .arr n _ ke, _⟩ => Need (0 ≤ i ∧ i < n) ∧ k (.ptr κ q (r + i.toNat * ke))
    | _, _, _ => PK P F N o σ k
  | .slice t x lo hi none => match evS σ x, G.T t with
    | .a (.ref κ l0 n), some ⟨_, .sl _ ke _, _⟩ => (match lkR σ.r κ with
      | some R => bif Nat.beq R.er.k ke then rdSl σ κ l0 n lo hi k (PK P F N o σ k) else PK P F N o σ k
      | none => PK P F N o σ k)
    | _, _ => PK P F N o σ k
  | .extract x i => match evS σ x with
    | .tup l => (match l[i]? with
      | some (.tup _) => PK P F N o σ k
      | some v => k v
      | none => PK P F N o σ k)
    | _ => PK P F N o σ k
  | .call ⟨.builtin .len, ⟨[x]⟩, ⟨[t]⟩⟩ => match evS σ x, G.T t with
    | .a (.ref _ _ n), some ⟨_, .sl _ _ _, _⟩ => k (.a (.lit (.int .i64 n)))
    | .a (.nil _ _), some ⟨_, .sl _ _ _, _⟩ => k (.a (.lit (.int .i64 0)))
    | _, _ => PK P F N o σ k
  | _ => PK P F N o σ k

section
variable {P : Program} {F : Fm} {N : Nat} {G : Gt} {o : Oper} {σ : TS} {k : V → Prop}
theorem PK.ok (h : PK P F N o σ k) : ∃ v, k v ∧ Pure1 P F N σ.er o (stV v) := h.h

theorem rdI_ok {op : BinOp} {t u : Nat} {x y : Operand} {kx : IntKind} {i j : Int} {lf : Prop} (hop : o.op = .binOp op t x y u) (hx : σ.er.ev x = .a (.lit (.int kx i))) (hy : σ.er.ev y = .a (.lit (.int kx j)))
    (hl : lf → ∃ v, k v ∧ Pure1 P F N σ.er o (stV v)) (h : rdI op kx i j k lf) : ∃ v, k v ∧ Pure1 P F N σ.er o (stV v) := by
  have main : ∀ (p : Prop) (v : Value), intOp op kx i j = some (p, v) → p → k (.a (.lit v)) → ∃ v, k v ∧ Pure1 P F N σ.er o (stV v) := fun p v h1 h2 h3 => ⟨_, h3, Pure1.int2 hop hx hy h1 h2⟩
  unfold rdI at h
  cases op <;> dsimp only at h
  case add =>
    cases kx <;> dsimp only at h
    case i64 => exact main _ (.int .i64 (wr .i64 (i + j))) rfl trivial (by rw [wr_in h.1.h]; exact h.2)
    all_goals exact main _ _ rfl trivial h
  case sub =>
    cases kx <;> dsimp only at h
    case i64 => exact main _ (.int .i64 (wr .i64 (i - j))) rfl trivial (by rw [wr_in h.1.h]; exact h.2)
    all_goals exact main _ _ rfl trivial h
  case mul =>
    cases kx <;> dsimp only at h
    case i64 => exact main _ (.int .i64 (wr .i64 (i * j))) rfl trivial (by rw [wr_in h.1.h]; exact h.2)
    all_goals exact main _ _ rfl trivial h
  case quo => exact main _ _ rfl h.1.h h.2
  case rem => exact main _ _ rfl h.1.h h.2
  case eql => exact main _ _ rfl trivial h
  case neq => exact main _ _ rfl trivial h
  case lss => exact main _ _ rfl trivial h
  case leq => exact main _ _ rfl trivial h
  case gtr => exact main _ _ rfl trivial h
  case geq => exact main _ _ rfl trivial h
  all_goals (split at h; (rename_i p v he; exact main _ _ he h.1.h h.2); exact hl h)

theorem rdSl_ok (hG : GOk P G) {t e ke bs kt κ l0 n : Nat} {z : List ZC} {x : Operand} {lo hi : Option Operand} {R : TRoot} {lf : Prop} (hop : o.op = .slice t x lo hi none) (ht : G.T t = some ⟨kt, .sl e ke bs, z⟩) (hx : σ.er.ev x = .a (.ref κ l0 n)) (hR : σ.er.rt κ = some R.er) (hke : R.er.k = ke)
    (hl : lf → ∃ v, k v ∧ Pure1 P F N σ.er o (stV v)) (h : rdSl σ κ l0 n lo hi k lf) : ∃ v, k v ∧ Pure1 P F N σ.er o (stV v) := by
  unfold rdSl at h
  cases lo with
  | none =>
    cases hi with
    | none => exact ⟨_, h, by have := Pure1.slice (P := P) (F := F) (N := N) hG.T hop ht hx hR hke (l := 0) (h' := n) (.inl ⟨rfl, rfl⟩) (.inl ⟨rfl, rfl⟩) (by omega); exact this⟩
    | some y =>
      dsimp only at h
      split at h
      · rename_i kk hh he
        obtain ⟨⟨h1⟩, h2⟩ := h
        exact ⟨_, h2, by have := Pure1.slice (P := P) (F := F) (N := N) hG.T hop ht hx hR hke (l := 0) (h' := hh.toNat) (.inl ⟨rfl, rfl⟩) (.inr ⟨y, kk, hh, rfl, by rw [evS_eq, he]; rfl, by omega⟩) (by omega); exact this⟩
      · exact hl h
  | some x' =>
    dsimp only at h
    split at h
    · rename_i kl ll hel
      cases hi with
      | none =>
        obtain ⟨⟨h1⟩, h2⟩ := h
        exact ⟨_, h2, by rw [adN_eq]; exact Pure1.slice (P := P) (F := F) (N := N) hG.T hop ht hx hR hke (l := ll.toNat) (h' := n) (.inr ⟨x', kl, ll, rfl, by rw [evS_eq, hel]; rfl, by omega⟩) (.inl ⟨rfl, rfl⟩) (by omega)⟩
      | some y =>
        dsimp only at h
        split at h
        · rename_i kk hh he
          obtain ⟨⟨h1⟩, h2⟩ := h
          exact ⟨_, h2, by rw [adN_eq]; exact Pure1.slice (P := P) (F := F) (N := N) hG.T hop ht hx hR hke (l := ll.toNat) (h' := hh.toNat) (.inr ⟨x', kl, ll, rfl, by rw [evS_eq, hel]; rfl, by omega⟩) (.inr ⟨y, kk, hh, rfl, by rw [evS_eq, he]; rfl, by omega⟩) (by omega)⟩
        · exact hl h
    · exact hl h

theorem rdP_ok (hG : GOk P G) (h : rdP P F N G o σ k) : ∃ v, k v ∧ Pure1 P F N σ.er o (stV v) := by
  unfold rdP at h
  split at h
  · rename_i x hop
    exact ⟨_, h, by rw [← evS_eq]; exact Pure1.move (.inl hop)⟩
  · rename_i x hop
    split at h
    · rename_i e0 k0 he
      split at h
      · exact ⟨_, h, Pure1.nilTy (.inr hop) (by rw [evS_eq, he]; rfl)⟩
      · exact ⟨_, h, Pure1.nilTy (.inr hop) (by rw [evS_eq, he]; rfl)⟩
    · exact ⟨_, h, by rw [← evS_eq]; exact Pure1.move (.inr hop)⟩
  · rename_i c x y hop
    split at h
    · rename_i b he
      have hp := Pure1.pick (P := P) (F := F) (N := N) (σ := σ.er) hop (by rw [evS_eq, he]; rfl)
      rcases h.ok with ⟨rfl, h⟩ | ⟨rfl, h⟩
      · exact ⟨_, h, by rw [← evS_eq]; exact hp⟩
      · exact ⟨_, h, by rw [← evS_eq]; exact hp⟩
    · exact h.ok
  · rename_i op t x y u hop
    split at h
    · rename_i kx i ky j hx hy
      by_cases hk : ky = kx
      · subst hk
        simp only [decide_true, cond_true] at h
        exact rdI_ok hop (by rw [evS_eq, hx]; rfl) (by rw [evS_eq, hy]; rfl) PK.ok h
      · simp only [hk, decide_false, cond_false] at h
        exact h.ok
    · rename_i b c hx hy
      by_cases ht : t = G.tb
      · subst ht
        simp only [beq_dec, decide_true, cond_true] at h
        split at h
        · exact ⟨_, h, Pure1.nil' hop (by rw [evS_eq, hx]; rfl) (by rw [evS_eq, hy]; rfl) hG.b (.inl ⟨rfl, rfl⟩)⟩
        · exact ⟨_, h, Pure1.nil' hop (by rw [evS_eq, hx]; rfl) (by rw [evS_eq, hy]; rfl) hG.b (.inr ⟨rfl, rfl⟩)⟩
        · exact h.ok
      · simp only [beq_dec, ht, decide_false, cond_false] at h
        exact h.ok
    · exact h.ok
  · rename_i t x hop
    split at h
    · rename_i b he
      exact ⟨_, h, Pure1.not hop (by rw [evS_eq, he]; rfl)⟩
    · exact h.ok
  · rename_i t x hop
    split at h
    · rename_i kx i he
      exact ⟨_, h, Pure1.neg hop (by rw [evS_eq, he]; rfl)⟩
    · exact h.ok
  · rename_i x hop
    split at h
    · rename_i κ i r he
      exact ⟨_, h, Pure1.nilCheck hop (by rw [evS_eq, he]; rfl)⟩
    · exact h.ok
  · rename_i s x f hop
    split at h
    · rename_i κ i r m pl z he ht
      split at h
      · rename_i off sz hf
        exact ⟨_, h, Pure1.fieldAddr hG.T hop (by rw [evS_eq, he]; rfl) ht hf⟩
      · exact h.ok
    · exact h.ok
  · rename_i t x ix hop
    split at h
    · rename_i κ lo n ki i kt e ke bs z hx hi ht
      split at h
      · rename_i R hR
        by_cases hk : R.er.k = ke
        · simp only [hk, beq_dec, decide_true, cond_true] at h
          exact ⟨_, h.2, by rw [adN_eq]; exact Pure1.indexSl hG.T hop (by rw [evS_eq, hx]; rfl) (by rw [evS_eq, hi]; rfl) ht (TS.rt_some hR) hk h.1.h⟩
        · simp only [beq_dec, hk, decide_false, cond_false] at h
          exact h.ok
      · exact h.ok
    · rename_i κ q r ki i kt n e ke z hx hi ht
      exact ⟨_, h.2, Pure1.indexArr hG.T hop (by rw [evS_eq, hx]; rfl) (by rw [evS_eq, hi]; rfl) ht h.1.h⟩
    · exact h.ok
  · rename_i t x lo hi hop
    split at h
    · rename_i κ l0 n kt e ke bs z hx ht
      split at h
      · rename_i R hR
        by_cases hk : R.er.k = ke
        · simp only [hk, beq_dec, decide_true, cond_true] at h
          exact rdSl_ok hG hop ht (by rw [evS_eq, hx]; rfl) (TS.rt_some hR) hk PK.ok h
        · simp only [beq_dec, hk, decide_false, cond_false] at h
          exact h.ok
      · exact h.ok
    · exact h.ok
  · rename_i x i hop
    split at h
    · rename_i l he
      split at h
      · exact h.ok
      · rename_i v hnt hv
        refine ⟨_, h, Pure1.extract hop (by rw [evS_eq, he]; rfl) ?_⟩
        rw [List.getElem?_map, hv]
        cases v with
        | tup l' => exact absurd rfl (hnt l')
        | _ => rfl
      · exact h.ok
    · exact h.ok
  · rename_i x t hop
    split at h
    · rename_i κ lo n kt e ke bs z hx ht
      exact ⟨_, h, Pure1.len hG.T hop (by rw [evS_eq, hx]; rfl) ht⟩
    · rename_i e0 k0 kt e ke bs z hx ht
      exact ⟨_, h, Pure1.lenNil hG.T hop (by rw [evS_eq, hx]; rfl) ht⟩
    · exact h.ok
  · exact h.ok
end
end Go.Tr
