import Derived.Test.YtpmhkpmkmbkjbaaDoorVZ
import Derived.Below
/- Strings as literals: length, index, comparison; a byte as a number; a contract of the old form over numbers and strings. -/
set_option linter.unusedVariables false
set_option linter.unusedSimpArgs false
universe u
namespace Go.Tr
open Go Go.RowKit
section
variable {P : Program} {F : Fm} {N : Nat} {G : Gt} {o : Oper} {σ : TS} {k : TS → Prop}
theorem PK.lenS {x : Operand} {t : Nat} {s : ByteArray} {kv : V → Prop} (hop : o.op = .call { callee := .builtin .len, args := #[x], argTypes := #[t] }) (hx : evS σ x = .a (.lit (.string s))) (ht : P.underlying t = some .string) (h : kv (.a (.lit (.int .i64 s.size)))) : PK P F N o σ kv := by
  refine ⟨_, h, fun a w ω β hr => ?_⟩
  have ex : a.eval x = .string s := ev_lit hr (by rw [evS_eq, hx]; rfl)
  refine ⟨.int .i64 s.size, fun w' => ?_, VRel.lit rfl⟩
  generalize a.eval = ρ at ex ⊢
  simp [execOp, hop, go_sem, ex, resolve, invoke, builtin, Builtin.len_, underlying, ht, goInt]
theorem OpK.ixS {t : Nat} {x ix : Operand} {ki : IntKind} {s : ByteArray} {i : Int} (hop : o.op = .index t x ix) (hg : o.guard = none) (hd : okD N o.dst = true) (ht : P.underlying t = some .string) (hx : evS σ x = .a (.lit (.string s))) (hi : evS σ ix = .a (.lit (.int ki i))) {b8 : UInt8} (h0 : 0 ≤ i) (hb : s[i.toNat]? = some b8)
    (h : stO o σ (.a (.lit (.int .u8 b8.toNat))) k) : OpK P F N o σ k :=
  ⟨fun ops Q rest kk => AL.val hg hd (fun a w ω β hr => by
    have ex : a.eval x = .string s := ev_lit hr (by rw [evS_eq, hx]; rfl)
    have ei : a.eval ix = .int ki i := ev_lit hr (by rw [evS_eq, hi]; rfl)
    refine ⟨.int .u8 b8.toNat, ?_, VRel.lit rfl⟩
    generalize a.eval = ρ at ex ei ⊢
    have hi2 : (Instr.index t (.string s) (.int ki i)).run P w = .ok (.int .u8 b8.toNat) w := by
      unfold Instr.index
      simp [asIntOf, go_sem, underlying, ht, h0]
      rw [hb]
      simp [go_sem]
    simp [execOp, hop, go_sem, ex, ei, hi2]) (stO_ok hd kk h)⟩
theorem OpK.cv8 {t u : Nat} {x : Operand} {z : Int} (hop : o.op = .convert t u x) (hg : o.guard = none) (hd : okD N o.dst = true) (ht : P.underlying t = some (.int .u8)) (hu : P.underlying u = some (.int .i64)) (hx : evS σ x = .a (.lit (.int .u8 z))) (hz : 0 ≤ z ∧ z ≤ 255)
    (h : stO o σ (.a (.lit (.int .i64 z))) k) : OpK P F N o σ k :=
  ⟨fun ops Q rest kk => AL.val hg hd (fun a w ω β hr => by
    have ex : a.eval x = .int .u8 z := ev_lit hr (by rw [evS_eq, hx]; rfl)
    refine ⟨.int .i64 z, ?_, VRel.lit rfl⟩
    have hw : IntKind.i64.wrap z = z := IntWalk.i64_in _ (by omega)
    generalize a.eval = ρ at ex ⊢
    simp [execOp, hop, go_sem, ex, convert, underlying, ht, hu, hw]) (stO_ok hd kk h)⟩
theorem PK.neS {t u : Nat} {x y : Operand} {s r : ByteArray} {kv : V → Prop} (bb : Bool) (hop : o.op = .binOp .neq t x y u) (hx : evS σ x = .a (.lit (.string s))) (hy : evS σ y = .a (.lit (.string r))) (ht : P.underlying t = some .string) (hb : (s.toList == r.toList) = bb) (h : kv (.a (.lit (.bool (!bb))))) : PK P F N o σ kv := by
  refine ⟨_, h, fun a w ω β hr => ?_⟩
  have ex : a.eval x = .string s := ev_lit hr (by rw [evS_eq, hx]; rfl)
  have ey : a.eval y = .string r := ev_lit hr (by rw [evS_eq, hy]; rfl)
  refine ⟨.bool (!bb), fun w' => ?_, VRel.lit rfl⟩
  generalize a.eval = ρ at ex ey ⊢
  refine run_bin ρ w' hop (by rw [ex, ey]; rfl) ?_
  rw [ex, ey]
  show (Op.stringOp .neq s r).run P w' = _
  unfold Op.stringOp
  rw [hb]
  rfl
/-- A contract of the old form, over scalars. -/
theorem RunT.of_below {f : FuncId} {vs : List Value} {out : Value} (hfn : CallF P f) (hs : scal out = true) (h : ∀ w, Calls P f vs.toArray w fun e w' => e = .returned out ∧ Below w.heap.size w w') : RunT P f (vs.map fun v => .one (.c (.lit v))) [] [.one (.lit out)] [] := by
  refine ⟨hfn, fun w q A cargs hent => ?_⟩
  have hc : cargs = vs.toArray := by
    apply Array.ext'
    apply List.ext_getElem?
    intro i
    have hsz := hent.size
    simp only [List.length_map] at hsz
    by_cases hi : i < vs.length
    · obtain ⟨u, h1, h2⟩ := hent.args i (.one (.c (.lit vs[i]))) (by simp [hi]; rfl)
      obtain ⟨h2, _⟩ := h2
      rw [Array.getElem?_toList, h1, h2]
      simp [hi]
    · rw [Array.getElem?_toList, Array.getElem?_eq_none (by omega)]
      simp; omega
  subst hc
  refine (h w).mono fun e w' ⟨he, hb⟩ => ?_
  refine ⟨[out], _, _, q, he, ⟨rfl, rfl⟩, ⟨rfl, fun i x hi => ?_, fun ρ x hx => by simp at hx, fun b j x hx => ⟨Nat.lt_of_lt_of_le (hent.lt b j x hx) hb.size, fun hne => .inl ⟨x, hx, hne⟩, fun e => e ▸ hx⟩, ⟨hb.os, hb.tape, hb.output, ⟨hb.size, fun b cur e fz hh => ⟨cur, ?_, rfl⟩⟩, fun b j hlt _ => ?_, fun b hlt _ => hb.block b hlt⟩⟩⟩
  · cases i with
    | zero => injection hi with hi; subst hi; exact ⟨out, rfl, rfl, hs⟩
    | succ i => simp at hi
  · rw [hb.block b (Array.getElem?_eq_some_iff.1 hh).1]; exact hh
  · unfold World.cell?
    simp only [hb.block b hlt]
end
end Go.Tr
