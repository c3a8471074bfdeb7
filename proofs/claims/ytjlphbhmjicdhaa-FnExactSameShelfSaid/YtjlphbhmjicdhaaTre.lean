/- Rules: a nil slice becomes a root; loops with three things that turn; guarded operations of a region whose order is drawn. -/
import Derived.Test.YtjlphbhmjicdhaaTrd
namespace Go.Tr
open Go Go.RowKit
section
variable {P : Program} {F : Fm} {N : Nat} {Q : Exit → St → Prop} {σ : St} {ops : Array Oper} {o : Oper} {rest : List Oper}
theorem AC.nilRoot {c : Code} {t d e0 k0 : Nat} (e k : Nat) (ht : σ.tv t = .a (.nil e0 k0)) (hd' : d < 1000000) (hd : σ.rt d = none) (h : AC P F N c Q ((σ.setR d (nilR e k)).put t (.a (.ref d 0 0)))) : AC P F N c Q σ := by
  intro a w hr
  obtain ⟨ω, β, h1⟩ := hr
  obtain ⟨ω', β', h2⟩ := h1.nilRoot e k ht (okK_lt hd') hd
  exact h a w ⟨ω', β', h2⟩
theorem AC.loop3 {c : Code} (S : Nat → Nat → (Nat → Int) → St) (p : Nat → Nat → (Nat → Int) → Prop) (M : Nat → Nat) (i0 m0 : Nat) (f0 : Nat → Int) (hp : p i0 m0 f0) (h0 : σ.le (S i0 m0 f0))
    (round : ∀ i m f, p i m f → AC P F N c (AThen (fun s => ∃ j m' f', p j m' f' ∧ M j < M i ∧ s.le (S j m' f')) Q) (S i m f)) : AC P F N (.loop c) Q σ :=
  AC.loopS (ι := {x : Nat × Nat × (Nat → Int) // p x.1 x.2.1 x.2.2}) (fun x => S x.1.1 x.1.2.1 x.1.2.2) (fun x => M x.1.1) ⟨(i0, m0, f0), hp⟩ h0 fun x => AC.mono (round x.1.1 x.1.2.1 x.1.2.2 x.2) fun e s h => by
    cases e with
    | normal =>
      obtain ⟨j, m', f', h1, h2, h3⟩ := h
      exact ⟨⟨(j, m', f'), h1⟩, h2, h3⟩
    | exit id => exact h
    | goto l => exact h
    | ret => exact h
    | panic c => exact h
    | outgrown => exact h
theorem guard_val {a : Act} {w : World} {ω : Om} {β : Nat → Bs} (h : Rel1 F N σ a w ω β) {j dj : Nat} {b c : Bool} {oj : Oper} (hg : o.guard = some (j, b)) (hj : ops[j]? = some oj) (hdj : oj.dst = some dj) (hb : σ.tv dj = .a (.lit (.bool c))) (hN : dj < N) : Region.wanted o (yielded ops a.tmps) = (c == b) := by
  have hv : a.tmps.getD dj undef = .bool c := by have := h.tmps dj; rw [hb] at this; exact this.1
  have h2 : a.tmps[dj]? = some (.bool c) := by
    have : dj < a.tmps.size := by rw [h.tsz]; exact hN
    rw [Array.getElem?_eq_getElem this]
    rw [Array.getD_eq_getD_getElem?, Array.getElem?_eq_getElem this] at hv
    rw [← hv]; rfl
  cases b <;> cases c <;> simp [Region.wanted, hg, yielded, hj, hdj, h2]
/-- A guarded operation of a drawn region is wanted and reads no memory. -/
theorem AY.takeOn {fuel : Nat} {listed : Array Bool} (i : Nat) {v : V} {j dj : Nat} {b c : Bool} {oj : Oper} (hi : ops[i]? = some o) (hg : o.guard = some (j, b)) (hj : ops[j]? = some oj) (hdj : oj.dst = some dj) (hb : σ.tv dj = .a (.lit (.bool c))) (hN : dj < N) (hc : c = b) (hs : Region.noSelect ops = true) (hf : Region.free .any ops listed i = true) (hr : (Region.ready .any ops listed).contains i = true)
    (hnp : ∀ c s, ¬ Q (.panic c) s) (hd : okD N o.dst = true) (hy : Pure1 P F N σ o v) (k : AY P F N ops Q fuel (listed.setIfInBounds i true) (σ.putO o.dst v)) : AY P F N ops Q (fuel + 1) listed σ := by
  intro a w hr'
  obtain ⟨ω, β, h⟩ := hr'
  obtain ⟨u, h1, h2⟩ := hy a w ω β h
  refine wpAny_take hi hs hf hr (fun c a w hq => ?_) (.inl ⟨by rw [guard_val h hg hj hdj hb hN, hc]; simp, h1⟩) (k _ _ ⟨ω, β, h.putO hd h2⟩)
  obtain ⟨s, hq, _⟩ := hq
  exact absurd hq (hnp c s)
/-- A guarded operation of a drawn region is not wanted. -/
theorem AY.takeOff {fuel : Nat} {listed : Array Bool} (i : Nat) {j dj : Nat} {b c : Bool} {oj : Oper} (hi : ops[i]? = some o) (hg : o.guard = some (j, b)) (hj : ops[j]? = some oj) (hdj : oj.dst = some dj) (hb : σ.tv dj = .a (.lit (.bool c))) (hN : dj < N) (hc : c = !b) (hs : Region.noSelect ops = true) (hf : Region.free .any ops listed i = true) (hr : (Region.ready .any ops listed).contains i = true)
    (hnp : ∀ c s, ¬ Q (.panic c) s) (hd : okD N o.dst = true) (k : AY P F N ops Q fuel (listed.setIfInBounds i true) (σ.putO o.dst .any)) : AY P F N ops Q (fuel + 1) listed σ := by
  intro a w hr'
  obtain ⟨ω, β, h⟩ := hr'
  refine wpAny_take hi hs hf hr (fun c a w hq => ?_) (.inr ⟨by rw [guard_val h hg hj hdj hb hN, hc]; cases b <;> rfl, rfl⟩) (k _ _ ⟨ω, β, h.putO hd trivial⟩)
  obtain ⟨s, hq, _⟩ := hq
  exact absurd hq (hnp c s)
end
end Go.Tr
