import Derived.Test.YtbfkdbbgbdihdabUD
namespace Go.Proofs.Ytbfkdbbgbdihdab
open Go Go.Tr
set_option maxRecDepth 100000
set_option maxHeartbeats 4000000
set_option linter.unusedVariables false
set_option linter.unusedSimpArgs false
/-- The cells that are frozen. -/
def hcZ (w : World) (z : Nat → Nat → Prop) : Hc := fun g j v => w.cell? ⟨g, j, none⟩ = some v ∧ scal v = true ∧ z g j
theorem ints_told {w : World} {z f : Nat → Nat → Prop} {xs : List Int} {u : Value} (h : CRel w z ((tI xs).er .fro) f u) : ∃ A c, u = .slice A xs.length c ∧ RowTold (hcZ w z) A xs.length c 1 Int encI 0 xs := by
  obtain ⟨A, c, h1, h2, h3, h4, h5⟩ := h
  refine ⟨A, c, h1, rfl, h2, h3, h4, fun hp => ?_⟩
  obtain ⟨g, o, e1, e2⟩ := h5 hp
  refine ⟨g, o, e1, fun i r hi hr => ?_⟩
  obtain ⟨x, k1, k2, k3⟩ := e2 i r hi hr
  obtain ⟨rfl, k4⟩ := k3
  exact ⟨_, rfl, k1, k4, k2⟩
theorem lists_told {w : World} {z f : Nat → Nat → Prop} {e : Nat} {xs : List (List Int)} {u : Value} (h : CRel w z ((tSL e xs).er .fro) f u) : ∃ A c, ∃ hs : List Hdr, u = .slice A xs.length c ∧ RowTold (hcZ w z) A xs.length c 1 Hdr encH dH hs ∧ Hs (hcZ w z) hs xs := by
  obtain ⟨A, c, h1, h2, h3, h4, h5⟩ := h
  by_cases h0 : xs.length = 0
  · refine ⟨A, c, [], h1, ⟨by rw [h0]; rfl, h2, h3, h4, fun hp => by omega⟩, by rw [h0]; rfl, fun i hi => absurd hi (Nat.not_lt_zero _)⟩
  · obtain ⟨g, o, e1, e2⟩ := h5 (show 0 < xs.length by omega)
    have key : ∀ i : _root_.Fin xs.length, ∃ x : Hdr, w.cell? ⟨g, o + (i.1 * 1 + 0), none⟩ = some (.slice x.1 x.2.1 x.2.2) ∧ z g (o + (i.1 * 1 + 0)) ∧ RowTold (hcZ w z) x.1 x.2.1 x.2.2 1 Int encI 0 (xs.getD i.1 []) := by
      intro i
      obtain ⟨x, k1, k2, k3⟩ := e2 i.1 0 i.2 (by decide)
      obtain ⟨A', c', m1, m2⟩ := ints_told (xs := xs.getD i.1 []) k3
      subst m1
      exact ⟨(A', (xs.getD i.1 []).length, c'), k1, k2, m2⟩
    obtain ⟨F, hF⟩ : ∃ F : _root_.Fin xs.length → Hdr, ∀ i, w.cell? ⟨g, o + (i.1 * 1 + 0), none⟩ = some (.slice (F i).1 (F i).2.1 (F i).2.2) ∧ z g (o + (i.1 * 1 + 0)) ∧ RowTold (hcZ w z) (F i).1 (F i).2.1 (F i).2.2 1 Int encI 0 (xs.getD i.1 []) := ⟨fun i => (key i).choose, fun i => (key i).choose_spec⟩
    have hg : ∀ i (hi : i < xs.length), (List.ofFn F).getD i dH = F ⟨i, hi⟩ := fun i hi => by simp [List.getD, hi]
    refine ⟨A, c, List.ofFn F, h1, ⟨by simp, h2, h3, h4, fun hp => ⟨g, o, e1, fun i r hi hr => ?_⟩⟩, by simp, fun i hi => ?_⟩
    · have hr0 : r = 0 := by omega
      subst hr0
      rw [hg i hi]
      obtain ⟨k1, k2, _⟩ := hF ⟨i, hi⟩
      exact ⟨_, rfl, k1, rfl, k2⟩
    · have hi' : i < xs.length := by simpa using hi
      rw [hg i hi']
      exact (hF ⟨i, hi'⟩).2.2
/-- A contract over two lists of lists out of one over told headers. -/
theorem of_told {f : FuncId} {rest : List TAg} {outs : List TAr} {e e' : Nat} {g o : List (List Int)} (hfn : CallF Try.prog f) (h : ∀ (hc : Hc) (gs os : List Hdr) (A1 A2 : Option Addr) (n1 n2 c1 c2 : Nat), RowTold hc A1 n1 c1 1 Hdr encH dH gs → RowTold hc A2 n2 c2 1 Hdr encH dH os → Hs hc gs g → Hs hc os o →
    RunH Try.prog hc f (.agg [.c (.lit (.slice A1 n1 c1)), .c (.lit (.slice A2 n2 c2))] :: rest) [] outs []) : RunT Try.prog f (.agg [.c (tSL e g), .c (tSL e' o)] :: rest) [] outs [] := by
  refine ⟨hfn, fun w q A cargs hent => ?_⟩
  obtain ⟨u, hu, us, rfl, hsz, hus⟩ := hent.args 0 _ rfl
  obtain ⟨y1, hy1, k1⟩ := hus 0 _ rfl
  obtain ⟨y2, hy2, k2⟩ := hus 1 _ rfl
  have k1 : CRel w (fun b j => q b j = some .fro) ((tSL e g).er .fro) (fun b j' => q b j' = some (.arg 0 0)) y1 := k1
  have k2 : CRel w (fun b j => q b j = some .fro) ((tSL e' o).er .fro) (fun b j' => q b j' = some (.arg 0 1)) y2 := k2
  obtain ⟨A1, c1, gs, rfl, t1, s1⟩ := lists_told (xs := g) k1
  obtain ⟨A2, c2, os, rfl, t2, s2⟩ := lists_told (xs := o) k2
  refine (h _ gs os A1 A2 _ _ c1 c2 t1 t2 s1 s2).run w q A cargs ⟨hent.size, fun i x hi => ?_, fun ρ x hx => by simp at hx, hent.lt⟩ (fun g j v hv => hv)
  cases i with
  | zero =>
    injection hi with hi; subst hi
    refine ⟨_, hu, us, rfl, hsz, fun j c hj => ?_⟩
    match j, hj with
    | 0, hj => injection hj with hj; subst hj; exact ⟨_, hy1, rfl, rfl⟩
    | 1, hj => injection hj with hj; subst hj; exact ⟨_, hy2, rfl, rfl⟩
  | succ i => exact hent.args (i + 1) x hi
theorem Hs.append {hc : Hc} {gs os : List Hdr} {g o : List (List Int)} (h1 : Hs hc gs g) (h2 : Hs hc os o) : Hs hc (gs ++ os) (g ++ o) := by
  refine ⟨by simp [h1.len, h2.len], fun i hi => ?_⟩
  by_cases hl : i < gs.length
  · have e1 : (gs ++ os).getD i dH = gs.getD i dH := by simp [List.getD, List.getElem?_append_left hl]
    have e2 : (g ++ o).getD i [] = g.getD i [] := by simp [List.getD, List.getElem?_append_left (show i < g.length by rw [← h1.len]; exact hl)]
    rw [e1, e2]; exact h1.at_ i hl
  · have e1 : (gs ++ os).getD i dH = os.getD (i - gs.length) dH := by simp [List.getD, List.getElem?_append_right (Nat.le_of_not_lt hl)]
    have e2 : (g ++ o).getD i [] = o.getD (i - gs.length) [] := by rw [h1.len]; simp [List.getD, List.getElem?_append_right (show g.length ≤ i by rw [← h1.len]; omega)]
    rw [e1, e2]; exact h2.at_ _ (by simp at hi; omega)
theorem eachSlot_run (e e' : Nat) (g o : List (List Int)) (hgo : g.length + o.length ≤ 1048576) (hx : ∀ i, ((g ++ o).getD i []).length ≤ 1048576) : RunT Try.prog 37 [.agg [.c (tSL e g), .c (tSL e' o)]] [] [ob (okS [] (g ++ o).flatten)] [] := by
  refine of_told ⟨_, Try.func37, rfl, rfl⟩ (fun hc gs os A1 A2 n1 n2 c1 c2 t1 t2 s1 s2 => ?_)
  exact eachSlot_told gs os (g ++ o) A1 A2 n1 n2 c1 c2 t1 t2 (by rw [s1.len, s2.len]; exact hgo) (s1.append s2) hx
end Go.Proofs.Ytbfkdbbgbdihdab
