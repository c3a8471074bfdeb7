/- Contracts of chapter 3's writers: a copy, a number stored into a row of the call's own. -/
import Derived.Test.YthnihgnboelipaaBy2
import Derived.Test.YthnihgnboelipaaFxB
import Derived.Test.YthnihgnboelipaaShelf
namespace Go.Proofs.Ythnihgnboelipaa
open Go Go.RowKit

theorem OI.nil_ {w : World} {B : Nat} {A : Option Addr} {n c : Nat} {xs : List Int} (h : OI w B A n c xs) : A = none → n = 0 ∧ c = 0 := by
  intro e
  rcases h.2.2 with ⟨h1, _⟩ | ⟨g, cap, cur, h1, _⟩
  · injection h1 with _ h2 h3; exact ⟨h2, h3⟩
  · injection h1 with h1; rw [e] at h1; cases h1

theorem OI_of_own {w w' : World} {v : Value} {n : Nat} {xs : List Int} (hw : ∀ x ∈ xs, (Lit.int .i64 x).wf = true) (h : w'.ownsRow w.heap.size 3 1 v n (xs.map (Value.int .i64))) : ∃ A c, v = .slice A n c ∧ OI w' w.heap.size A n c xs := by
  rcases h.2 with ⟨rfl, rfl⟩ | ⟨g, cap, cur, rfl, _⟩
  · exact ⟨_, _, rfl, hw, h⟩
  · exact ⟨_, _, rfl, hw, h⟩

theorem OI_nil (w : World) (B : Nat) : OI w B none 0 0 [] := ⟨by simp, World.ownsRow_nil w B _ 1⟩

theorem clone_any (A : Option Addr) (n c : Nat) (xs : List Int) (w : World) (h : RI w A n xs) (hA : A = none → n = 0 ∧ c = 0) (hn : n ≤ 1048576) :
    Calls Try.prog 42 #[.slice A n c] w (RetI w n xs) := by
  rcases A with _ | ⟨b, o, s⟩
  · obtain ⟨rfl, rfl⟩ := hA rfl
    have hx : xs = [] := List.length_eq_zero_iff.1 h.1
    subst hx
    refine (Try.slices_Clone_int_nil 0 0 w).mono ?_
    rintro e w' ⟨rfl, rfl⟩
    exact ⟨_, _, rfl, OI_nil _ _, Below.refl _ _⟩
  · rcases Nat.eq_zero_or_pos n with h0 | h0
    · subst h0
      have hx : xs = [] := List.length_eq_zero_iff.1 h.1
      subst hx
      refine (Try.slices_Clone_int_zero _ c w).mono ?_
      rintro e w' ⟨v, rfl, ho, _, hb⟩
      obtain ⟨A', c', rfl, ho'⟩ := OI_of_own (xs := []) (by simp) ho
      exact ⟨_, _, rfl, ho', hb⟩
    · obtain ⟨b', o', e, hc⟩ := h.2.2 h0
      injection e with e; injection e with e1 e2 e3
      subst e1 e2 e3
      have hl := h.1
      refine (Try.slices_Clone_int b o n c xs w (by omega) (by omega) (fun j hj => hc j (by omega))).mono ?_
      rintro e w' ⟨v, rfl, ho, _, hb⟩
      rw [List.take_of_length_le (by omega)] at ho
      obtain ⟨A', c', rfl, ho'⟩ := OI_of_own h.2.1 ho
      exact ⟨_, _, rfl, ho', hb⟩

theorem l3Copy_any (A : Option Addr) (n c : Nat) (xs : List Int) (w : World) (h : RI w A n xs) (hA : A = none → n = 0 ∧ c = 0) (hn : n ≤ 1048576) :
    Calls Try.prog 44 #[.slice A n c] w (RetI w n xs) := by
  obtain ⟨i0, hi, hz0, hz1, hz2⟩ := info_parts info_int
  have HL := Lib.hid h.1
  have hlit : (w.alloc (.cells #[] 3)).ownsRow w.heap.size 3 1 (.slice (some ⟨w.heap.size, 0, none⟩) 0 0) 0 [] := World.ownsRow_lit w #[] 0 (Nat.le_refl _) (by decide) rfl
  have hb0 : Below w.heap.size w (w.alloc (.cells #[] 3)) := (Below.refl _ _).alloc (Nat.le_refl _) _
  rcases A with _ | ad
  · obtain ⟨rfl, rfl⟩ := hA rfl
    have hx : xs = [] := List.length_eq_zero_iff.1 h.1
    subst hx
    clear hA
    go_enter Try.func44, Try.ntmps44
    go_wp2
    go_ret
    exact ⟨_, _, rfl, ⟨by simp, hlit⟩, hb0⟩
  · clear hA
    have hcell : ∀ j u, (xs.map (Value.int .i64))[j]? = some u → (w.alloc (.cells #[] 3)).cell? (ad.add j) = some u := by
      intro j u hu
      have hl := h.1
      have hj : j < xs.length := by
        have := (List.getElem?_eq_some_iff.1 hu).1
        simpa using this
      obtain ⟨b, o, x, e, hx, _, hc⟩ := (h.alloc (.cells #[] 3)).at_ (k := j) (by omega)
      injection e with e
      subst e
      rw [Addr.add_lit, hc]
      rw [List.getElem?_map, hx] at hu
      exact hu
    have HC := Lib.hid hcell; clear hcell
    have HW := Lib.hid h.2.1
    go_enter Try.func44, Try.ntmps44
    go_wp2_with (at_builtin; refine wpList_append_own _ rfl _ _ 28 rfl w.heap.size 3 i0 (.int .i64 0) 1 8 Try.underlying28 hi hz0 hz1 hz2 rfl (by decide) _ 0 [] rfl hlit ad n c (xs.map (Value.int .i64)) rfl (by rw [List.length_map, HL.out]; omega) HC.out (by intro u hu; obtain ⟨x, _, rfl⟩ := List.mem_map.1 hu; rfl) (by unfold maxLen; omega) (by omega) (by simp) ?_; intro v' w1 hown1 hgr1 _)
    go_ret
    rw [Nat.zero_add, List.nil_append] at hown1
    obtain ⟨A', c', rfl, ho'⟩ := OI_of_own (w := w) HW.out hown1
    exact ⟨_, _, rfl, ho', hb0.grown hgr1 (by simp) (by rintro g ⟨⟩; exact Nat.le_refl _)⟩

/-- The bytes of a string as numbers. -/
def sb (s : ByteArray) : List Int := s.data.toList.map fun c => (c.toNat : Int)
theorem sb_len (s : ByteArray) : (sb s).length = s.size := by simp [sb]
theorem sb_get (s : ByteArray) (j : Nat) (h : j < s.size) : (sb s)[j]? = some (s[j].toNat : Int) := by
  have hj : j < s.data.toList.length := by simpa using h
  simp [sb]
  exact ⟨s[j], by rw [Array.getElem?_eq_getElem (by simpa using h)]; rfl, rfl⟩
theorem sb_u8 (s : ByteArray) : ∀ x ∈ sb s, 0 ≤ x ∧ x ≤ 255 := by
  intro x hx
  obtain ⟨c, _, rfl⟩ := List.mem_map.1 hx
  exact u8_le c
theorem sb_wf (s : ByteArray) : ∀ x ∈ sb s, (Lit.int .i64 x).wf = true := fun x hx => wf_mk (by have := sb_u8 s x hx; omega)

/-- What a function does that lays numbers into a row that the call owns. -/
def Put (w : World) (B : Nat) (A : Option Addr) (n c : Nat) (ys : List Int) (e0 : Ending) (e : Ending) (w' : World) : Prop :=
  e = e0 ∧ OI w' B A n c ys ∧ w.grownBy w' (Value.ownBlock (.slice A n c))

theorem fx_size (m : Int) (k : Nat) (h : fxOk m k = true) : (fxS m k).size = k := by
  rw [fxS, if_pos h]
  show (fxd _ m).toArray.size = k
  simp [fxd_len]
theorem fx_empty (m : Int) (k : Int) (h : fxOk m k = false) : fxS m k = ⟨#[]⟩ := by rw [fxS, h]; rfl

theorem lay_wf {xs ds : List Int} {p : Nat} (h : ∀ x ∈ xs, (Lit.int .i64 x).wf = true) (h' : ∀ x ∈ ds, (Lit.int .i64 x).wf = true) : ∀ x ∈ lay xs p ds, (Lit.int .i64 x).wf = true := by
  intro x hx
  rcases lay_mem hx with hx | hx
  · exact h x hx
  · exact h' x hx

theorem OI.stored {w : World} {B g n c : Nat} {xs : List Int} (h : OI w B (some ⟨g, 0, none⟩) n c xs) (j : Nat) (x : Int) (hx : (Lit.int .i64 x).wf = true) :
    OI (w.setCell ⟨g, j, none⟩ (.int .i64 x)) B (some ⟨g, 0, none⟩) n c (xs.set j x) ∧ w.grownBy (w.setCell ⟨g, j, none⟩ (.int .i64 x)) (some g) := by
  obtain ⟨h1, h2⟩ := h.2.stored j (.int .i64 x)
  refine ⟨⟨fun y hy => ?_, by rw [List.map_set]; exact h1⟩, h2⟩
  rcases List.mem_or_eq_of_mem_set hy with hy | hy
  · exact h.1 y hy
  · rw [hy]; exact hx
theorem OI.cellAt {w : World} {B g n c : Nat} {xs : List Int} (h : OI w B (some ⟨g, 0, none⟩) n c xs) {j : Nat} (hj : j < n) : ∃ x, xs[j]? = some x ∧ w.cell? ⟨g, j, none⟩ = some (.int .i64 x) ∧ w.frozen? ⟨g, j, none⟩ = false := by
  have hl := h.len
  refine ⟨xs[j], List.getElem?_eq_getElem (by omega), ?_, h.2.frozenAt j⟩
  rw [h.2.cellAt j (by omega)]
  simp [show j < xs.length by omega]

set_option maxHeartbeats 400000 in
theorem putStr (A : Option Addr) (n c B : Nat) (xs : List Int) (p k : Nat) (m : Int) (S : ByteArray) (w : World) (h : OI w B A n c xs) (hn : n ≤ 1048576) (hs : p + S.size ≤ n) (hB : B ≤ w.heap.size)
    (HF : Hid (Calls Try.prog 57 #[.int .i64 m, .int .i64 k] w fun e w' => e = .returned (.string S) ∧ Below w.heap.size w w')) :
    Calls Try.prog 43 #[.slice A n c, .int .i64 p, .int .i64 k, .int .i64 m] w (Put w B A n c (lay xs p (sb S)) (.returned (.bool (!S.toList.isEmpty)))) := by
  have HL := Lib.hid h.len
  have HS := Lib.hid (sb_len S)
  have hS : S.size ≤ 1048576 := by omega
  go_enter Try.func43, Try.ntmps43
  go_wp2_with (go_at_call 57; refine HF.out.mono ?_; rintro e w1 ⟨rfl, hb1⟩)
  have h1 := h.below hb1
  have hg1 := grown_of_below hb1 (Value.ownBlock (.slice A n c))
  have hsz := hb1.size
  go_loopw [16] (fun i wr => ∃ j : Nat, j ≤ S.size ∧ i = .int .i64 j ∧ OI wr B A n c (lay xs p ((sb S).take j)) ∧ w.grownBy wr (Value.ownBlock (.slice A n c))) (fun i _ => S.size - (intOf i).toNat)
  case atStart => exact ⟨0, Nat.zero_le _, rfl, by simpa [lay_nil] using h1, hg1⟩
  case round =>
    obtain ⟨j, hj, rfl, ho, hg⟩ := hrel
    by_cases hlt : j < S.size
    · obtain ⟨g, e, hBg, _⟩ := ho.form (by omega)
      subst e
      obtain ⟨y, _, hc, hf⟩ := ho.cellAt (j := p + j) (by omega)
      have hu := u8_le S[j]
      have HG := Lib.hid (sb_get S j hlt)
      have HT := Lib.hid (ho.stored (p + j) (S[j].toNat : Int) (wf_mk (by omega)))
      clear ho h h1
      go_wp2
      go_roundw
      case rel =>
        obtain ⟨ho, hg'⟩ := HT.out
        have hl : ((sb S).take j).length = j := by have := HS.out; simp; omega
        have e : (lay xs p ((sb S).take j)).set (p + j) (S[j].toNat : Int) = lay xs p ((sb S).take (j + 1)) := by
          have := lay_snoc (xs := xs) (at_ := p) (ds := (sb S).take j) (S[j].toNat : Int) (by rw [hl, HL.out]; omega)
          rw [hl] at this
          rw [this, take_succ_of HG.out]
        rw [e] at ho
        exact ⟨j + 1, by omega, by go_num, ho, grown_trans hg hg'⟩
      case measure => simp [intOf]; omega
    · obtain rfl : j = S.size := by omega
      clear h h1
      go_wp2
      go_ret
      rw [List.take_of_length_le (Nat.le_of_eq HS.out)] at ho
      exact ⟨by simp, ho, hg⟩
end Go.Proofs.Ythnihgnboelipaa
