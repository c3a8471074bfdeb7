/- Contracts of the laws' helpers over slices of integers: a copy, the comparison, marks written and looked for. -/
import Derived.Test.YtbdegnamlmabbaaMem
import Derived.Test.YtbdegnamlmabbaaFrame
import Derived.BigQuiet
import Derived.Deep.QuietTactic
import Derived.IntWalk
import Derived.Laws.MakeOwn
namespace Go.Proofs.Ytbdegnamlmabbaa
open Go Go.RowKit

theorem RI_of_row {w : World} {a : Option Addr} {len cap : Nat} {zs : List Int} (h : IsRow .i64 w a len cap zs) : RI w a len (zs.take len) ∧ len ≤ maxLen := by
  rcases h with ⟨rfl, rfl, rfl, rfl⟩ | ⟨x, rfl, hl, hm, hz, hc, hw⟩
  · exact ⟨⟨rfl, by simp, fun h => absurd h (by omega)⟩, by simp [maxLen]⟩
  · refine ⟨⟨by simp; omega, fun n hn => hw n (List.mem_of_mem_take hn), fun hn => ?_⟩, by omega⟩
    have h0 := hc 0 (by omega)
    rcases x with ⟨b, o, s⟩
    have hs : s = none := by
      cases s with
      | none => rfl
      | some s => simp [Addr.add, World.cell?] at h0; split at h0 <;> simp_all
    subst hs
    refine ⟨b, o, rfl, fun i hi => ?_⟩
    have := hc i (by omega)
    rw [Addr.add_lit] at this
    rw [this]; simp [List.getD, hi]

theorem set_step {xs : List Int} {j n : Nat} {x : Int} (hl : xs.length = n) (hj : j < n) (hx : xs[j]? = some x) :
    ((xs.take j ++ List.replicate (n - j) (0 : Int)).map (Value.int .i64)).set j (.int .i64 x) = (xs.take (j + 1) ++ List.replicate (n - (j + 1)) (0 : Int)).map (Value.int .i64) := by
  have hlen : (xs.take j).length = j := by simp; omega
  rw [← List.map_set, List.set_append_right _ _ (by omega), hlen, Nat.sub_self, show n - j = (n - (j + 1)) + 1 by omega, List.replicate_succ, List.set_cons_zero, take_succ_of hx]
  simp

set_option maxHeartbeats 400000 in
theorem toIntS_any (A : Option Addr) (n c : Nat) (xs : List Int) (w : World) (h : RI w A n xs) (hn : n ≤ 1048576) :
    Calls Try.prog 17 #[.slice A n c] w (RetI w n xs) := by
  obtain ⟨i0, hi, hz0, hz1, hz2⟩ := info_parts info_int
  have HL := Lib.hid h.1
  go_enter Try.func17, Try.ntmps17
  go_wp2_with (at_make; refine wpList_make_full _ rfl _ _ 22 rfl w.heap.size 3 i0 (.int .i64 0) 1 Try.underlying22 hi hz0 hz1 .i64 .i64 _ _ n rfl rfl rfl rfl (by rw [hz2]; omega) (by unfold maxLen; omega) (Nat.le_refl _) ?_; intro w1 hown1 hgrow1)
  go_loopw [4] (fun i wr => ∃ j : Nat, j ≤ n ∧ i = .int .i64 j ∧ Below w.heap.size w wr ∧ RI wr A n xs ∧ wr.ownsRow w.heap.size 3 1 (.slice (some ⟨w.heap.size, 0, none⟩) n n) n ((xs.take j ++ List.replicate (n - j) (0 : Int)).map (Value.int .i64))) (fun i _ => n - (intOf i).toNat)
  case atStart =>
    have hb : Below w.heap.size w w1 := (Below.refl _ _).grown hgrow1 (Nat.le_refl _) (by intro k hk; cases hk)
    exact ⟨0, Nat.zero_le _, rfl, hb, h.below hb, by simpa [Value.cells, toList_madeCells_one] using hown1⟩
  case round =>
    obtain ⟨j, hj, rfl, hbel, hr, hown⟩ := hrel
    clear hown1
    by_cases hlt : j < n
    · obtain ⟨b, o, x, rfl, hx, hw, hc⟩ := hr.at_ hlt
      have HX := Lib.hid hx; clear hx
      have HR := Lib.hid hr; clear hr
      have hf := hown.frozenAt j
      have hc2 : wr.cell? ⟨w.heap.size, j, none⟩ = some (.int .i64 0) := by
        have hl : (xs.take j).length = j := by have := HL.out; simp; omega
        rw [hown.cellAt j (by omega), List.map_append, List.getElem?_append_right (by rw [List.length_map, hl]; exact Nat.le_refl _), List.length_map, hl, Nat.sub_self]
        simp [show n - j = (n - (j + 1)) + 1 by omega, List.replicate_succ]
      have HS := Lib.hid (hown.stored j (.int .i64 x))
      clear hown
      go_wp2
      go_roundw
      case rel =>
        obtain ⟨ho, hg⟩ := HS.out
        rw [set_step HL.out hlt HX.out] at ho
        have hlt2 := h.lt b o rfl (by omega)
        exact ⟨j + 1, by omega, by go_num, hbel.grown hg hbel.size (by rintro k ⟨⟩; exact Nat.le_refl _), HR.out.grown hg (by rintro g o' ⟨⟩ ⟨⟩; omega), ho⟩
      case measure => simp [intOf]; omega
    · obtain rfl : j = n := by omega
      clear h
      go_wp2
      go_ret
      refine ⟨_, _, rfl, ⟨hr.2.1, ?_⟩, hbel⟩
      have e : xs.take j ++ List.replicate (j - j) (0 : Int) = xs := by rw [Nat.sub_self]; simp [List.take_of_length_le (Nat.le_of_eq HL.out)]
      rw [e] at hown
      exact hown

theorem eqIntS_any (A B : Option Addr) (n m c d : Nat) (xs ys : List Int) (w : World) (h : RI w A n xs) (k : RI w B m ys) (hn : n ≤ 1048576) (hm : m ≤ 9223372036854775807) :
    Calls Try.prog 13 #[.slice A n c, .slice B m d] w fun e w' => e = .returned (.bool (xs == ys)) ∧ ∃ q, w' = w.drewN q := by
  have HL := Lib.hid h.1
  have HM := Lib.hid k.1
  by_cases hnm : n = m
  · subst hnm
    go_enter Try.func13, Try.ntmps13
    go_wp2
    go_loopw [5] (fun i wr => ∃ (j q : Nat), j ≤ n ∧ i = .int .i64 j ∧ wr = w.drewN q ∧ xs.take j = ys.take j) (fun i _ => n - (intOf i).toNat)
    case atStart => exact ⟨0, 0, Nat.zero_le _, rfl, rfl, rfl⟩
    case round =>
      obtain ⟨j, q, hj, rfl, rfl, heq⟩ := hrel
      have HE := Lib.hid heq; clear heq
      by_cases hlt : j < n
      · obtain ⟨b, o, x, rfl, hx, hw, hc⟩ := h.at_ hlt
        obtain ⟨b2, o2, y, rfl, hy, hw2, hc2⟩ := k.at_ hlt
        have HX := Lib.hid hx; clear hx
        have HY := Lib.hid hy; clear hy
        by_cases hxy : x = y
        · subst hxy
          go_wp2
          go_quiet (fail)
          go_wp2
          go_roundw
          case rel => exact ⟨j + 1, _, by omega, by go_num, rfl, by rw [take_succ_of HX.out, take_succ_of HY.out, HE.out]⟩
          case measure => simp [intOf]; omega
        · have hne : (x != y) = true := by simpa using hxy
          have HN := Lib.hid hxy; clear hxy
          go_wp2
          go_quiet (fail)
          go_wp2
          go_ret
          refine ⟨ret_bool (Eq.symm ?_), _, World.drewN_drewN _ _ _⟩
          rw [beq_eq_false_iff_ne]
          rintro rfl
          have := HX.out.symm.trans HY.out
          injection this with this
          exact HN.out this
      · obtain rfl : j = n := by omega
        go_wp2
        go_ret
        refine ⟨ret_bool (Eq.symm ?_), _, rfl⟩
        have := HE.out
        rw [List.take_of_length_le (Nat.le_of_eq HL.out), List.take_of_length_le (Nat.le_of_eq HM.out)] at this
        rw [this]; simp
  · have hne : ((n : Int) != (m : Int)) = true := by simp; omega
    have HN := Lib.hid hnm; clear hnm
    go_enter Try.func13, Try.ntmps13
    go_wp2
    go_ret
    refine ⟨ret_bool (Eq.symm ?_), 0, rfl⟩
    rw [beq_eq_false_iff_ne]
    rintro rfl
    exact HN.out (HL.out.symm.trans HM.out)

/-- k, k + 1, .. : n numbers. -/
def marks (k : Int) (n : Nat) : List Int := (List.range n).map fun (i : Nat) => k + (i : Int)
theorem marks_len (k : Int) (n : Nat) : (marks k n).length = n := by simp [marks]
theorem marks_succ (k : Int) (n : Nat) : marks k (n + 1) = marks k n ++ [k + (n : Int)] := by simp [marks, List.range_succ]
theorem marks_get (k : Int) {n j : Nat} (h : j < n) : (marks k n)[j]? = some (k + (j : Int)) := by simp [marks, h]
theorem marks_wf (k : Int) (n : Nat) (h0 : 0 ≤ k) (h1 : k ≤ 4611686018427387904) (hn : n ≤ 1048576) : ∀ x ∈ marks k n, (Lit.int .i64 x).wf = true := by
  intro x hx
  obtain ⟨i, hi, rfl⟩ := List.mem_map.1 hx
  have := List.mem_range.1 hi
  exact wf_mk (by omega)

theorem mark_step {xs : List Int} {k : Int} {j n : Nat} (hl : xs.length = n) (hj : j < n) :
    ((marks k j ++ xs.drop j).map (Value.int .i64)).set j (.int .i64 (k + (j : Int))) = (marks k (j + 1) ++ xs.drop (j + 1)).map (Value.int .i64) := by
  rw [← List.map_set, List.set_append_right _ _ (by rw [marks_len]; exact Nat.le_refl _), marks_len, Nat.sub_self, List.drop_eq_getElem_cons (by omega), List.set_cons_zero, marks_succ]
  simp

/-- What a function gives that writes marks into a row that the call owns. -/
def Marked (w : World) (B : Nat) (A : Option Addr) (n c : Nat) (k : Int) (e : Ending) (w' : World) : Prop :=
  e = .returned (.int .i64 (k + (n : Int))) ∧ OI w' B A n c (marks k n) ∧ w.grownBy w' (Value.ownBlock (.slice A n c))

set_option maxHeartbeats 400000 in
theorem markIntS_any (A : Option Addr) (n c B : Nat) (xs : List Int) (k : Int) (w : World) (h : OI w B A n c xs) (hn : n ≤ 1048576) (h0 : 0 ≤ k) (h1 : k ≤ 4611686018427387904) :
    Calls Try.prog 14 #[.slice A n c, .int .i64 k] w (Marked w B A n c k) := by
  have HL := Lib.hid h.len
  go_enter Try.func14, Try.ntmps14
  go_wp2
  go_loopw [1, 5] (fun s i wr => ∃ j : Nat, j ≤ n ∧ i = .int .i64 j ∧ s = .int .i64 (k + (j : Int)) ∧ w.grownBy wr (Value.ownBlock (.slice A n c)) ∧ wr.ownsRow B 3 1 (.slice A n c) n ((marks k j ++ xs.drop j).map (Value.int .i64))) (fun _ i _ => n - (intOf i).toNat)
  case atStart => exact ⟨0, Nat.zero_le _, rfl, by simp, World.grownBy.refl w _, by simpa [marks] using h.2⟩
  case round =>
    obtain ⟨j, hj, rfl, rfl, hgr, hown⟩ := hrel
    by_cases hlt : j < n
    · obtain ⟨g, rfl, hB, hg⟩ := h.form (by omega)
      have hf := hown.frozenAt j
      have hc2 : ∃ y, wr.cell? ⟨g, j, none⟩ = some (.int .i64 y) := by
        refine ⟨xs[j]'(by have := HL.out; omega), ?_⟩
        have hl : j < xs.length := by have := HL.out; omega
        rw [hown.cellAt j (by omega), List.map_append, List.getElem?_append_right (by rw [List.length_map, marks_len]; exact Nat.le_refl _), List.length_map, marks_len, Nat.sub_self]
        simp [List.getElem?_drop, hl]
      obtain ⟨y, hc2⟩ := hc2
      have HS := Lib.hid (hown.stored j (.int .i64 (k + (j : Int))))
      clear hown
      go_wp2
      go_roundw
      case rel =>
        obtain ⟨ho, hg'⟩ := HS.out
        rw [mark_step HL.out hlt] at ho
        exact ⟨j + 1, by omega, by go_num, by rw [show k + ((j + 1 : Nat) : Int) = k + (j : Int) + 1 by omega], grown_trans hgr hg', ho⟩
      case measure => simp [intOf]; omega
    · obtain rfl : j = n := by omega
      go_wp2
      go_ret
      refine ⟨rfl, ⟨marks_wf k j h0 h1 hn, ?_⟩, hgr⟩
      have e : marks k j ++ xs.drop j = marks k j := by rw [List.drop_of_length_le (Nat.le_of_eq HL.out)]; simp
      rw [e] at hown
      exact hown

theorem heldIntS_any (A : Option Addr) (n c : Nat) (k : Int) (w : World) (h : RI w A n (marks k n)) (hn : n ≤ 1048576) (h0 : 0 ≤ k) (h1 : k ≤ 4611686018427387904) :
    Calls Try.prog 15 #[.slice A n c, .int .i64 k] w fun e w' => e = .returned (.int .i64 (k + (n : Int))) ∧ w = w' := by
  go_enter Try.func15, Try.ntmps15
  go_wp2
  go_loop [1, 5] (fun s i => ∃ j : Nat, j ≤ n ∧ i = .int .i64 j ∧ s = .int .i64 (k + (j : Int))) (fun _ i => n - (intOf i).toNat)
  case atStart => exact ⟨0, Nat.zero_le _, rfl, by simp⟩
  case round =>
    obtain ⟨j, hj, rfl, rfl⟩ := hrel
    by_cases hlt : j < n
    · obtain ⟨b, o, x, rfl, hx, hw, hc⟩ := h.at_ hlt
      rw [marks_get k hlt] at hx
      obtain rfl : k + (j : Int) = x := by injection hx
      clear hx
      go_wp2
      go_round
      case rel => exact ⟨j + 1, by omega, by go_num, by rw [show k + ((j + 1 : Nat) : Int) = k + (j : Int) + 1 by omega]⟩
      case measure => simp [intOf]; omega
    · obtain rfl : j = n := by omega
      go_wp2
      go_ret
      exact ⟨rfl, rfl⟩

/-- An owned row keeps what it holds while an older row is written. -/
theorem OI.keepAfter {w w' wy : World} {BZ BY : Nat} {Az Ay : Option Addr} {nz cz ny cy : Nat} {zs ys : List Int} (oz : OI w BZ Az nz cz zs) (oy : OI wy BY Ay ny cy ys) (h : wy.heap.size ≤ BZ)
    (hg : w.grownBy w' (Value.ownBlock (.slice Ay ny cy))) : OI w' BZ Az nz cz zs :=
  oz.grown hg (fun g e he => by have h1 := oy.2.lt g he; have h2 := oz.lt g e; omega)
/-- An owned row keeps what it holds while a newer row is written. -/
theorem OI.keepBefore {w w' wz wy : World} {BZ BZ' BY : Nat} {Az Ay : Option Addr} {nz cz ny cy : Nat} {zs zs' ys : List Int} (oz : OI w BZ Az nz cz zs) (oz0 : OI wz BZ' Az nz cz zs') (oy : OI wy BY Ay ny cy ys) (h : wz.heap.size ≤ BY)
    (hg : w.grownBy w' (Value.ownBlock (.slice Ay ny cy))) : OI w' BZ Az nz cz zs :=
  oz.grown hg (fun g e he => by have h1 := oy.2.lt g he; have h2 := oz0.lt g e; omega)
/-- What came in reads as it did while a row of the call's own is written. -/
theorem RI.keepOwn {w w' w0 wy : World} {BY : Nat} {A Ay : Option Addr} {n ny cy : Nat} {xs ys : List Int} (r : RI w A n xs) (r0 : RI w0 A n xs) (oy : OI wy BY Ay ny cy ys) (h : w0.heap.size ≤ BY)
    (hg : w.grownBy w' (Value.ownBlock (.slice Ay ny cy))) : RI w' A n xs :=
  r.keep fun b o e hn => hg.block b (r.lt b o e hn) (fun he => by have h1 := oy.2.lt b he.symm; have h2 := r0.lt b o e hn; omega)
theorem below_own {B BY : Nat} {a w w' wy : World} {Ay : Option Addr} {ny cy : Nat} {ys : List Int} (hb : Below B a w) (oy : OI wy BY Ay ny cy ys) (h : B ≤ BY) (hB : B ≤ w.heap.size)
    (hg : w.grownBy w' (Value.ownBlock (.slice Ay ny cy))) : Below B a w' :=
  hb.grown hg hB (fun g he => Nat.le_trans h (oy.2.lt g he).1)
end Go.Proofs.Ytbdegnamlmabbaa
