/- Contracts of spec.StoreNum and of CasNum in both packages. -/
import Derived.Test.YthnihgnboelipaaBy4
namespace Go.Proofs.Ythnihgnboelipaa
open Go Go.RowKit

theorem lay_cons {xs ds : List Int} {a : Nat} (x : Int) (h : a < xs.length) : (lay xs (a + 1) ds).set a x = lay xs a (x :: ds) := by
  unfold lay
  rw [List.take_succ_eq_append_getElem h, List.append_assoc, List.append_assoc, List.set_append_right _ _ (by simp; omega)]
  have : a - (xs.take a).length = 0 := by simp; omega
  rw [this]
  simp only [List.cons_append, List.nil_append, List.set_cons_zero, List.append_assoc, List.length_cons]
  rw [show a + 1 + ds.length = a + (ds.length + 1) by omega]
def ib (l : List UInt8) : List Int := l.map fun c => (c.toNat : Int)
theorem ib_wf (l : List UInt8) : ∀ x ∈ ib l, (Lit.int .i64 x).wf = true := by
  intro x hx
  obtain ⟨c, _, rfl⟩ := List.mem_map.1 hx
  have := u8_le c
  exact wf_mk (by omega)
theorem fx_ib (m : Int) (k : Nat) (h : fxOk m k = true) : sb (fxS m k) = ib (fxd k m) := by
  rw [fxS, if_pos h]
  simp [sb, ib]

set_option maxHeartbeats 400000 in
theorem l3Store_any (A : Option Addr) (n c B : Nat) (xs : List Int) (p k : Nat) (m : Int) (w : World) (h : OI w B A n c xs) (hn : n ≤ 1048576) (hs : p + k ≤ n) (hk1 : 1 ≤ k) (hk : k ≤ 7) (h0 : 0 ≤ m) (hm : m ≤ 9223372036854775807) :
    Calls Try.prog 48 #[.slice A n c, .int .i64 p, .int .i64 k, .int .i64 m] w (Put w B A n c (lay xs p (ib (fxd k m))) (.returned (.slice A n c))) := by
  have HL := Lib.hid h.len
  go_enter Try.func48, Try.ntmps48
  go_wp2
  go_loopw [3, 9] (fun v i wr => ∃ (q : Nat) (z y : Int) (l : List UInt8), z + 1 = q ∧ i = .int .i64 z ∧ v = .int .i64 y ∧ 0 ≤ y ∧ y ≤ 9223372036854775807 ∧ l.length + q = k ∧ fxd k m = fxd q y ++ l ∧ OI wr B A n c (lay xs (p + q) (ib l)) ∧ w.grownBy wr (Value.ownBlock (.slice A n c))) (fun _ i _ => (intOf i + 1).toNat)
  case atStart => exact ⟨k, (k : Int) - 1, m, [], by omega, rfl, rfl, h0, hm, by simp, by simp, by simpa [ib, lay_nil] using h, World.grownBy.refl w _⟩
  case round =>
    obtain ⟨q, z, y, l, hz, rfl, rfl, hy0, hy1, hl, hf, ho, hg⟩ := hrel
    have HF := Lib.hid hf; clear hf
    by_cases hlt : 0 < q
    · obtain ⟨u, rfl⟩ : ∃ u, q = u + 1 := ⟨q - 1, by omega⟩
      obtain rfl : z = (u : Int) := by omega
      have hpm : u < k := by omega
      have HN := Lib.hid hl; clear hl
      obtain ⟨g, e, hBg, _⟩ := ho.form (by omega)
      subst e
      obtain ⟨x, _, hc, hfr⟩ := ho.cellAt (j := p + u) (by omega)
      have HT := Lib.hid (ho.stored (p + u) (y % 256) (wf_mk (by omega)))
      clear ho h hz
      go_wp2
      go_roundw
      case rel =>
        obtain ⟨ho, hg'⟩ := HT.out
        rw [← Nat.add_assoc, lay_cons _ (by rw [HL.out]; omega)] at ho
        have e2 : (((UInt8.ofNat (y % 256).toNat).toNat : Nat) : Int) = y % 256 := by simp; omega
        refine ⟨u, (u : Int) - 1, y / 256, UInt8.ofNat (y % 256).toNat :: l, by omega, rfl, rfl, by omega, by omega, by have := HN.out; simp; omega, ?_, ?_, grown_trans hg hg'⟩
        · rw [HF.out, fxd]; simp
        · rw [show ib (UInt8.ofNat (y % 256).toNat :: l) = y % 256 :: ib l by rw [ib, List.map_cons, e2]; rfl]
          exact ho
      case measure => simp [intOf]
    · obtain rfl : q = 0 := by omega
      obtain rfl : z = -1 := by omega
      clear h
      have HE : Hid (fxd k m = l) := by rw [HF.out]; rfl
      go_wp2
      go_ret
      exact ⟨rfl, by rw [HE.out]; exact ho, hg⟩

theorem fx_no_neg {m k : Int} (h : fxOk m k = true) : 0 ≤ m := by simp [fxOk] at h; omega
theorem fx_list (m : Int) (k : Nat) (h : fxOk m k = true) : (fxS m k).toList ≠ [] ∨ k = 0 := by
  by_cases hk : k = 0
  · exact .inr hk
  · left
    intro hd
    rw [ByteArray.toList_eq] at hd
    have h0 : (fxS m k).data.toList.length = 0 := by rw [hd]; rfl
    rw [Array.length_toList] at h0
    have h00 : (fxS m k).size = 0 := h0
    have := fx_size m k h
    omega

set_option maxHeartbeats 400000 in
theorem sStoreNum_any (A : Option Addr) (n c : Nat) (xs : List Int) (p k m : Int) (w : World) (h : RI w A n xs) (hA : A = none → n = 0 ∧ c = 0) (hn : n ≤ 1048576) (hm : m ≤ 9223372036854775807) :
    Calls Try.prog 19 #[.slice A n c, .int .i64 p, .int .i64 k, .int .i64 m] w (RetIB w n (storeL xs p k m) (storeOk xs p k m)) := by
  have HL := Lib.hid h.1
  have HCl := Lib.hid (l3Copy_any A n c xs w h hA hn)
  have hn' : n ≤ 9223372036854775807 := by omega
  cases hb : bytesOk xs
  · have hl : loadOk xs p k = false := by rw [loadOk, hb]; rfl
    have HS := Lib.hid (store_no1 (m := m) hl)
    clear hl
    go_enter Try.func19, Try.ntmps19
    go_wp2_with fail
    refine HCl.out.mono ?_
    rintro e w1 ⟨A1, c1, rfl, o1, b1⟩
    have r1 := h.below b1
    go_wp2_with (go_at_call 24; refine (sBytesOk_any _ _ _ _ _ r1 hn').mono ?_; rintro e w' ⟨rfl, rfl⟩)
    go_ret2
    exact ⟨_, _, ret_vb HS.out.1.symm, by rw [HS.out.2]; exact o1, b1⟩
  cases hw : inB k 1 7
  · have hl : loadOk xs p k = false := by rw [loadOk, hb, hw]; rfl
    have HS := Lib.hid (store_no1 (m := m) hl)
    clear hl
    go_enter Try.func19, Try.ntmps19
    go_wp2_with fail
    refine HCl.out.mono ?_
    rintro e w1 ⟨A1, c1, rfl, o1, b1⟩
    have r1 := h.below b1
    go_wp2_with (first | (go_at_call 24; refine (sBytesOk_any _ _ _ _ _ r1 hn').mono ?_; rintro e w' ⟨rfl, rfl⟩) | (go_at_call 45; refine (l1In_any _ _ _ _).mono ?_; rintro e w' ⟨rfl, rfl⟩))
    go_ret2
    exact ⟨_, _, ret_vb HS.out.1.symm, by rw [HS.out.2]; exact o1, b1⟩
  cases hs : spot p k n
  · have hl : loadOk xs p k = false := by rw [loadOk, hb, hw, HL.out, hs]; rfl
    have HS := Lib.hid (store_no1 (m := m) hl)
    clear hl
    go_enter Try.func19, Try.ntmps19
    go_wp2_with fail
    refine HCl.out.mono ?_
    rintro e w1 ⟨A1, c1, rfl, o1, b1⟩
    have r1 := h.below b1
    go_wp2_with (first | (go_at_call 24; refine (sBytesOk_any _ _ _ _ _ r1 hn').mono ?_; rintro e w' ⟨rfl, rfl⟩) | (go_at_call 45; refine (l1In_any _ _ _ _).mono ?_; rintro e w' ⟨rfl, rfl⟩) | (go_at_call 46; refine (l3In_any _ _ _ _ _ _ hn').mono ?_; rintro e w' ⟨rfl, rfl⟩))
    go_ret2
    exact ⟨_, _, ret_vb HS.out.1.symm, by rw [HS.out.2]; exact o1, b1⟩
  have hl : loadOk xs p k = true := by rw [loadOk, hb, hw, HL.out, hs]; rfl
  have hsp : 0 ≤ p ∧ 0 ≤ k ∧ p + k ≤ n := by simpa [spot] using hs
  have hk7 := inB_iff.1 hw
  obtain ⟨p, rfl⟩ : ∃ q : Nat, p = q := ⟨p.toNat, by omega⟩
  obtain ⟨k, rfl⟩ : ∃ q : Nat, k = q := ⟨k.toNat, by omega⟩
  have HF := Lib.hid (fun w => sFixed_any m k w hm)
  cases hf : fxOk m k
  · have HS := Lib.hid (store_no2 (xs := xs) (p := p) hf)
    have he : fxS m k = ⟨#[]⟩ := fx_empty m k hf
    have hF0 : ∀ w, Calls Try.prog 47 #[.int .i64 m, .int .i64 k] w fun e w' => e = .returned (.string ⟨#[]⟩) ∧ Below w.heap.size w w' := fun w => by rw [← he]; exact HF.out w
    have HF0 := Lib.hid hF0
    clear hF0 he hf hl
    go_enter Try.func19, Try.ntmps19
    go_wp2_with fail
    refine HCl.out.mono ?_
    rintro e w1 ⟨A1, c1, rfl, o1, b1⟩
    have r1 := h.below b1
    go_wp2_with (first | (go_at_call 24; refine (sBytesOk_any _ _ _ _ _ r1 hn').mono ?_; rintro e w' ⟨rfl, rfl⟩) | (go_at_call 45; refine (l1In_any _ _ _ _).mono ?_; rintro e w' ⟨rfl, rfl⟩) | (go_at_call 46; refine (l3In_any _ _ _ _ _ _ hn').mono ?_; rintro e w' ⟨rfl, rfl⟩) | (go_at_call 47; refine (HF0.out _).mono ?_; rintro e w2 ⟨rfl, b2⟩))
    go_ret2
    exact ⟨_, _, ret_vb HS.out.1.symm, by rw [HS.out.2]; exact o1.below b2, b1.trans (b2.mono b1.size)⟩
  · have HS := Lib.hid (store_yes hl hf)
    have h0 := fx_no_neg hf
    have hne : ((fxS m k).toList == []) = false := by
      rcases fx_list m k hf with h | h
      · simpa using h
      · omega
    have hfx := fx_ib m k hf
    have HX := Lib.hid hfx
    clear hf hl hfx
    have hne2 : (fxS m k).toList.isEmpty = false := by
      cases hd : (fxS m k).toList with
      | nil => rw [hd] at hne; simp at hne
      | cons a l => rfl
    go_enter Try.func19, Try.ntmps19
    go_wp2_with fail
    refine HCl.out.mono ?_
    rintro e w1 ⟨A1, c1, rfl, o1, b1⟩
    have r1 := h.below b1
    go_wp2_with (first | (go_at_call 24; refine (sBytesOk_any _ _ _ _ _ r1 hn').mono ?_; rintro e w' ⟨rfl, rfl⟩) | (go_at_call 45; refine (l1In_any _ _ _ _).mono ?_; rintro e w' ⟨rfl, rfl⟩) | (go_at_call 46; refine (l3In_any _ _ _ _ _ _ hn').mono ?_; rintro e w' ⟨rfl, rfl⟩) | (go_at_call 47; refine (HF.out _).mono ?_; rintro e w2 ⟨rfl, b2⟩) | (go_at_call 48; refine (l3Store_any _ _ _ _ xs _ _ _ _ (o1.below b2) hn (by omega) (by omega) (by omega) h0 hm).mono ?_; rintro e w3 ⟨rfl, o3, g3⟩))
    go_ret2
    refine ⟨_, _, ret_vb HS.out.1.symm, ?_, (b1.trans (b2.mono b1.size)).grown g3 (Nat.le_trans b1.size b2.size) (fun g hg => (o1.2.lt g hg).1)⟩
    rw [HS.out.2, HX.out]
    exact o3
end Go.Proofs.Ythnihgnboelipaa
