/- Contracts of StoreNum in both packages. -/
import Derived.Test.YthnihgnboelipaaBy3
namespace Go.Proofs.Ythnihgnboelipaa
open Go Go.RowKit

/-- What StoreNum gives. -/
def storeOk (xs : List Int) (p k m : Int) : Bool := loadOk xs p k && fxOk m k
def storeL (xs : List Int) (p k m : Int) : List Int := if storeOk xs p k m then lay xs p.toNat (sb (fxS m k)) else xs

theorem store_no1 {xs : List Int} {p k m : Int} (h : loadOk xs p k = false) : storeOk xs p k m = false ∧ storeL xs p k m = xs := by
  have h1 : storeOk xs p k m = false := by rw [storeOk, h]; rfl
  exact ⟨h1, by rw [storeL, h1]; rfl⟩
theorem store_no2 {xs : List Int} {p k m : Int} (h : fxOk m k = false) : storeOk xs p k m = false ∧ storeL xs p k m = xs := by
  have h1 : storeOk xs p k m = false := by rw [storeOk, h, Bool.and_false]
  exact ⟨h1, by rw [storeL, h1]; rfl⟩
theorem store_yes {xs : List Int} {p k m : Int} (h : loadOk xs p k = true) (h' : fxOk m k = true) : storeOk xs p k m = true ∧ storeL xs p k m = lay xs p.toNat (sb (fxS m k)) := by
  have h1 : storeOk xs p k m = true := by rw [storeOk, h, h']; rfl
  exact ⟨h1, by rw [storeL, h1]; rfl⟩
theorem loadOk_iff {xs : List Int} {p k : Int} : loadOk xs p k = true ↔ bytesOk xs = true ∧ inB k 1 7 = true ∧ spot p k xs.length = true := by
  rw [loadOk, Bool.and_eq_true, Bool.and_eq_true]

theorem iStoreNum_any (A : Option Addr) (n c : Nat) (xs : List Int) (p k m : Int) (w : World) (h : RI w A n xs) (hA : A = none → n = 0 ∧ c = 0) (hn : n ≤ 1048576) (hc : n ≤ c) (hcm : c ≤ 9223372036854775807) (hk : k ≤ 9223372036854775807) (hm : m ≤ 9223372036854775807) :
    Calls Try.prog 18 #[.slice A n c, .int .i64 p, .int .i64 k, .int .i64 m] w (RetIB w n (storeL xs p k m) (storeOk xs p k m)) := by
  have HCl := Lib.hid (clone_any A n c xs w h hA hn)
  cases hl : loadOk xs p k
  · have HS := Lib.hid (store_no1 (m := m) hl)
    go_enter Try.func18, Try.ntmps18
    go_wp2_with fail
    refine HCl.out.mono ?_
    rintro e w1 ⟨A1, c1, rfl, o1, b1⟩
    go_wp2_with fail
    refine (iLoadNum_any _ _ _ _ _ _ _ (h.below b1) hc hcm hk).mono ?_
    rintro e w' ⟨rfl, rfl⟩
    go_wp2_with fail
    go_ret2
    exact ⟨_, _, ret_vb HS.out.1.symm, by rw [HS.out.2]; exact o1, b1⟩
  · have hi := loadOk_iff.1 hl
    have HL := Lib.hid h.1
    have hsp : 0 ≤ p ∧ 0 ≤ k ∧ p + k ≤ n := by
      have := hi.2.2
      rw [HL.out] at this
      simpa [spot] using this
    have hk7 := inB_iff.1 hi.2.1
    obtain ⟨p, rfl⟩ : ∃ q : Nat, p = q := ⟨p.toNat, by omega⟩
    obtain ⟨k, rfl⟩ : ∃ q : Nat, k = q := ⟨k.toNat, by omega⟩
    have hsz : (fxS m k).size ≤ k := by
      cases hf : fxOk m k
      · rw [fx_empty m k hf]; exact Nat.zero_le _
      · exact Nat.le_of_eq (fx_size m k hf)
    have HE : Hid ((!(fxS m k).toList.isEmpty) = storeOk xs p k m ∧ lay xs p (sb (fxS m k)) = storeL xs p k m) := by
      show _ ∧ _
      cases hf : fxOk m k
      · obtain ⟨h1, h2⟩ := store_no2 (xs := xs) (p := p) hf
        rw [h1, h2, fx_empty m k hf]
        exact ⟨by rw [ByteArray.toList_eq]; rfl, lay_nil _ _⟩
      · obtain ⟨h1, h2⟩ := store_yes hl hf
        rw [h1, h2]
        have hs := fx_size m k hf
        refine ⟨?_, rfl⟩
        cases hd : (fxS m k).toList with
        | nil =>
          rw [ByteArray.toList_eq] at hd
          have h0 : (fxS m k).data.toList.length = 0 := by rw [hd]; rfl
          rw [Array.length_toList] at h0
          have h00 : (fxS m k).size = 0 := h0
          omega
        | cons a l => rfl
    have HI := Lib.hid hi
    clear hi
    go_enter Try.func18, Try.ntmps18
    go_wp2_with fail
    refine HCl.out.mono ?_
    rintro e w1 ⟨A1, c1, rfl, o1, b1⟩
    go_wp2_with fail
    refine (iLoadNum_any _ _ _ _ _ _ _ (h.below b1) hc hcm hk).mono ?_
    rintro e w' ⟨rfl, rfl⟩
    go_wp2_with fail
    refine (putStr A1 n c1 w.heap.size xs p k m (fxS m k) _ o1 hn (by omega) b1.size (Lib.hid (iFixed_any m k _ hm))).mono ?_
    rintro e w2 ⟨rfl, o2, g2⟩
    go_wp2_with fail
    go_ret2
    refine ⟨_, _, ret_vb HE.out.1, ?_, b1.grown g2 b1.size ?_⟩
    · rw [← HE.out.2]; exact o2
    · intro g hg
      exact (o1.2.lt g hg).1
end Go.Proofs.Ythnihgnboelipaa
