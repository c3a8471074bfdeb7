/- impl.ReadDec: by strconv.Atoi and a second formatting. -/
import Derived.Test.YtcppgckimbnjbaaDoorRdA
import Derived.Test.YtcppgckimbnjbaaDoorDecB
import Derived.WideLaws
namespace Go.Proofs.YtcppgckimbnjbaaDoor
open Go Go.RowKit

theorem bw_below (w : World) (e : TypeId) (t : ByteArray) : Below w.heap.size w (Lib.bytesWorld w e t) := by
  refine ⟨rfl, rfl, rfl, ?_, fun k hk => Lib.bytesWorld_at_old w e t k hk⟩
  rw [Lib.bytesWorld_size]; omega

theorem errvar_below {W w : World} {n : String} {g : Nat} {tp : TypeId} {p : Value} (hg : Tryd.prog.globalNamed n = some g) (h : W.var? Tryd.prog n = some #[.iface tp p]) (hb : Below W.heap.size W w) : w.var? Tryd.prog n = some #[.iface tp p] := by
  have hc : W.cell? ⟨g, 0, none⟩ = some (.iface tp p) := by have := World.var?_cell hg h 0; simpa using this
  exact var?_below hb hg (World.block_lt_of_cell? W ⟨g, 0, none⟩ hc) h

theorem no_ok {s : ByteArray} (h : ∀ v, Lib.atoiAll s.data.toList ≠ .ok v) : rdOk s.data.toList = false := by
  cases hr : rdOk s.data.toList with
  | false => rfl
  | true => exact absurd (atoi_of_num9 (num9_of hr)) (h _)

theorem ok_iff {s : ByteArray} {v : Int} (h : Lib.atoiAll s.data.toList = .ok v) :
    rdOk s.data.toList = (decide (-999999999 ≤ v) && decide (v ≤ 999999999) && (Lib.itoa v == s.data.toList)) ∧ (rdOk s.data.toList = true → rdVal s.data.toList = v) := by
  have key : rdOk s.data.toList = true → Num9 s.data.toList v := by
    intro hr
    have n9 := num9_of hr
    have := atoi_of_num9 n9
    rw [h] at this
    injection this with this
    rw [this]; exact n9
  refine ⟨?_, fun hr => (rd_of_num9 (key hr)).2⟩
  cases hr : rdOk s.data.toList with
  | true =>
    obtain ⟨k1, k2, k3⟩ := key hr
    simp [k1, k2, k3]
  | false =>
    cases ht : (decide (-999999999 ≤ v) && decide (v ≤ 999999999) && (Lib.itoa v == s.data.toList)) with
    | false => rfl
    | true =>
      simp only [Bool.and_eq_true, decide_eq_true_eq, beq_iff_eq] at ht
      have := (rd_of_num9 (l := s.data.toList) (n := v) ⟨ht.2, ht.1.1, ht.1.2⟩).1
      rw [hr] at this; cases this

set_option maxHeartbeats 1000000 in
theorem iReadDec_any (s : ByteArray) (w : World) (hs : s.size ≤ 1048576) (htab : Lib.TabIs Tryd.prog w "internal/strconv.uint64pow10" .u64 Lib.pow10Tab)
    (he1 : ∃ tp p, w.var? Tryd.prog "strconv.ErrRange" = some #[.iface tp p]) (he2 : ∃ tp p, w.var? Tryd.prog "strconv.ErrSyntax" = some #[.iface tp p]) :
    Calls Tryd.prog 13 #[.string s] w fun e w' => e = .returned (.tuple #[.int .i64 (rdN s), .bool (rdB s)]) ∧ Below w.heap.size w w' := by
  cases hA : Lib.atoiAll s.data.toList with
  | «syntax» =>
    obtain ⟨tp, p, hv⟩ := he2
    have HR := Lib.hid (no_ok (s := s) (by intro v; rw [hA]; exact fun h => by cases h))
    have hcon := Tryd.strconv_Atoi_syntax_var s (by omega) hA tp p w hv
    clear hv hA htab he1
    have HCON := Lib.hid hcon; clear hcon
    go_enter Tryd.func13, Tryd.ntmps13
    go_wp2_with (go_at_call 25; refine HCON.out.mono ?_; rintro e w' ⟨N, rfl, _, _, hb1⟩)
    go_ret2
    exact ⟨ret_ib (by rw [rdN, HR.out]; rfl) (by rw [rdB, HR.out]), hb1⟩
  | range =>
    obtain ⟨tp, p, hv⟩ := he1
    have HR := Lib.hid (no_ok (s := s) (by intro v; rw [hA]; exact fun h => by cases h))
    have hcon := Tryd.strconv_Atoi_range_var s (by omega) hA tp p w hv
    clear hv hA htab he2
    have HCON := Lib.hid hcon; clear hcon
    go_enter Tryd.func13, Tryd.ntmps13
    go_wp2_with (go_at_call 25; refine HCON.out.mono ?_; rintro e w' ⟨N, rfl, _, _, hb1⟩)
    go_ret2
    exact ⟨ret_ib (by rw [rdN, HR.out]; rfl) (by rw [rdB, HR.out]), hb1⟩
  | ok v =>
    have hbd := Lib.atoiAll_bounds hA
    obtain ⟨ho, hval⟩ := ok_iff hA
    have HO := Lib.hid ho
    have HVAL := Lib.hid hval
    have hcon : Calls Tryd.prog 25 #[.string s] w fun e w' => e = .returned (.tuple #[.int .i64 v, .nilIface]) ∧ Below w.heap.size w w' := by
      refine (Tryd.strconv_Atoi_ok s (by omega) v hA w).mono fun e w' ⟨h1, h2⟩ => ⟨h1, ?_⟩
      rcases h2 with h2 | ⟨t, h2⟩
      · subst h2; exact Below.refl _ _
      · subst h2; exact bw_below _ _ _
    have HCON := Lib.hid hcon
    have HTAB := Lib.hid htab
    clear hcon ho hval hA he1 he2 htab
    obtain ⟨b0, b1⟩ := hbd
    by_cases hlo : -999999999 ≤ v
    · by_cases hhi : v ≤ 999999999
      · by_cases heq : (Lib.itoa v == s.toList) = true
        · have HR : Hid (rdOk s.data.toList = true) := by show _ = _; rw [HO.out, ← ByteArray.toList_eq, heq]; simp [hlo, hhi]
          go_enter Tryd.func13, Tryd.ntmps13
          go_wp2_with (first | (go_at_call 25; refine HCON.out.mono ?_; rintro e w' ⟨rfl, hb1⟩) | (go_at_call 14; refine (iDec_any _ _ b0 b1 (tab_below HTAB.out hb1)).mono ?_; rintro e w' ⟨rfl, hb2⟩))
          go_ret2
          exact ⟨ret_ib (by rw [rdN, HR.out]; exact (HVAL.out HR.out).symm) (by rw [rdB, HR.out]), hb1.trans (hb2.mono hb1.size)⟩
        · have heq : (Lib.itoa v == s.toList) = false := by simpa using heq
          have HR : Hid (rdOk s.data.toList = false) := by show _ = _; rw [HO.out, ← ByteArray.toList_eq, heq]; simp
          go_enter Tryd.func13, Tryd.ntmps13
          go_wp2_with (first | (go_at_call 25; refine HCON.out.mono ?_; rintro e w' ⟨rfl, hb1⟩) | (go_at_call 14; refine (iDec_any _ _ b0 b1 (tab_below HTAB.out hb1)).mono ?_; rintro e w' ⟨rfl, hb2⟩))
          go_ret2
          exact ⟨ret_ib (by rw [rdN, HR.out]; rfl) (by rw [rdB, HR.out]), hb1.trans (hb2.mono hb1.size)⟩
      · have HR : Hid (rdOk s.data.toList = false) := by show _ = _; rw [HO.out]; simp [hhi]
        have hhi' : 999999999 < v := by omega
        go_enter Tryd.func13, Tryd.ntmps13
        go_wp2_with (first | (go_at_call 25; refine HCON.out.mono ?_; rintro e w' ⟨rfl, hb1⟩))
        go_ret2
        exact ⟨ret_ib (by rw [rdN, HR.out]; rfl) (by rw [rdB, HR.out]), hb1⟩
    · have HR : Hid (rdOk s.data.toList = false) := by show _ = _; rw [HO.out]; simp [hlo]
      have hlo' : v < -999999999 := by omega
      go_enter Tryd.func13, Tryd.ntmps13
      go_wp2_with (first | (go_at_call 25; refine HCON.out.mono ?_; rintro e w' ⟨rfl, hb1⟩))
      go_ret2
      exact ⟨ret_ib (by rw [rdN, HR.out]; rfl) (by rw [rdB, HR.out]), hb1⟩
end Go.Proofs.YtcppgckimbnjbaaDoor
