import Derived.Test.YtjlphbhmjicdhaaZKWA
import Derived.Test.YtjlphbhmjicdhaaVZ
import Derived.Test.YtjlphbhmjicdhaaMkL
import Derived.Test.YtjlphbhmjicdhaaVRs
import Derived.Test.YtjlphbhmjicdhaaUO
section
namespace Go.Proofs.Ytjlphbhmjicdhaa
open Go Go.Tr
set_option maxRecDepth 100000
set_option maxHeartbeats 4000000
set_option linter.unusedVariables false
set_option linter.unusedSimpArgs false
abbrev aBs (e eP eR eL : Nat) (b c : List Int) (g o : List (List Int)) (E : Int) (ps : List PinT) (l : List (List Row)) (z : List Int) : TAg := .agg [.c (tI b), .c (tI c), .c (tSL e g), .c (tSL e o), .c (.lit (.int .i64 E)), .c (tPin eP ps), .c (tLL eR eL l), .c (tI z)]
def ch (a : Int) (f : Int → Int) : Int := if a < 0 then -1 else f a
def szB (b c : List Int) (g o : List (List Int)) (ps : List PinT) (l : List (List Row)) (z : List Int) (m : Int) : Int := ch (szM b c g o m) fun x => ch (szJ ps x) fun y => ch (szJLs l y) fun u => szI z u
structure BsOk (m : Nat) (b c : List Int) (g o : List (List Int)) (ps : List PinT) (l : List (List Row)) (z : List Int) : Prop where
  mm : MmOk m b c g o
  hps : ps.length ≤ m
  hl : l.length ≤ m
  hl' : ∀ i, (l.getD i []).length ≤ m
  hz : z.length ≤ m
theorem BsOk.le {m m' : Nat} {b c : List Int} {g o : List (List Int)} {ps : List PinT} {l : List (List Row)} {z : List Int} (h : BsOk m b c g o ps l z) (hm : m ≤ m') : BsOk m' b c g o ps l z :=
  ⟨h.mm.le hm, Nat.le_trans h.hps hm, Nat.le_trans h.hl hm, fun i => Nat.le_trans (h.hl' i) hm, Nat.le_trans h.hz hm⟩
theorem szJ_bd {α : Type} (xs : List α) (m : Int) (h : 0 ≤ m) : szJ xs m ≤ m ∧ -1 ≤ szJ xs m ∧ (0 ≤ szJ xs m → (xs.length : Int) ≤ m) := by unfold szJ; split <;> omega
theorem szB_ok {m : Int} {b c : List Int} {g o : List (List Int)} {ps : List PinT} {l : List (List Row)} {z : List Int} (h0 : 0 ≤ m) (h1 : m ≤ 1048576) : szB b c g o ps l z m ≤ m ∧ -1 ≤ szB b c g o ps l z m ∧ (0 ≤ szB b c g o ps l z m → BsOk 1048576 b c g o ps l z) := by
  unfold szB ch
  dsimp only
  have a := szM_le b c g o m h0
  split
  · exact ⟨by omega, by omega, fun h => by omega⟩
  have k1 := MmOk.of_sz h0 h1 (by assumption)
  have a2 := szJ_bd ps (szM b c g o m) (by omega)
  split
  · exact ⟨by omega, by omega, fun h => by omega⟩
  obtain ⟨b1, b2, b3⟩ := szJLs_le l (szJ ps (szM b c g o m)) (by omega)
  split
  · exact ⟨by omega, by omega, fun h => by omega⟩
  obtain ⟨b4, b5, b6⟩ := b3 (by omega)
  have a4 := szI_le z (szJLs l (szJ ps (szM b c g o m))) (by omega)
  refine ⟨by omega, by omega, fun h => ⟨k1, by omega, by omega, getD_leR fun x hx => (by have := b6 x hx; omega), by omega⟩⟩
theorem szBase_run (b c : List Int) (g o : List (List Int)) (E : Int) (ps : List PinT) (l : List (List Row)) (z : List Int) (m : Int) (h0 : 0 ≤ m) (h1 : m ≤ 1048576) (hb : BsOk 9223372036854775807 b c g o ps l z) : RunT Try.prog 53 [aBs 0 0 0 0 b c g o E ps l z, ti m] [] [oi (szB b c g o ps l z m)] [] := by
  have q1 := szM_le b c g o m h0
  have c1 := szMem_run 0 0 b c g o m h0 h1 hb.mm.hb hb.mm.hc hb.mm.hg hb.mm.hg' hb.mm.ho hb.mm.ho'
  unfold szB ch
  dsimp only
  refine RunT.of_vc gOk Try.func53 rfl rfl (Nat.le_of_ble_eq_true rfl) (by repeat' (first | exact trivial | exact ⟨_, rfl, Nat.le_refl _⟩ | exact Nat.le_of_ble_eq_true rfl | refine And.intro ?_ ?_)) (Nat.le_of_ble_eq_true rfl) rfl (fun F hE => ?_)
  repeat' (first | exact trivial | refine BS.a (fun h => ?_) (fun h => ?_) | refine BS.n ?_ | refine BS.s (fun h => ?_) (fun h => ?_) | refine And.intro ?_ ?_ | exact Need.au | exact OutS.whole rfl rfl | refine OpK.ca c1 hE ?_ | refine ListO.go gOk hE ?_)
  all_goals first | (refine Need.mk ?_; rw [if_pos (by assumption)]; done) | skip
  all_goals have q2 := szJ_bd ps (szM b c g o m) (by omega)
  all_goals have c2 := szClock_run E 0 ps (szM b c g o m) (by omega) (by omega) hb.hps
  all_goals (repeat' (first | exact trivial | refine BS.a (fun h => ?_) (fun h => ?_) | refine BS.n ?_ | refine BS.s (fun h => ?_) (fun h => ?_) | refine And.intro ?_ ?_ | exact Need.au | exact OutS.whole rfl rfl | refine OpK.ca c2 hE ?_ | refine ListO.go gOk hE ?_))
  all_goals first | (refine Need.mk ?_; rw [if_neg (by assumption), if_pos (by assumption)]; done) | skip
  all_goals have q3 := szJLs_le l (szJ ps (szM b c g o m)) (by omega)
  all_goals have c3 := szLListS_run 0 0 l (szJ ps (szM b c g o m)) (by omega) (by omega) hb.hl hb.hl'
  all_goals (repeat' (first | exact trivial | refine BS.a (fun h => ?_) (fun h => ?_) | refine BS.n ?_ | refine BS.s (fun h => ?_) (fun h => ?_) | refine And.intro ?_ ?_ | exact Need.au | exact OutS.whole rfl rfl | refine OpK.ca c3 hE ?_ | refine ListO.go gOk hE ?_))
  all_goals first | (refine Need.mk ?_; rw [if_neg (by assumption), if_neg (by assumption), if_pos (by assumption)]; done) | skip
  all_goals have c4 := szIntS_run z (szJLs l (szJ ps (szM b c g o m))) (by omega) (by omega) hb.hz
  all_goals (repeat' (first | exact trivial | refine BS.a (fun h => ?_) (fun h => ?_) | refine BS.n ?_ | refine BS.s (fun h => ?_) (fun h => ?_) | refine And.intro ?_ ?_ | exact Need.au | exact OutS.whole rfl rfl | refine OpK.ca c4 hE ?_ | refine ListO.go gOk hE ?_))
  all_goals (refine Need.mk ?_; rw [if_neg (by assumption), if_neg (by assumption), if_neg (by assumption)])
  all_goals (have q4 := szI_le z (szJLs l (szJ ps (szM b c g o m))) (by omega); omega)
theorem toBase_run (b c : List Int) (g o : List (List Int)) (E : Int) (ps : List PinT) (l : List (List Row)) (z : List Int) (hb : BsOk 1048576 b c g o ps l z) : RunT Try.prog 59 [aBs 0 0 0 0 b c g o E ps l z] [] [.agg [tI b, tI c, tSL 280 g, tSL 280 o, .lit (.int .i64 E), tPin 240 ps, tLL 130 186 l, tI z]] [] := by
  have c1 := toMem_run 0 b c g o hb.mm.hb hb.mm.hc hb.mm.hg hb.mm.hg' hb.mm.ho hb.mm.ho'
  have c2 := toClock_run E 0 ps hb.hps
  have c3 := toLListS_run 0 0 l hb.hl hb.hl'
  have c4 := toIntS_run z hb.hz
  refine RunT.of_vc gOk Try.func59 rfl rfl (Nat.le_of_ble_eq_true rfl) (by repeat' (first | exact trivial | exact ⟨_, rfl, Nat.le_refl _⟩ | exact Nat.le_of_ble_eq_true rfl | refine And.intro ?_ ?_)) (Nat.le_of_ble_eq_true rfl) rfl (fun F hE => ?_)
  repeat' (first | exact trivial | refine BS.a (fun h => ?_) (fun h => ?_) | refine BS.n ?_ | refine BS.s (fun h => ?_) (fun h => ?_) | refine And.intro ?_ ?_ | exact Need.au | exact OutS.whole rfl rfl | refine OpK.ca c1 hE ?_ | refine OpK.ca c2 hE ?_ | refine OpK.ca c3 hE ?_ | refine OpK.ca c4 hE ?_ | refine ListO.go gOk hE ?_)
theorem eqBase_run (b c : List Int) (g o : List (List Int)) (E : Int) (ps : List PinT) (l : List (List Row)) (z : List Int) (hb : BsOk 4000000 b c g o ps l z) : RunT Try.prog 44 [aBs 280 240 130 186 b c g o E ps l z, aBs 280 240 130 186 b c g o E ps l z] [] [ob true] [] := by
  have c1 := eqMem_run 280 b c g o hb.mm.hb hb.mm.hc hb.mm.hg hb.mm.hg' hb.mm.ho hb.mm.ho'
  have c2 := eqClock_run E 240 ps hb.hps
  have c3 := eqLListS_run 130 186 l hb.hl hb.hl'
  have c4 := eqIntS_run z hb.hz
  refine RunT.of_vc gOk Try.func44 rfl rfl (Nat.le_of_ble_eq_true rfl) (by repeat' (first | exact trivial | exact ⟨_, rfl, Nat.le_refl _⟩ | exact Nat.le_of_ble_eq_true rfl | refine And.intro ?_ ?_)) (Nat.le_of_ble_eq_true rfl) rfl (fun F hE => ?_)
  repeat' (first | exact trivial | refine BS.a (fun h => ?_) (fun h => ?_) | refine BS.n ?_ | refine BS.s (fun h => ?_) (fun h => ?_) | refine And.intro ?_ ?_ | exact Need.au | exact OutS.whole rfl rfl | refine OpK.ca c1 hE ?_ | refine OpK.ca c2 hE ?_ | refine OpK.ca c3 hE ?_ | refine OpK.ca c4 hE ?_ | refine ListO.go gOk hE ?_)
end Go.Proofs.Ytjlphbhmjicdhaa
end

section
/- Queues. -/
namespace Go.Proofs.Ytjlphbhmjicdhaa
open Go Go.Tr
set_option maxRecDepth 100000
set_option maxHeartbeats 4000000
set_option linter.unusedVariables false
set_option linter.unusedSimpArgs false
theorem szQueue_run (e : Nat) (x : List OpT) (m : Int) (h0 : 0 ≤ m) (h1 : m ≤ 1048576) (hn : x.length ≤ 9223372036854775807) : RunT Try.prog 36 [.agg [.c (tOp e x)], ti m] [] [oi (szJ x m)] [] := by
  refine RunT.of_vc gOk Try.func36 rfl rfl (Nat.le_of_ble_eq_true rfl) (by repeat' (first | exact trivial | exact ⟨_, rfl, Nat.le_refl _⟩ | exact Nat.le_of_ble_eq_true rfl | refine And.intro ?_ ?_)) (Nat.le_of_ble_eq_true rfl) rfl (fun F hE => ?_)
  repeat' (first | exact trivial | refine BS.a (fun h => ?_) (fun h => ?_) | refine BS.n ?_ | refine BS.s (fun h => ?_) (fun h => ?_) | refine And.intro ?_ ?_ | exact Need.au | exact OutS.whole rfl rfl | refine ListO.go gOk hE ?_)
  refine OpK.call (szOpS_run e x m h0 h1 hn) rfl rfl rfl rfl hE (by repeat' (first | exact PsA.lit _ | exact PsA.ref rfl rfl | constructor)) rfl rfl ?_
  repeat' (first | exact trivial | refine BS.a (fun h => ?_) (fun h => ?_) | refine BS.n ?_ | refine BS.s (fun h => ?_) (fun h => ?_) | refine And.intro ?_ ?_ | exact Need.au | exact OutS.whole rfl rfl | refine ListO.go gOk hE ?_)
  refine Need.mk ?_
  unfold szJ at *
  split <;> simp_all <;> omega
theorem szQueueS_run (e' e : Nat) (xs : List (List OpT)) (m : Int) (h0 : 0 ≤ m) (h1 : m ≤ 1048576) (hn : xs.length ≤ 9223372036854775807) (hx : ∀ i, (xs.getD i []).length ≤ 9223372036854775807) : RunT Try.prog 8 [.one (.c (tQ e' e xs)), ti m] [] [oi (szJLs xs m)] [] := by
  refine RunT.of_vc gOk Try.func8 rfl rfl (Nat.le_of_ble_eq_true rfl) (by repeat' (first | exact trivial | exact ⟨_, rfl, Nat.le_refl _⟩ | exact Nat.le_of_ble_eq_true rfl | refine And.intro ?_ ?_)) (Nat.le_of_ble_eq_true rfl) rfl (fun F hE => ?_)
  repeat' (first | exact trivial | refine BS.a (fun h => ?_) (fun h => ?_) | refine BS.n ?_ | refine BS.s (fun h => ?_) (fun h => ?_) | refine And.intro ?_ ?_ | exact Need.au | exact OutS.whole rfl rfl | refine ListO.go gOk hE ?_)
  · refine Need.mk ?_
    unfold szJLs; rw [if_pos (by omega)]
  · refine CodeK.loop gOk hE (fun i : Nat × Int => ⟨[(0, vr 1000000 xs.length), (1, vi i.2), (5, vi i.1)], [(1000000, rQ .fro false e' e xs)]⟩) (fun i => i.1 ≤ xs.length ∧ 0 ≤ i.2 ∧ i.2 ≤ 1048576 ∧ szJLs xs m = szJL (xs.drop i.1) i.2) (fun i => xs.length - i.1) (0, m - xs.length) (by refine leT.of ?_ ?_ rfl <;> repeat' (first | exact trivial | refine And.intro rfl ?_ | refine And.intro (by simp) ?_)) ⟨Nat.zero_le _, by omega, by omega, by unfold szJLs; rw [if_neg (by omega)]; rfl⟩ ?_
    rintro ⟨i, b⟩ ⟨hi, hb, hb1, hs⟩
    dsimp only at hi hb hb1 hs
    repeat' (first | exact trivial | refine BS.a (fun h => ?_) (fun h => ?_) | refine BS.n ?_ | refine BS.s (fun h => ?_) (fun h => ?_) | refine And.intro ?_ ?_ | exact Need.au | exact OutS.whole rfl rfl | refine ListO.go gOk hE ?_)
    · have hc := drop_cons [] (xs := xs) (i := i) (by omega)
      refine OpK.call (szQueue_run e' _ _ hb hb1 (hx i)) rfl rfl rfl rfl hE (by repeat' (first | exact PsA.lit _ | exact PsA.ref rfl rfl | constructor)) rfl rfl ?_
      repeat' (first | exact trivial | refine BS.a (fun h => ?_) (fun h => ?_) | refine BS.n ?_ | refine BS.s (fun h => ?_) (fun h => ?_) | refine And.intro ?_ ?_ | exact Need.au | exact OutS.whole rfl rfl | refine ListO.go gOk hE ?_)
      · rename_i h
        refine Need.mk ?_
        rw [hs, hc, szJL, if_pos h]
      · rename_i h
        refine ⟨(i + 1, szJ (xs.getD i []) b), (by refine leT.of ?_ ?_ rfl <;> repeat' (first | exact trivial | refine And.intro rfl ?_ | refine And.intro (by simp) ?_)), ⟨?_, ?_, ?_, ?_⟩, ?_⟩
        · dsimp only; omega
        · dsimp only; omega
        · dsimp only; unfold szJ at h ⊢; split at h <;> split <;> omega
        · dsimp only; rw [hs, hc, szJL, if_neg h]
        · dsimp only; omega
    · refine Need.mk ?_
      rw [hs, List.drop_eq_nil_of_le (by omega)]; rfl
theorem toQueue_run (e : Nat) (x : List OpT) (hn : x.length ≤ 1048576) : RunT Try.prog 40 [.agg [.c (tOp e x)]] [] [.agg [tOp 114 x]] [] := by
  refine RunT.of_vc gOk Try.func40 rfl rfl (Nat.le_of_ble_eq_true rfl) (by repeat' (first | exact trivial | exact ⟨_, rfl, Nat.le_refl _⟩ | exact Nat.le_of_ble_eq_true rfl | refine And.intro ?_ ?_)) (Nat.le_of_ble_eq_true rfl) rfl (fun F hE => ?_)
  repeat' (first | exact trivial | refine BS.a (fun h => ?_) (fun h => ?_) | refine BS.n ?_ | refine BS.s (fun h => ?_) (fun h => ?_) | refine And.intro ?_ ?_ | exact Need.au | exact OutS.whole rfl rfl | refine ListO.go gOk hE ?_)
  refine OpK.call (toOpS_run e x hn) rfl rfl rfl rfl hE (by repeat' (first | exact PsA.lit _ | exact PsA.ref rfl rfl | constructor)) rfl rfl ?_
  repeat' (first | exact trivial | refine BS.a (fun h => ?_) (fun h => ?_) | refine BS.n ?_ | refine BS.s (fun h => ?_) (fun h => ?_) | refine And.intro ?_ ?_ | exact Need.au | exact OutS.whole rfl rfl | refine ListO.go gOk hE ?_)
theorem toQueueS_run (e' e : Nat) (xs : List (List OpT)) (hn : xs.length ≤ 1048576) (hx : ∀ i, (xs.getD i []).length ≤ 1048576) : RunT Try.prog 10 [.one (.c (tQ e' e xs))] [] [.one (tQ 114 102 xs)] [] := by
  refine RunT.of_vc gOk Try.func10 rfl rfl (Nat.le_of_ble_eq_true rfl) (by repeat' (first | exact trivial | exact ⟨_, rfl, Nat.le_refl _⟩ | exact Nat.le_of_ble_eq_true rfl | refine And.intro ?_ ?_)) (Nat.le_of_ble_eq_true rfl) rfl (fun F hE => ?_)
  repeat' (first | exact trivial | refine BS.a (fun h => ?_) (fun h => ?_) | refine BS.n ?_ | refine BS.s (fun h => ?_) (fun h => ?_) | refine And.intro ?_ ?_ | exact Need.au | exact OutS.whole rfl rfl | refine ListO.go gOk hE ?_)
  refine CodeK.loop gOk hE (fun i : Nat => ⟨[(0, vr 1000000 xs.length), (3, vr 7 xs.length), (4, vi i)], [(7, rQ .own true 114 102 (fl [] xs i)), (1000000, rQ .fro false e' e xs)]⟩) (fun i => i ≤ xs.length) (fun i => xs.length - i) 0 (by refine leT.of ?_ ?_ rfl <;> repeat' (first | exact trivial | refine And.intro rfl ?_ | refine And.intro (by simp [fl_zero] <;> rfl) ?_)) (Nat.zero_le _) ?_
  rintro i hi
  have hl := fl_len [] xs i hi
  repeat' (first | exact trivial | refine BS.a (fun h => ?_) (fun h => ?_) | refine BS.n ?_ | refine BS.s (fun h => ?_) (fun h => ?_) | refine And.intro ?_ ?_ | exact Need.au | exact OutS.whole rfl rfl | refine ListO.go gOk hE ?_)
  · refine OpK.call (toQueue_run e' _ (hx i)) rfl rfl rfl rfl hE (by repeat' (first | exact PsA.lit _ | exact PsA.ref rfl rfl | constructor)) rfl rfl ?_
    repeat' (first | exact trivial | refine BS.a (fun h => ?_) (fun h => ?_) | refine BS.n ?_ | refine BS.s (fun h => ?_) (fun h => ?_) | refine And.intro ?_ ?_ | exact Need.au | exact OutS.whole rfl rfl | refine ListO.go gOk hE ?_)
    refine OpK.stN gOk (xs.getD i []) rfl rfl rfl rfl rfl rfl rfl rfl rfl (by first | omega | (simp only [adN_zero]; omega)) (by first | exact (StN.ref (by rfl) (by first | rfl | simp) (by rfl) (by rfl) (by rfl) StN.nil) | exact (StN.emp (by rfl) StN.nil)) ?_
    repeat' (first | exact trivial | refine BS.a (fun h => ?_) (fun h => ?_) | refine BS.n ?_ | refine BS.s (fun h => ?_) (fun h => ?_) | refine And.intro ?_ ?_ | exact Need.au | exact OutS.whole rfl rfl | refine ListO.go gOk hE ?_)
    all_goals (refine ⟨i + 1, (by refine leT.of ?_ ?_ rfl <;> repeat' (first | exact trivial | refine And.intro rfl ?_ | refine And.intro (by first | (rw [← fl_set [] xs i (by omega)]; rfl) | (simp <;> rfl)) ?_)), ?_⟩; (refine And.intro ?_ ?_) <;> (first | omega | (dsimp only; omega) | trivial))
  · exact OutS.whole hl.symm (by rw [fl_full _ _ _ (by omega) hi]; rfl)
theorem eqQueue_run (e : Nat) (x : List OpT) (hn : x.length ≤ 4000000) : RunT Try.prog 46 [.agg [.c (tOp e x)], .agg [.c (tOp e x)]] [] [ob true] [] := by
  refine RunT.of_vc gOk Try.func46 rfl rfl (Nat.le_of_ble_eq_true rfl) (by repeat' (first | exact trivial | exact ⟨_, rfl, Nat.le_refl _⟩ | exact Nat.le_of_ble_eq_true rfl | refine And.intro ?_ ?_)) (Nat.le_of_ble_eq_true rfl) rfl (fun F hE => ?_)
  repeat' (first | exact trivial | refine BS.a (fun h => ?_) (fun h => ?_) | refine BS.n ?_ | refine BS.s (fun h => ?_) (fun h => ?_) | refine And.intro ?_ ?_ | exact Need.au | exact OutS.whole rfl rfl | refine ListO.go gOk hE ?_)
  refine OpK.call (eqOpS_run e x hn) rfl rfl rfl rfl hE (by repeat' (first | exact PsA.lit _ | exact PsA.ref rfl rfl | constructor)) rfl rfl ?_
  repeat' (first | exact trivial | refine BS.a (fun h => ?_) (fun h => ?_) | refine BS.n ?_ | refine BS.s (fun h => ?_) (fun h => ?_) | refine And.intro ?_ ?_ | exact Need.au | exact OutS.whole rfl rfl | refine ListO.go gOk hE ?_)
theorem eqQueueS_run (e' e : Nat) (xs : List (List OpT)) (hn : xs.length ≤ 4000000) (hx : ∀ i, (xs.getD i []).length ≤ 4000000) : RunT Try.prog 13 [.one (.c (tQ e' e xs)), .one (.c (tQ e' e xs))] [] [ob true] [] := by
  refine RunT.of_vc gOk Try.func13 rfl rfl (Nat.le_of_ble_eq_true rfl) (by repeat' (first | exact trivial | exact ⟨_, rfl, Nat.le_refl _⟩ | exact Nat.le_of_ble_eq_true rfl | refine And.intro ?_ ?_)) (Nat.le_of_ble_eq_true rfl) rfl (fun F hE => ?_)
  repeat' (first | exact trivial | refine BS.a (fun h => ?_) (fun h => ?_) | refine BS.n ?_ | refine BS.s (fun h => ?_) (fun h => ?_) | refine And.intro ?_ ?_ | exact Need.au | exact OutS.whole rfl rfl | refine ListO.go gOk hE ?_)
  · refine CodeK.loop gOk hE (fun i : Nat => ⟨[(0, vr 1000000 xs.length), (1, vr 1000001 xs.length), (5, vi i)], [(1000000, rQ .fro false e' e xs), (1000001, rQ .fro false e' e xs)]⟩) (fun i => i ≤ xs.length) (fun i => xs.length - i) 0 (by refine leT.of ?_ ?_ rfl <;> repeat' (first | exact trivial | refine And.intro rfl ?_ | refine And.intro (by simp) ?_)) (Nat.zero_le _) ?_
    rintro i hi
    repeat' (first | exact trivial | refine BS.a (fun h => ?_) (fun h => ?_) | refine BS.n ?_ | refine BS.s (fun h => ?_) (fun h => ?_) | refine And.intro ?_ ?_ | exact Need.au | exact OutS.whole rfl rfl | refine ListO.go gOk hE ?_)
    · refine CodeK.draw gOk hE rfl (fun _ _ h => h) (.take 0 (.take 1 (.take 2 (.take 4 (.take 5 (.take 6 (.alt 3 (.alt 7 (.alt 8 (.take 9 .done) .stop) .stop) (.alt 7 (.alt 3 (.alt 8 (.take 9 .done) .stop) .stop) .stop)))))))) (by decide +kernel) ?_
      repeat' (first | exact trivial | refine BS.a (fun h => ?_) (fun h => ?_) | refine BS.n ?_ | refine BS.s (fun h => ?_) (fun h => ?_) | refine And.intro ?_ ?_ | exact Need.au | exact OutS.whole rfl rfl | refine ListO.go gOk hE ?_)
      all_goals (refine OpK.call (eqQueue_run e' _ (hx i)) rfl rfl rfl rfl hE (by repeat' (first | exact PsA.lit _ | exact PsA.ref rfl rfl | constructor)) rfl rfl ?_)
      all_goals (repeat' (first | exact trivial | refine BS.a (fun h => ?_) (fun h => ?_) | refine BS.n ?_ | refine BS.s (fun h => ?_) (fun h => ?_) | refine And.intro ?_ ?_ | exact Need.au | exact OutS.whole rfl rfl | refine ListO.go gOk hE ?_))
      all_goals (refine ⟨i + 1, (by refine leT.of ?_ ?_ rfl <;> repeat' (first | exact trivial | refine And.intro rfl ?_ | refine And.intro (by simp) ?_)), ?_⟩; (refine And.intro ?_ ?_) <;> (first | omega | (dsimp only; omega) | trivial))
theorem queues_of {e e' e2 n : Nat} {row : Nat → Nat → C} (hn : n ≤ 9223372036854775807) (h : ∀ i r t, i < n → ([Dt.sl [.i, .i, .i, .i]] : List Dt)[r]? = some t → DtOk t (row i r)) : ∃ xs : List (List OpT), xs.length = n ∧ (∀ x ∈ xs, x.length ≤ 9223372036854775807) ∧ CSame (.sl .fro e 1 n row) ((tQ e2 e' xs).er .fro) :=
  list_of decQ [] 1 (fun f hf => by
    obtain ⟨e3, n2, row2, hz, h1, h2⟩ := (hf 0 (.sl [.i, .i, .i, .i]) rfl).slice
    obtain ⟨xs, k1, k2, k3⟩ := Ops_of (e := e3) (e' := e2) h1 h2
    refine ⟨xs, by omega, fun r hr => ?_⟩
    obtain rfl : r = 0 := by omega
    rw [hz]; exact k3) h
end Go.Proofs.Ytjlphbhmjicdhaa
end

section
/- A shelf. -/
namespace Go.Proofs.Ytjlphbhmjicdhaa
open Go Go.Tr
set_option maxRecDepth 100000
set_option maxHeartbeats 4000000
set_option linter.unusedVariables false
set_option linter.unusedSimpArgs false
abbrev aSf (e eP eR eL eJ eO eQ eE : Nat) (b c : List Int) (g o : List (List Int)) (E : Int) (ps : List PinT) (l : List (List Row)) (z : List Int) (cs : List Int) (js : List JobT) (ts : List (List OpT)) (ev : List EvT) (sn : Int) : TAg := .agg [.c (tI b), .c (tI c), .c (tSL e g), .c (tSL e o), .c (.lit (.int .i64 E)), .c (tPin eP ps), .c (tLL eR eL l), .c (tI z), .c (tI cs), .c (tJob eJ js), .c (tQ eO eQ ts), .c (tEv eE ev), .c (.lit (.int .i64 sn))]
abbrev oSf (e eP eR eL eJ eO eQ eE : Nat) (b c : List Int) (g o : List (List Int)) (E : Int) (ps : List PinT) (l : List (List Row)) (z : List Int) (cs : List Int) (js : List JobT) (ts : List (List OpT)) (ev : List EvT) (sn : Int) : TAr := .agg [tI b, tI c, tSL e g, tSL e o, .lit (.int .i64 E), tPin eP ps, tLL eR eL l, tI z, tI cs, tJob eJ js, tQ eO eQ ts, tEv eE ev, .lit (.int .i64 sn)]
structure SfOk (m : Nat) (b c : List Int) (g o : List (List Int)) (ps : List PinT) (l : List (List Row)) (z : List Int) (cs : List Int) (js : List JobT) (ts : List (List OpT)) (ev : List EvT) : Prop where
  bs : BsOk m b c g o ps l z
  hcs : cs.length ≤ m
  hjs : js.length ≤ m
  hts : ts.length ≤ m
  hts' : ∀ i, (ts.getD i []).length ≤ m
  hev : ev.length ≤ m
theorem SfOk.le {m m' : Nat} {b c : List Int} {g o : List (List Int)} {ps : List PinT} {l : List (List Row)} {z : List Int} {cs : List Int} {js : List JobT} {ts : List (List OpT)} {ev : List EvT} (h : SfOk m b c g o ps l z cs js ts ev) (hm : m ≤ m') : SfOk m' b c g o ps l z cs js ts ev :=
  ⟨h.bs.le hm, Nat.le_trans h.hcs hm, Nat.le_trans h.hjs hm, Nat.le_trans h.hts hm, fun i => Nat.le_trans (h.hts' i) hm, Nat.le_trans h.hev hm⟩
def szSf (b c : List Int) (g o : List (List Int)) (ps : List PinT) (l : List (List Row)) (z : List Int) (cs : List Int) (js : List JobT) (ts : List (List OpT)) (ev : List EvT) (m : Int) : Int := ch (szB b c g o ps l z m) fun x => ch (szI cs x) fun y => ch (szJ js y) fun u => ch (szJLs ts u) fun v => szJ ev v
theorem szSf_ok {m : Int} {b c : List Int} {g o : List (List Int)} {ps : List PinT} {l : List (List Row)} {z : List Int} {cs : List Int} {js : List JobT} {ts : List (List OpT)} {ev : List EvT} (h0 : 0 ≤ m) (h1 : m ≤ 1048576) : szSf b c g o ps l z cs js ts ev m ≤ m ∧ -1 ≤ szSf b c g o ps l z cs js ts ev m ∧ (0 ≤ szSf b c g o ps l z cs js ts ev m → SfOk 1048576 b c g o ps l z cs js ts ev) := by
  unfold szSf ch
  dsimp only
  obtain ⟨a1, a2, a3⟩ := szB_ok (b := b) (c := c) (g := g) (o := o) (ps := ps) (l := l) (z := z) h0 h1
  split
  · exact ⟨by omega, by omega, fun h => by omega⟩
  have k1 := a3 (by omega)
  have b1 := szI_le cs (szB b c g o ps l z m) (by omega)
  split
  · exact ⟨by omega, by omega, fun h => by omega⟩
  have b2 := szJ_bd js (szI cs (szB b c g o ps l z m)) (by omega)
  split
  · exact ⟨by omega, by omega, fun h => by omega⟩
  obtain ⟨d1, d2, d3⟩ := szJLs_le ts (szJ js (szI cs (szB b c g o ps l z m))) (by omega)
  split
  · exact ⟨by omega, by omega, fun h => by omega⟩
  obtain ⟨d4, d5, d6⟩ := d3 (by omega)
  have b4 := szJ_bd ev (szJLs ts (szJ js (szI cs (szB b c g o ps l z m)))) (by omega)
  exact ⟨by omega, by omega, fun h => ⟨k1, by omega, by omega, by omega, getD_leR fun x hx => (by have := d6 x hx; omega), by omega⟩⟩
theorem szShelf_run (b c : List Int) (g o : List (List Int)) (E : Int) (ps : List PinT) (l : List (List Row)) (z : List Int) (cs : List Int) (js : List JobT) (ts : List (List OpT)) (ev : List EvT) (sn : Int) (m : Int) (h0 : 0 ≤ m) (h1 : m ≤ 1048576) (hb : SfOk 9223372036854775807 b c g o ps l z cs js ts ev) : RunT Try.prog 17 [aSf 0 0 0 0 0 0 0 0 b c g o E ps l z cs js ts ev sn, ti m] [] [oi (szSf b c g o ps l z cs js ts ev m)] [] := by
  obtain ⟨q1, q2, q0⟩ := szB_ok (b := b) (c := c) (g := g) (o := o) (ps := ps) (l := l) (z := z) h0 h1
  have c1 := szBase_run b c g o E ps l z m h0 h1 hb.bs
  unfold szSf ch
  dsimp only
  generalize szB b c g o ps l z m = s1 at *
  by_cases k1 : s1 < 0
  · rw [if_pos k1]
    refine RunT.of_vc gOk Try.func17 rfl rfl (Nat.le_of_ble_eq_true rfl) (by repeat' (first | exact trivial | exact ⟨_, rfl, Nat.le_refl _⟩ | exact Nat.le_of_ble_eq_true rfl | refine And.intro ?_ ?_)) (Nat.le_of_ble_eq_true rfl) rfl (fun F hE => ?_)
    repeat' (first | exact trivial | refine BS.a (fun h => ?_) (fun h => ?_) | refine BS.n ?_ | refine BS.s (fun h => ?_) (fun h => ?_) | refine And.intro ?_ ?_ | exact Need.au | exact OutS.whole rfl rfl | refine OpK.ca c1 hE ?_ | refine ListO.go gOk hE ?_)
    all_goals first | exact Need.mk rfl | (exfalso; omega) | trace_state
  rw [if_neg k1]
  have c2 := szIntS_run cs s1 (by omega) (by omega) hb.hcs
  have r2 := szI_le cs s1 (by omega)
  generalize szI cs s1 = s2 at *
  by_cases k2 : s2 < 0
  · rw [if_pos k2]
    refine RunT.of_vc gOk Try.func17 rfl rfl (Nat.le_of_ble_eq_true rfl) (by repeat' (first | exact trivial | exact ⟨_, rfl, Nat.le_refl _⟩ | exact Nat.le_of_ble_eq_true rfl | refine And.intro ?_ ?_)) (Nat.le_of_ble_eq_true rfl) rfl (fun F hE => ?_)
    repeat' (first | exact trivial | refine BS.a (fun h => ?_) (fun h => ?_) | refine BS.n ?_ | refine BS.s (fun h => ?_) (fun h => ?_) | refine And.intro ?_ ?_ | exact Need.au | exact OutS.whole rfl rfl | refine OpK.ca c1 hE ?_ | refine OpK.ca c2 hE ?_ | refine ListO.go gOk hE ?_)
    all_goals first | exact Need.mk rfl | (exfalso; omega) | trace_state
  rw [if_neg k2]
  have c3 := szJobS_run 0 js s2 (by omega) (by omega) hb.hjs
  have r3 := szJ_bd js s2 (by omega)
  generalize szJ js s2 = s3 at *
  by_cases k3 : s3 < 0
  · rw [if_pos k3]
    refine RunT.of_vc gOk Try.func17 rfl rfl (Nat.le_of_ble_eq_true rfl) (by repeat' (first | exact trivial | exact ⟨_, rfl, Nat.le_refl _⟩ | exact Nat.le_of_ble_eq_true rfl | refine And.intro ?_ ?_)) (Nat.le_of_ble_eq_true rfl) rfl (fun F hE => ?_)
    repeat' (first | exact trivial | refine BS.a (fun h => ?_) (fun h => ?_) | refine BS.n ?_ | refine BS.s (fun h => ?_) (fun h => ?_) | refine And.intro ?_ ?_ | exact Need.au | exact OutS.whole rfl rfl | refine OpK.ca c1 hE ?_ | refine OpK.ca c2 hE ?_ | refine OpK.ca c3 hE ?_ | refine ListO.go gOk hE ?_)
    all_goals first | exact Need.mk rfl | (exfalso; omega) | trace_state
  rw [if_neg k3]
  have c4 := szQueueS_run 0 0 ts s3 (by omega) (by omega) hb.hts hb.hts'
  have r4 := szJLs_le ts s3 (by omega)
  generalize szJLs ts s3 = s4 at *
  by_cases k4 : s4 < 0
  · rw [if_pos k4]
    refine RunT.of_vc gOk Try.func17 rfl rfl (Nat.le_of_ble_eq_true rfl) (by repeat' (first | exact trivial | exact ⟨_, rfl, Nat.le_refl _⟩ | exact Nat.le_of_ble_eq_true rfl | refine And.intro ?_ ?_)) (Nat.le_of_ble_eq_true rfl) rfl (fun F hE => ?_)
    repeat' (first | exact trivial | refine BS.a (fun h => ?_) (fun h => ?_) | refine BS.n ?_ | refine BS.s (fun h => ?_) (fun h => ?_) | refine And.intro ?_ ?_ | exact Need.au | exact OutS.whole rfl rfl | refine OpK.ca c1 hE ?_ | refine OpK.ca c2 hE ?_ | refine OpK.ca c3 hE ?_ | refine OpK.ca c4 hE ?_ | refine ListO.go gOk hE ?_)
    all_goals first | exact Need.mk rfl | (exfalso; omega) | trace_state
  rw [if_neg k4]
  have c5 := szEvS_run 0 ev s4 (by omega) (by omega) hb.hev
  have r5 := szJ_bd ev s4 (by omega)
  generalize szJ ev s4 = s5 at *
  refine RunT.of_vc gOk Try.func17 rfl rfl (Nat.le_of_ble_eq_true rfl) (by repeat' (first | exact trivial | exact ⟨_, rfl, Nat.le_refl _⟩ | exact Nat.le_of_ble_eq_true rfl | refine And.intro ?_ ?_)) (Nat.le_of_ble_eq_true rfl) rfl (fun F hE => ?_)
  repeat' (first | exact trivial | refine BS.a (fun h => ?_) (fun h => ?_) | refine BS.n ?_ | refine BS.s (fun h => ?_) (fun h => ?_) | refine And.intro ?_ ?_ | exact Need.au | exact OutS.whole rfl rfl | refine OpK.ca c1 hE ?_ | refine OpK.ca c2 hE ?_ | refine OpK.ca c3 hE ?_ | refine OpK.ca c4 hE ?_ | refine OpK.ca c5 hE ?_ | refine ListO.go gOk hE ?_)
  all_goals first | exact Need.mk rfl | (refine Need.mk ?_; omega) | (exfalso; omega) | trace_state
theorem toShelf_run (b c : List Int) (g o : List (List Int)) (E : Int) (ps : List PinT) (l : List (List Row)) (z : List Int) (cs : List Int) (js : List JobT) (ts : List (List OpT)) (ev : List EvT) (sn : Int) (hb : SfOk 1048576 b c g o ps l z cs js ts ev) : RunT Try.prog 19 [aSf 0 0 0 0 0 0 0 0 b c g o E ps l z cs js ts ev sn] [] [oSf 280 240 130 186 118 114 102 120 b c g o E ps l z cs js ts ev sn] [] := by
  have c1 := toBase_run b c g o E ps l z hb.bs
  have c2 := toIntS_run cs hb.hcs
  have c3 := toJobS_run 0 js hb.hjs
  have c4 := toQueueS_run 0 0 ts hb.hts hb.hts'
  have c5 := toEvS_run 0 ev hb.hev
  refine RunT.of_vc gOk Try.func19 rfl rfl (Nat.le_of_ble_eq_true rfl) (by repeat' (first | exact trivial | exact ⟨_, rfl, Nat.le_refl _⟩ | exact Nat.le_of_ble_eq_true rfl | refine And.intro ?_ ?_)) (Nat.le_of_ble_eq_true rfl) rfl (fun F hE => ?_)
  repeat' (first | exact trivial | refine BS.a (fun h => ?_) (fun h => ?_) | refine BS.n ?_ | refine BS.s (fun h => ?_) (fun h => ?_) | refine And.intro ?_ ?_ | exact Need.au | exact OutS.whole rfl rfl | refine OpK.ca c1 hE ?_ | refine OpK.ca c2 hE ?_ | refine OpK.ca c3 hE ?_ | refine OpK.ca c4 hE ?_ | refine OpK.ca c5 hE ?_ | refine ListO.go gOk hE ?_)
theorem eqShelf_run (b c : List Int) (g o : List (List Int)) (E : Int) (ps : List PinT) (l : List (List Row)) (z : List Int) (cs : List Int) (js : List JobT) (ts : List (List OpT)) (ev : List EvT) (sn : Int) (hb : SfOk 4000000 b c g o ps l z cs js ts ev) : RunT Try.prog 12 [aSf 280 240 130 186 118 114 102 120 b c g o E ps l z cs js ts ev sn, aSf 280 240 130 186 118 114 102 120 b c g o E ps l z cs js ts ev sn] [] [ob true] [] := by
  have c1 := eqBase_run b c g o E ps l z hb.bs
  have c2 := eqIntS_run cs hb.hcs
  have c3 := eqJobS_run 118 js hb.hjs
  have c4 := eqQueueS_run 114 102 ts hb.hts hb.hts'
  have c5 := eqEvS_run 120 ev hb.hev
  refine RunT.of_vc gOk Try.func12 rfl rfl (Nat.le_of_ble_eq_true rfl) (by repeat' (first | exact trivial | exact ⟨_, rfl, Nat.le_refl _⟩ | exact Nat.le_of_ble_eq_true rfl | refine And.intro ?_ ?_)) (Nat.le_of_ble_eq_true rfl) rfl (fun F hE => ?_)
  repeat' (first | exact trivial | refine BS.a (fun h => ?_) (fun h => ?_) | refine BS.n ?_ | refine BS.s (fun h => ?_) (fun h => ?_) | refine And.intro ?_ ?_ | exact Need.au | exact OutS.whole rfl rfl | refine OpK.ca c1 hE ?_ | refine OpK.ca c2 hE ?_ | refine OpK.ca c3 hE ?_ | refine OpK.ca c4 hE ?_ | refine OpK.ca c5 hE ?_ | refine ListO.go gOk hE ?_)
  all_goals first | exact absurd rfl h | (simp_all; done) | trace_state
end Go.Proofs.Ytjlphbhmjicdhaa
end

section
namespace Go.Proofs.Ytjlphbhmjicdhaa
open Go Go.Tr
set_option maxRecDepth 100000
set_option maxHeartbeats 4000000
set_option linter.unusedVariables false
set_option linter.unusedSimpArgs false
/-- The number of all rows. -/
def cnt : List (List Row) → Int
  | [] => 0
  | x :: l => x.length + cnt l
theorem cnt_nn : ∀ xs : List (List Row), 0 ≤ cnt xs
  | [] => Int.le_refl _
  | x :: l => by have := cnt_nn l; unfold cnt; omega
theorem cnt_drop {xs : List (List Row)} {i : Nat} (h : i < xs.length) : cnt (xs.drop i) = (xs.getD i []).length + cnt (xs.drop (i + 1)) := by
  rw [drop_cons [] h]; rfl
theorem rowFlat : ∀ (x : Row) (r : Nat), r < 2 → ∃ v, encR x r = .lit v ∧ encR x r = .lit v := fun x r _ => by cases r <;> exact ⟨_, rfl, rfl⟩
theorem rtake_flat {xs : List (List Row)} {i : Nat} (h : i < xs.length) : (xs.take (i + 1)).flatten = (xs.take i).flatten ++ xs.getD i [] := by
  rw [List.take_succ_eq_append_getElem h, List.flatten_append]
  congr 1
  simp [List.getD, h]
theorem flat_len (xs : List (List Row)) : (xs.flatten.length : Int) = cnt xs := by
  induction xs with
  | nil => rfl
  | cons x l ih => simp [cnt, ← ih]
theorem flat_le (xs : List (List Row)) (i : Nat) : ((xs.take i).flatten.length : Int) + cnt (xs.drop i) = cnt xs := by
  have h : cnt xs = cnt (xs.take i ++ xs.drop i) := by rw [List.take_append_drop]
  rw [h, ← flat_len, ← flat_len, List.flatten_append, List.length_append]; rfl
theorem l11All_run (e' e : Nat) (xs : List (List Row)) (hn : xs.length ≤ 1048576) (hcn : cnt xs ≤ 1048576) : RunT Try.prog 70 [.one (.c (tLL e' e xs))] [] [.one (tR 130 xs.flatten)] [] := by
  refine RunT.of_vc gOk Try.func70 rfl rfl (Nat.le_of_ble_eq_true rfl) (by repeat' (first | exact trivial | exact ⟨_, rfl, Nat.le_refl _⟩ | exact Nat.le_of_ble_eq_true rfl | refine And.intro ?_ ?_)) (Nat.le_of_ble_eq_true rfl) rfl (fun F hE => ?_)
  repeat' (first | exact trivial | refine BS.a (fun h => ?_) (fun h => ?_) | refine BS.n ?_ | refine BS.s (fun h => ?_) (fun h => ?_) | refine And.intro ?_ ?_ | exact Need.au | exact OutS.whole rfl rfl | refine ListO.go gOk hE ?_)
  refine CodeK.loop gOk hE (fun i : Nat => ⟨[(0, vr 1000000 xs.length), (3, vr 5 (xs.take i).flatten.length), (4, vi i)], [(5, rR .own true 130 (xs.take i).flatten), (1000000, rLL .fro false e' e xs)]⟩) (fun i => i ≤ xs.length) (fun i => xs.length - i) 0 (by refine leT.of ?_ ?_ rfl <;> repeat' (first | exact trivial | refine And.intro rfl ?_ | refine And.intro (by simp) ?_)) (Nat.zero_le _) ?_
  rintro i hi
  have hf := flat_le xs i
  have nn := cnt_nn (xs.drop (i + 1))
  repeat' (first | exact trivial | refine BS.a (fun h => ?_) (fun h => ?_) | refine BS.n ?_ | refine BS.s (fun h => ?_) (fun h => ?_) | refine And.intro ?_ ?_ | exact Need.au | exact OutS.whole rfl rfl | refine ListO.go gOk hE ?_)
  · have hc := cnt_drop (xs := xs) (i := i) (by omega)
    refine OpK.apps gOk (by rfl) (by rfl) (by rfl) (by rfl) (by rfl) (by rfl) (by rfl) (by rfl) (by rfl) (by rfl) (by first | rfl | simp) (by exact rowFlat) (by rfl) (by refine ⟨?_, ?_⟩ <;> (try unfold maxLen) <;> (try simp only [adN_zero]) <;> omega) ?_
    repeat' (first | exact trivial | refine BS.a (fun h => ?_) (fun h => ?_) | refine BS.n ?_ | refine BS.s (fun h => ?_) (fun h => ?_) | refine And.intro ?_ ?_ | exact Need.au | exact OutS.whole rfl rfl | refine ListO.go gOk hE ?_)
    all_goals (refine ⟨i + 1, (by refine leT.of ?_ ?_ rfl <;> repeat' (first | exact trivial | refine And.intro rfl ?_ | refine And.intro (by rw [rtake_flat (by omega)] <;> rfl) ?_)), ?_⟩; (refine And.intro ?_ ?_) <;> (first | omega | (dsimp only; omega) | trivial))
  · exact OutS.whole rfl (by rw [List.take_of_length_le (by omega)]; rfl)
end Go.Proofs.Ytjlphbhmjicdhaa
end

section
/- What the size of a shelf bounds. -/
namespace Go.Proofs.Ytjlphbhmjicdhaa
open Go Go.Tr
set_option maxRecDepth 100000
set_option maxHeartbeats 4000000
set_option linter.unusedVariables false
set_option linter.unusedSimpArgs false
theorem szSL_eqF : ∀ (l : List (List Int)) (m : Int), 0 ≤ m → 0 ≤ szSL l m → szSL l m = m - l.flatten.length
  | [], m, h, _ => by simp [szSL]
  | x :: l, m, h, h2 => by
    obtain ⟨k1, k2, k3⟩ := szI_le x m h
    unfold szSL at h2 ⊢
    split at h2
    · omega
    · rename_i hn
      rw [if_neg hn, szSL_eqF l _ (by omega) h2, List.flatten_cons, List.length_append]
      have : szI x m = m - x.length := by unfold szI at hn ⊢; split at hn <;> first | omega | (rw [if_neg (by assumption)])
      omega
theorem flat_memF {l : List (List Int)} {x : List Int} (h : x ∈ l) : x.length ≤ l.flatten.length := by
  induction l with
  | nil => cases h
  | cons y l ih =>
    rw [List.flatten_cons, List.length_append]
    rcases List.mem_cons.1 h with rfl | h
    · omega
    · have := ih h; omega
theorem szL_okF {g o : List (List Int)} {m : Int} (hm0 : 0 ≤ m) (hm1 : m ≤ 1048576) (h : ¬ (if szSLs g m < 0 then (-1 : Int) else szSLs o (szSLs g m)) < 0) : g.length + o.length + g.flatten.length + o.flatten.length ≤ 1048576 ∧ (∀ i, (g.getD i []).length ≤ 1048576) ∧ (∀ i, (o.getD i []).length ≤ 1048576) ∧ ∀ i, ((g ++ o).getD i []).length ≤ 1048576 := by
  have h1 : ¬ szSLs g m < 0 := by intro hh; rw [if_pos hh] at h; omega
  rw [if_neg h1] at h
  unfold szSLs at h1
  split at h1
  · omega
  have e1 := szSL_eqF g (m - g.length) (by omega) (by omega)
  have e0 : szSLs g m = m - g.length - g.flatten.length := by unfold szSLs; rw [if_neg (by assumption), e1]
  rw [e0] at h
  unfold szSLs at h
  split at h
  · omega
  have e2 := szSL_eqF o _ (by omega) (by omega : 0 ≤ szSL o (m - g.length - g.flatten.length - o.length))
  have hb : g.length + o.length + g.flatten.length + o.flatten.length ≤ 1048576 := by omega
  refine ⟨hb, getD_le fun x hx => by have := flat_memF hx; omega, getD_le fun x hx => by have := flat_memF hx; omega, getD_le fun x hx => ?_⟩
  rcases List.mem_append.1 hx with hx | hx <;> (have := flat_memF hx; omega)
theorem szB_sum {b c : List Int} {g o : List (List Int)} {ps : List PinT} {l : List (List Row)} {z : List Int} {m : Int} (h0 : 0 ≤ m) (h1 : m ≤ 1048576) (h : ¬ szB b c g o ps l z m < 0) : b.length + c.length ≤ m ∧ g.flatten.length + o.flatten.length ≤ 1048576 ∧ cnt l ≤ 1048576 := by
  unfold szB ch at h
  dsimp only at h
  have a := szM_le b c g o m h0
  split at h
  · omega
  rename_i hm
  have a2 := szJ_bd ps (szM b c g o m) (by omega)
  split at h
  · omega
  obtain ⟨b1, b2, b3⟩ := szJLs_le l (szJ ps (szM b c g o m)) (by omega)
  split at h
  · omega
  obtain ⟨b4, b5, b6⟩ := b3 (by omega)
  have q := szH_le b c m h0
  unfold szM at hm
  split at hm
  · omega
  · rename_i hh
    obtain ⟨h2, h3, h4, h5⟩ := szL_okF (g := g) (o := o) (m := szH b c m) (by omega) (by omega) hm
    refine ⟨?_, by omega, ?_⟩
    · unfold szH at hh
      unfold szI at hh
      split at hh <;> (try split at hh) <;> omega
    · rw [← flat_len]; omega
theorem szSf_B {b c : List Int} {g o : List (List Int)} {ps : List PinT} {l : List (List Row)} {z : List Int} {cs : List Int} {js : List JobT} {ts : List (List OpT)} {ev : List EvT} {m : Int} (h : ¬ szSf b c g o ps l z cs js ts ev m < 0) : ¬ szB b c g o ps l z m < 0 := by
  intro hh
  apply h
  unfold szSf ch
  dsimp only
  rw [if_pos hh]
  omega
end Go.Proofs.Ytjlphbhmjicdhaa
end

section
namespace Go.Proofs.Ytjlphbhmjicdhaa
open Go Go.Tr
set_option maxRecDepth 100000
set_option maxHeartbeats 4000000
set_option linter.unusedVariables false
set_option linter.unusedSimpArgs false
theorem l1InB_run (x a b : Int) : RunT Try.prog 135 [ti x, ti a, ti b] [] [ob (decide (a ≤ x ∧ x ≤ b))] [] := by
  refine RunT.of_vc gOk Try.func135 rfl rfl (Nat.le_of_ble_eq_true rfl) (by repeat' (first | exact trivial | exact ⟨_, rfl, Nat.le_refl _⟩ | exact Nat.le_of_ble_eq_true rfl | refine And.intro ?_ ?_)) (Nat.le_of_ble_eq_true rfl) rfl (fun F hE => ?_)
  repeat' (first | exact trivial | refine BS.a (fun h => ?_) (fun h => ?_) | refine BS.n ?_ | refine BS.s (fun h => ?_) (fun h => ?_) | refine And.intro ?_ ?_ | exact Need.au | exact OutS.whole rfl rfl | refine ListO.go gOk hE ?_)
  all_goals (refine Need.mk ?_; simp [*])
end Go.Proofs.Ytjlphbhmjicdhaa
end

section
/- Handles. -/
namespace Go.Proofs.Ytjlphbhmjicdhaa
open Go Go.Tr
set_option maxRecDepth 100000
set_option maxHeartbeats 4000000
set_option linter.unusedVariables false
set_option linter.unusedSimpArgs false
def hOk (h : Int) : Bool := decide (32 ≤ h ∧ h ≤ 223 ∧ h % 32 < 24)
def hSlot (h : Int) : Int := if hOk h then h % 32 else -1
def hGen (h : Int) : Int := if hOk h then h / 32 else 0
theorem hOk_iff {h : Int} : hOk h = true ↔ 32 ≤ h ∧ h ≤ 223 ∧ h % 32 < 24 := by unfold hOk; exact decide_eq_true_iff
end Go.Proofs.Ytjlphbhmjicdhaa
end

section
namespace Go.Proofs.Ytjlphbhmjicdhaa
open Go Go.Tr
set_option maxRecDepth 100000
set_option maxHeartbeats 4000000
set_option linter.unusedVariables false
set_option linter.unusedSimpArgs false
end Go.Proofs.Ytjlphbhmjicdhaa
end

section
namespace Go.Proofs.Ytjlphbhmjicdhaa
open Go Go.Tr
set_option maxRecDepth 100000
set_option maxHeartbeats 4000000
set_option linter.unusedVariables false
set_option linter.unusedSimpArgs false
theorem allRows_run (e' e : Nat) (xs : List (List Row)) (hn : xs.length ≤ 1048576) (hcn : cnt xs ≤ 1048576) : RunT Try.prog 71 [.one (.c (tLL e' e xs))] [] [.one (tR 130 xs.flatten)] [] := by
  refine RunT.of_vc gOk Try.func71 rfl rfl (Nat.le_of_ble_eq_true rfl) (by repeat' (first | exact trivial | exact ⟨_, rfl, Nat.le_refl _⟩ | exact Nat.le_of_ble_eq_true rfl | refine And.intro ?_ ?_)) (Nat.le_of_ble_eq_true rfl) rfl (fun F hE => ?_)
  repeat' (first | exact trivial | refine BS.a (fun h => ?_) (fun h => ?_) | refine BS.n ?_ | refine BS.s (fun h => ?_) (fun h => ?_) | refine And.intro ?_ ?_ | exact Need.au | exact OutS.whole rfl rfl | refine ListO.go gOk hE ?_)
  refine CodeK.nilT gOk hE 3 900000 130 2 Row encR decR (0, 0) (by rfl) (by rfl) (by decide) ?_
  repeat' (first | exact trivial | refine BS.a (fun h => ?_) (fun h => ?_) | refine BS.n ?_ | refine BS.s (fun h => ?_) (fun h => ?_) | refine And.intro ?_ ?_ | exact Need.au | exact OutS.whole rfl rfl | refine ListO.go gOk hE ?_)
  refine CodeK.loop gOk hE (fun i : Nat => ⟨[(6, vr 1000000 xs.length), (3, vr 900000 (xs.take i).flatten.length), (7, vi xs.length), (8, vi i)], [(900000, rR .own true 130 (xs.take i).flatten), (1000000, rLL .fro false e' e xs)]⟩) (fun i => i ≤ xs.length) (fun i => xs.length - i) 0 (by refine leT.of ?_ ?_ rfl <;> repeat' (first | exact trivial | refine And.intro rfl ?_ | refine And.intro (by simp) ?_)) (Nat.zero_le _) ?_
  rintro i hi
  have hf := flat_le xs i
  have nn := cnt_nn (xs.drop (i + 1))
  repeat' (first | exact trivial | refine BS.a (fun h => ?_) (fun h => ?_) | refine BS.n ?_ | refine BS.s (fun h => ?_) (fun h => ?_) | refine And.intro ?_ ?_ | exact Need.au | exact OutS.whole rfl rfl | refine ListO.go gOk hE ?_)
  · have hc := cnt_drop (xs := xs) (i := i) (by omega)
    refine OpK.apps gOk (by rfl) (by rfl) (by rfl) (by rfl) (by rfl) (by rfl) (by rfl) (by rfl) (by rfl) (by rfl) (by first | rfl | simp) (by exact rowFlat) (by rfl) (by refine ⟨?_, ?_⟩ <;> (try unfold maxLen) <;> (try simp only [adN_zero]) <;> omega) ?_
    repeat' (first | exact trivial | refine BS.a (fun h => ?_) (fun h => ?_) | refine BS.n ?_ | refine BS.s (fun h => ?_) (fun h => ?_) | refine And.intro ?_ ?_ | exact Need.au | exact OutS.whole rfl rfl | refine ListO.go gOk hE ?_)
    all_goals (refine ⟨i + 1, (by refine leT.of ?_ ?_ rfl <;> repeat' (first | exact trivial | refine And.intro rfl ?_ | refine And.intro (by rw [rtake_flat (by omega)] <;> rfl) ?_)), ?_⟩; (refine And.intro ?_ ?_) <;> (first | omega | (dsimp only; omega) | trivial))
  · exact OutS.whole rfl (by rw [List.take_of_length_le (by omega)]; rfl)
end Go.Proofs.Ytjlphbhmjicdhaa
end

section
/- Marks of operations and events. -/
namespace Go.Proofs.Ytjlphbhmjicdhaa
open Go Go.Tr
set_option maxRecDepth 100000
set_option maxHeartbeats 4000000
set_option linter.unusedVariables false
set_option linter.unusedSimpArgs false
abbrev fOp (m : Int) (j : Nat) : OpT := (m + 4 * j, m + 4 * j + 1, m + 4 * j + 2, m + 4 * j + 3)
abbrev bOpM (κ : Nat) (xs xs' : List OpT) : Bt := ⟨κ, 0, true, .sl 114 4 OpT encOp decOp zOp xs, .sl 114 4 OpT encOp decOp zOp xs', .ty .own true 114 4 OpT encOp decOp zOp xs'⟩
theorem markOpG_run (e : Nat) (xs : List OpT) (m : Int) (h0 : 0 ≤ m) (h1 : m ≤ 1125899906842624) (hn : xs.length ≤ 4000000) : RunT Try.prog 47 [.one (.h 0 xs.length), ti m] [.sl e 4 OpT encOp decOp zOp xs] [oi (m + 4 * xs.length)] [.sl e 4 OpT encOp decOp zOp (mkL zOp (fOp m) xs xs.length)] := by
  refine RunT.of_vc gOk Try.func47 rfl rfl (Nat.le_of_ble_eq_true rfl) (by repeat' (first | exact trivial | exact ⟨_, rfl, Nat.le_refl _⟩ | exact Nat.le_of_ble_eq_true rfl | refine And.intro ?_ ?_)) (Nat.le_of_ble_eq_true rfl) rfl (fun F hE => ?_)
  repeat' (first | exact trivial | refine BS.a (fun h => ?_) (fun h => ?_) | refine BS.n ?_ | refine BS.s (fun h => ?_) (fun h => ?_) | refine And.intro ?_ ?_ | exact Need.au | exact OutS.whole rfl rfl | refine ListO.go gOk hE ?_)
  refine CodeK.loop gOk hE (fun i : Nat => ⟨[(0, vr 1000000 xs.length), (1, vi (m + 4 * i)), (5, vi i)], [(1000000, rOp .own false 0 (mkL zOp (fOp m) xs i))]⟩) (fun i => i ≤ xs.length) (fun i => xs.length - i) 0 (by refine leT.of ?_ ?_ rfl <;> repeat' (first | exact trivial | refine And.intro rfl ?_ | refine And.intro (by simp [mkL_zero] <;> rfl) ?_)) (Nat.zero_le _) ?_
  rintro i hi
  have hl := mkL_len zOp (fOp m) xs i
  have hgs : ∀ (ys : List OpT) (a : OpT), ys.length = xs.length → i < xs.length → (ys.set i a).getD i zOp = a := fun ys a h1 h2 => by simp [List.getD, h1, h2]
  repeat' (first | exact trivial | refine BS.a (fun h => ?_) (fun h => ?_) | refine BS.n ?_ | refine BS.s (fun h => ?_) (fun h => ?_) | refine And.intro ?_ ?_ | exact Need.au | exact OutS.whole rfl rfl | refine ListO.go gOk hE ?_)
  all_goals (try simp only [adN_zero] at *)
  all_goals first
    | (refine Need.mk ?_; first | omega | (simp only [List.length_set]; omega) | rw [show i = xs.length by omega])
    | (refine ⟨i + 1, (by refine leT.of ?_ ?_ rfl <;> repeat' (first | exact trivial | refine And.intro rfl ?_ | refine And.intro (by first | rfl | (refine litInt ?_; omega) | (refine congrArg (fun l => some (rOp .own false 0 l)) ?_; simp only [List.set_set, hgs _ _ hl (by omega)]; refine Eq.trans (congrArg (List.set _ i) ?_) (mkL_set _ _ _ _ (by omega)); first | rfl | (refine Prod.ext ?_ ?_ <;> first | rfl | (dsimp only; omega) | (refine Prod.ext ?_ ?_ <;> first | rfl | (dsimp only; omega) | (refine Prod.ext ?_ ?_ <;> first | rfl | (dsimp only; omega)))))) ?_)), by omega, by first | omega | (dsimp only; omega)⟩)
    | trace_state
abbrev fEv (m : Int) (j : Nat) : EvT := (m + 7 * j, m + 7 * j + 1, m + 7 * j + 2, m + 7 * j + 3, m + 7 * j + 4, m + 7 * j + 5, m + 7 * j + 6)
abbrev bEvM (κ : Nat) (xs xs' : List EvT) : Bt := ⟨κ, 0, true, .sl 120 7 EvT encEv decEv zEv xs, .sl 120 7 EvT encEv decEv zEv xs', .ty .own true 120 7 EvT encEv decEv zEv xs'⟩
theorem markEvG_run (e : Nat) (xs : List EvT) (m : Int) (h0 : 0 ≤ m) (h1 : m ≤ 1125899906842624) (hn : xs.length ≤ 4000000) : RunT Try.prog 24 [.one (.h 0 xs.length), ti m] [.sl e 7 EvT encEv decEv zEv xs] [oi (m + 7 * xs.length)] [.sl e 7 EvT encEv decEv zEv (mkL zEv (fEv m) xs xs.length)] := by
  refine RunT.of_vc gOk Try.func24 rfl rfl (Nat.le_of_ble_eq_true rfl) (by repeat' (first | exact trivial | exact ⟨_, rfl, Nat.le_refl _⟩ | exact Nat.le_of_ble_eq_true rfl | refine And.intro ?_ ?_)) (Nat.le_of_ble_eq_true rfl) rfl (fun F hE => ?_)
  repeat' (first | exact trivial | refine BS.a (fun h => ?_) (fun h => ?_) | refine BS.n ?_ | refine BS.s (fun h => ?_) (fun h => ?_) | refine And.intro ?_ ?_ | exact Need.au | exact OutS.whole rfl rfl | refine ListO.go gOk hE ?_)
  refine CodeK.loop gOk hE (fun i : Nat => ⟨[(0, vr 1000000 xs.length), (1, vi (m + 7 * i)), (5, vi i)], [(1000000, rEv .own false 0 (mkL zEv (fEv m) xs i))]⟩) (fun i => i ≤ xs.length) (fun i => xs.length - i) 0 (by refine leT.of ?_ ?_ rfl <;> repeat' (first | exact trivial | refine And.intro rfl ?_ | refine And.intro (by simp [mkL_zero] <;> rfl) ?_)) (Nat.zero_le _) ?_
  rintro i hi
  have hl := mkL_len zEv (fEv m) xs i
  have hgs : ∀ (ys : List EvT) (a : EvT), ys.length = xs.length → i < xs.length → (ys.set i a).getD i zEv = a := fun ys a h1 h2 => by simp [List.getD, h1, h2]
  repeat' (first | exact trivial | refine BS.a (fun h => ?_) (fun h => ?_) | refine BS.n ?_ | refine BS.s (fun h => ?_) (fun h => ?_) | refine And.intro ?_ ?_ | exact Need.au | exact OutS.whole rfl rfl | refine ListO.go gOk hE ?_)
  all_goals (try simp only [adN_zero] at *)
  all_goals first
    | (refine Need.mk ?_; first | omega | (simp only [List.length_set]; omega) | rw [show i = xs.length by omega])
    | (refine ⟨i + 1, (by refine leT.of ?_ ?_ rfl <;> repeat' (first | exact trivial | refine And.intro rfl ?_ | refine And.intro (by first | rfl | (refine litInt ?_; omega) | (refine congrArg (fun l => some (rEv .own false 0 l)) ?_; simp only [List.set_set, hgs _ _ hl (by omega)]; refine Eq.trans (congrArg (List.set _ i) ?_) (mkL_set _ _ _ _ (by omega)); first | rfl | (refine Prod.ext ?_ ?_ <;> first | rfl | (dsimp only; omega) | (refine Prod.ext ?_ ?_ <;> first | rfl | (dsimp only; omega) | (refine Prod.ext ?_ ?_ <;> first | rfl | (dsimp only; omega) | (refine Prod.ext ?_ ?_ <;> first | rfl | (dsimp only; omega) | (refine Prod.ext ?_ ?_ <;> first | rfl | (dsimp only; omega) | (refine Prod.ext ?_ ?_ <;> first | rfl | (dsimp only; omega))))))))) ?_)), by omega, by first | omega | (dsimp only; omega)⟩)
    | trace_state
end Go.Proofs.Ytjlphbhmjicdhaa
end

section
/- Marks of jobs. -/
namespace Go.Proofs.Ytjlphbhmjicdhaa
open Go Go.Tr
set_option maxRecDepth 100000
set_option maxHeartbeats 40000000
set_option linter.unusedVariables false
set_option linter.unusedSimpArgs false
abbrev fJob (m : Int) (j : Nat) : JobT := (((m + 21 * j).tmod 3 == 0), m + 21 * j + 1, m + 21 * j + 2, m + 21 * j + 3, m + 21 * j + 4, m + 21 * j + 5, m + 21 * j + 6, m + 21 * j + 7, m + 21 * j + 8, m + 21 * j + 9, m + 21 * j + 10, m + 21 * j + 11, m + 21 * j + 12, m + 21 * j + 13, m + 21 * j + 14, m + 21 * j + 15, ((m + 21 * j + 16).tmod 3 == 0), m + 21 * j + 17, m + 21 * j + 18, m + 21 * j + 19, m + 21 * j + 20)
abbrev bJobM (κ : Nat) (xs xs' : List JobT) : Bt := ⟨κ, 0, true, .sl 118 21 JobT encJob decJob zJob xs, .sl 118 21 JobT encJob decJob zJob xs', .ty .own true 118 21 JobT encJob decJob zJob xs'⟩
def pj0 (m : Int) (j : Nat) (x : JobT) : JobT := (x.1, x.2.1, x.2.2.1, x.2.2.2.1, x.2.2.2.2.1, x.2.2.2.2.2.1, x.2.2.2.2.2.2.1, x.2.2.2.2.2.2.2.1, x.2.2.2.2.2.2.2.2.1, x.2.2.2.2.2.2.2.2.2.1, x.2.2.2.2.2.2.2.2.2.2.1, x.2.2.2.2.2.2.2.2.2.2.2.1, x.2.2.2.2.2.2.2.2.2.2.2.2.1, x.2.2.2.2.2.2.2.2.2.2.2.2.2.1, x.2.2.2.2.2.2.2.2.2.2.2.2.2.2.1, x.2.2.2.2.2.2.2.2.2.2.2.2.2.2.2.1, x.2.2.2.2.2.2.2.2.2.2.2.2.2.2.2.2.1, x.2.2.2.2.2.2.2.2.2.2.2.2.2.2.2.2.2.1, x.2.2.2.2.2.2.2.2.2.2.2.2.2.2.2.2.2.2.1, x.2.2.2.2.2.2.2.2.2.2.2.2.2.2.2.2.2.2.2.1, x.2.2.2.2.2.2.2.2.2.2.2.2.2.2.2.2.2.2.2.2)
def pj1 (m : Int) (j : Nat) (x : JobT) : JobT := (((m + 21 * j).tmod 3 == 0), x.2.1, x.2.2.1, x.2.2.2.1, x.2.2.2.2.1, x.2.2.2.2.2.1, x.2.2.2.2.2.2.1, x.2.2.2.2.2.2.2.1, x.2.2.2.2.2.2.2.2.1, x.2.2.2.2.2.2.2.2.2.1, x.2.2.2.2.2.2.2.2.2.2.1, x.2.2.2.2.2.2.2.2.2.2.2.1, x.2.2.2.2.2.2.2.2.2.2.2.2.1, x.2.2.2.2.2.2.2.2.2.2.2.2.2.1, x.2.2.2.2.2.2.2.2.2.2.2.2.2.2.1, x.2.2.2.2.2.2.2.2.2.2.2.2.2.2.2.1, x.2.2.2.2.2.2.2.2.2.2.2.2.2.2.2.2.1, x.2.2.2.2.2.2.2.2.2.2.2.2.2.2.2.2.2.1, x.2.2.2.2.2.2.2.2.2.2.2.2.2.2.2.2.2.2.1, x.2.2.2.2.2.2.2.2.2.2.2.2.2.2.2.2.2.2.2.1, x.2.2.2.2.2.2.2.2.2.2.2.2.2.2.2.2.2.2.2.2)
def pj2 (m : Int) (j : Nat) (x : JobT) : JobT := (((m + 21 * j).tmod 3 == 0), m + 21 * j + 1, x.2.2.1, x.2.2.2.1, x.2.2.2.2.1, x.2.2.2.2.2.1, x.2.2.2.2.2.2.1, x.2.2.2.2.2.2.2.1, x.2.2.2.2.2.2.2.2.1, x.2.2.2.2.2.2.2.2.2.1, x.2.2.2.2.2.2.2.2.2.2.1, x.2.2.2.2.2.2.2.2.2.2.2.1, x.2.2.2.2.2.2.2.2.2.2.2.2.1, x.2.2.2.2.2.2.2.2.2.2.2.2.2.1, x.2.2.2.2.2.2.2.2.2.2.2.2.2.2.1, x.2.2.2.2.2.2.2.2.2.2.2.2.2.2.2.1, x.2.2.2.2.2.2.2.2.2.2.2.2.2.2.2.2.1, x.2.2.2.2.2.2.2.2.2.2.2.2.2.2.2.2.2.1, x.2.2.2.2.2.2.2.2.2.2.2.2.2.2.2.2.2.2.1, x.2.2.2.2.2.2.2.2.2.2.2.2.2.2.2.2.2.2.2.1, x.2.2.2.2.2.2.2.2.2.2.2.2.2.2.2.2.2.2.2.2)
def pj3 (m : Int) (j : Nat) (x : JobT) : JobT := (((m + 21 * j).tmod 3 == 0), m + 21 * j + 1, m + 21 * j + 2, x.2.2.2.1, x.2.2.2.2.1, x.2.2.2.2.2.1, x.2.2.2.2.2.2.1, x.2.2.2.2.2.2.2.1, x.2.2.2.2.2.2.2.2.1, x.2.2.2.2.2.2.2.2.2.1, x.2.2.2.2.2.2.2.2.2.2.1, x.2.2.2.2.2.2.2.2.2.2.2.1, x.2.2.2.2.2.2.2.2.2.2.2.2.1, x.2.2.2.2.2.2.2.2.2.2.2.2.2.1, x.2.2.2.2.2.2.2.2.2.2.2.2.2.2.1, x.2.2.2.2.2.2.2.2.2.2.2.2.2.2.2.1, x.2.2.2.2.2.2.2.2.2.2.2.2.2.2.2.2.1, x.2.2.2.2.2.2.2.2.2.2.2.2.2.2.2.2.2.1, x.2.2.2.2.2.2.2.2.2.2.2.2.2.2.2.2.2.2.1, x.2.2.2.2.2.2.2.2.2.2.2.2.2.2.2.2.2.2.2.1, x.2.2.2.2.2.2.2.2.2.2.2.2.2.2.2.2.2.2.2.2)
def pj4 (m : Int) (j : Nat) (x : JobT) : JobT := (((m + 21 * j).tmod 3 == 0), m + 21 * j + 1, m + 21 * j + 2, m + 21 * j + 3, x.2.2.2.2.1, x.2.2.2.2.2.1, x.2.2.2.2.2.2.1, x.2.2.2.2.2.2.2.1, x.2.2.2.2.2.2.2.2.1, x.2.2.2.2.2.2.2.2.2.1, x.2.2.2.2.2.2.2.2.2.2.1, x.2.2.2.2.2.2.2.2.2.2.2.1, x.2.2.2.2.2.2.2.2.2.2.2.2.1, x.2.2.2.2.2.2.2.2.2.2.2.2.2.1, x.2.2.2.2.2.2.2.2.2.2.2.2.2.2.1, x.2.2.2.2.2.2.2.2.2.2.2.2.2.2.2.1, x.2.2.2.2.2.2.2.2.2.2.2.2.2.2.2.2.1, x.2.2.2.2.2.2.2.2.2.2.2.2.2.2.2.2.2.1, x.2.2.2.2.2.2.2.2.2.2.2.2.2.2.2.2.2.2.1, x.2.2.2.2.2.2.2.2.2.2.2.2.2.2.2.2.2.2.2.1, x.2.2.2.2.2.2.2.2.2.2.2.2.2.2.2.2.2.2.2.2)
def pj5 (m : Int) (j : Nat) (x : JobT) : JobT := (((m + 21 * j).tmod 3 == 0), m + 21 * j + 1, m + 21 * j + 2, m + 21 * j + 3, m + 21 * j + 4, x.2.2.2.2.2.1, x.2.2.2.2.2.2.1, x.2.2.2.2.2.2.2.1, x.2.2.2.2.2.2.2.2.1, x.2.2.2.2.2.2.2.2.2.1, x.2.2.2.2.2.2.2.2.2.2.1, x.2.2.2.2.2.2.2.2.2.2.2.1, x.2.2.2.2.2.2.2.2.2.2.2.2.1, x.2.2.2.2.2.2.2.2.2.2.2.2.2.1, x.2.2.2.2.2.2.2.2.2.2.2.2.2.2.1, x.2.2.2.2.2.2.2.2.2.2.2.2.2.2.2.1, x.2.2.2.2.2.2.2.2.2.2.2.2.2.2.2.2.1, x.2.2.2.2.2.2.2.2.2.2.2.2.2.2.2.2.2.1, x.2.2.2.2.2.2.2.2.2.2.2.2.2.2.2.2.2.2.1, x.2.2.2.2.2.2.2.2.2.2.2.2.2.2.2.2.2.2.2.1, x.2.2.2.2.2.2.2.2.2.2.2.2.2.2.2.2.2.2.2.2)
def pj6 (m : Int) (j : Nat) (x : JobT) : JobT := (((m + 21 * j).tmod 3 == 0), m + 21 * j + 1, m + 21 * j + 2, m + 21 * j + 3, m + 21 * j + 4, m + 21 * j + 5, x.2.2.2.2.2.2.1, x.2.2.2.2.2.2.2.1, x.2.2.2.2.2.2.2.2.1, x.2.2.2.2.2.2.2.2.2.1, x.2.2.2.2.2.2.2.2.2.2.1, x.2.2.2.2.2.2.2.2.2.2.2.1, x.2.2.2.2.2.2.2.2.2.2.2.2.1, x.2.2.2.2.2.2.2.2.2.2.2.2.2.1, x.2.2.2.2.2.2.2.2.2.2.2.2.2.2.1, x.2.2.2.2.2.2.2.2.2.2.2.2.2.2.2.1, x.2.2.2.2.2.2.2.2.2.2.2.2.2.2.2.2.1, x.2.2.2.2.2.2.2.2.2.2.2.2.2.2.2.2.2.1, x.2.2.2.2.2.2.2.2.2.2.2.2.2.2.2.2.2.2.1, x.2.2.2.2.2.2.2.2.2.2.2.2.2.2.2.2.2.2.2.1, x.2.2.2.2.2.2.2.2.2.2.2.2.2.2.2.2.2.2.2.2)
def pj7 (m : Int) (j : Nat) (x : JobT) : JobT := (((m + 21 * j).tmod 3 == 0), m + 21 * j + 1, m + 21 * j + 2, m + 21 * j + 3, m + 21 * j + 4, m + 21 * j + 5, m + 21 * j + 6, x.2.2.2.2.2.2.2.1, x.2.2.2.2.2.2.2.2.1, x.2.2.2.2.2.2.2.2.2.1, x.2.2.2.2.2.2.2.2.2.2.1, x.2.2.2.2.2.2.2.2.2.2.2.1, x.2.2.2.2.2.2.2.2.2.2.2.2.1, x.2.2.2.2.2.2.2.2.2.2.2.2.2.1, x.2.2.2.2.2.2.2.2.2.2.2.2.2.2.1, x.2.2.2.2.2.2.2.2.2.2.2.2.2.2.2.1, x.2.2.2.2.2.2.2.2.2.2.2.2.2.2.2.2.1, x.2.2.2.2.2.2.2.2.2.2.2.2.2.2.2.2.2.1, x.2.2.2.2.2.2.2.2.2.2.2.2.2.2.2.2.2.2.1, x.2.2.2.2.2.2.2.2.2.2.2.2.2.2.2.2.2.2.2.1, x.2.2.2.2.2.2.2.2.2.2.2.2.2.2.2.2.2.2.2.2)
def pj8 (m : Int) (j : Nat) (x : JobT) : JobT := (((m + 21 * j).tmod 3 == 0), m + 21 * j + 1, m + 21 * j + 2, m + 21 * j + 3, m + 21 * j + 4, m + 21 * j + 5, m + 21 * j + 6, m + 21 * j + 7, x.2.2.2.2.2.2.2.2.1, x.2.2.2.2.2.2.2.2.2.1, x.2.2.2.2.2.2.2.2.2.2.1, x.2.2.2.2.2.2.2.2.2.2.2.1, x.2.2.2.2.2.2.2.2.2.2.2.2.1, x.2.2.2.2.2.2.2.2.2.2.2.2.2.1, x.2.2.2.2.2.2.2.2.2.2.2.2.2.2.1, x.2.2.2.2.2.2.2.2.2.2.2.2.2.2.2.1, x.2.2.2.2.2.2.2.2.2.2.2.2.2.2.2.2.1, x.2.2.2.2.2.2.2.2.2.2.2.2.2.2.2.2.2.1, x.2.2.2.2.2.2.2.2.2.2.2.2.2.2.2.2.2.2.1, x.2.2.2.2.2.2.2.2.2.2.2.2.2.2.2.2.2.2.2.1, x.2.2.2.2.2.2.2.2.2.2.2.2.2.2.2.2.2.2.2.2)
def pj9 (m : Int) (j : Nat) (x : JobT) : JobT := (((m + 21 * j).tmod 3 == 0), m + 21 * j + 1, m + 21 * j + 2, m + 21 * j + 3, m + 21 * j + 4, m + 21 * j + 5, m + 21 * j + 6, m + 21 * j + 7, m + 21 * j + 8, x.2.2.2.2.2.2.2.2.2.1, x.2.2.2.2.2.2.2.2.2.2.1, x.2.2.2.2.2.2.2.2.2.2.2.1, x.2.2.2.2.2.2.2.2.2.2.2.2.1, x.2.2.2.2.2.2.2.2.2.2.2.2.2.1, x.2.2.2.2.2.2.2.2.2.2.2.2.2.2.1, x.2.2.2.2.2.2.2.2.2.2.2.2.2.2.2.1, x.2.2.2.2.2.2.2.2.2.2.2.2.2.2.2.2.1, x.2.2.2.2.2.2.2.2.2.2.2.2.2.2.2.2.2.1, x.2.2.2.2.2.2.2.2.2.2.2.2.2.2.2.2.2.2.1, x.2.2.2.2.2.2.2.2.2.2.2.2.2.2.2.2.2.2.2.1, x.2.2.2.2.2.2.2.2.2.2.2.2.2.2.2.2.2.2.2.2)
def pj10 (m : Int) (j : Nat) (x : JobT) : JobT := (((m + 21 * j).tmod 3 == 0), m + 21 * j + 1, m + 21 * j + 2, m + 21 * j + 3, m + 21 * j + 4, m + 21 * j + 5, m + 21 * j + 6, m + 21 * j + 7, m + 21 * j + 8, m + 21 * j + 9, x.2.2.2.2.2.2.2.2.2.2.1, x.2.2.2.2.2.2.2.2.2.2.2.1, x.2.2.2.2.2.2.2.2.2.2.2.2.1, x.2.2.2.2.2.2.2.2.2.2.2.2.2.1, x.2.2.2.2.2.2.2.2.2.2.2.2.2.2.1, x.2.2.2.2.2.2.2.2.2.2.2.2.2.2.2.1, x.2.2.2.2.2.2.2.2.2.2.2.2.2.2.2.2.1, x.2.2.2.2.2.2.2.2.2.2.2.2.2.2.2.2.2.1, x.2.2.2.2.2.2.2.2.2.2.2.2.2.2.2.2.2.2.1, x.2.2.2.2.2.2.2.2.2.2.2.2.2.2.2.2.2.2.2.1, x.2.2.2.2.2.2.2.2.2.2.2.2.2.2.2.2.2.2.2.2)
def pj11 (m : Int) (j : Nat) (x : JobT) : JobT := (((m + 21 * j).tmod 3 == 0), m + 21 * j + 1, m + 21 * j + 2, m + 21 * j + 3, m + 21 * j + 4, m + 21 * j + 5, m + 21 * j + 6, m + 21 * j + 7, m + 21 * j + 8, m + 21 * j + 9, m + 21 * j + 10, x.2.2.2.2.2.2.2.2.2.2.2.1, x.2.2.2.2.2.2.2.2.2.2.2.2.1, x.2.2.2.2.2.2.2.2.2.2.2.2.2.1, x.2.2.2.2.2.2.2.2.2.2.2.2.2.2.1, x.2.2.2.2.2.2.2.2.2.2.2.2.2.2.2.1, x.2.2.2.2.2.2.2.2.2.2.2.2.2.2.2.2.1, x.2.2.2.2.2.2.2.2.2.2.2.2.2.2.2.2.2.1, x.2.2.2.2.2.2.2.2.2.2.2.2.2.2.2.2.2.2.1, x.2.2.2.2.2.2.2.2.2.2.2.2.2.2.2.2.2.2.2.1, x.2.2.2.2.2.2.2.2.2.2.2.2.2.2.2.2.2.2.2.2)
def pj12 (m : Int) (j : Nat) (x : JobT) : JobT := (((m + 21 * j).tmod 3 == 0), m + 21 * j + 1, m + 21 * j + 2, m + 21 * j + 3, m + 21 * j + 4, m + 21 * j + 5, m + 21 * j + 6, m + 21 * j + 7, m + 21 * j + 8, m + 21 * j + 9, m + 21 * j + 10, m + 21 * j + 11, x.2.2.2.2.2.2.2.2.2.2.2.2.1, x.2.2.2.2.2.2.2.2.2.2.2.2.2.1, x.2.2.2.2.2.2.2.2.2.2.2.2.2.2.1, x.2.2.2.2.2.2.2.2.2.2.2.2.2.2.2.1, x.2.2.2.2.2.2.2.2.2.2.2.2.2.2.2.2.1, x.2.2.2.2.2.2.2.2.2.2.2.2.2.2.2.2.2.1, x.2.2.2.2.2.2.2.2.2.2.2.2.2.2.2.2.2.2.1, x.2.2.2.2.2.2.2.2.2.2.2.2.2.2.2.2.2.2.2.1, x.2.2.2.2.2.2.2.2.2.2.2.2.2.2.2.2.2.2.2.2)
def pj13 (m : Int) (j : Nat) (x : JobT) : JobT := (((m + 21 * j).tmod 3 == 0), m + 21 * j + 1, m + 21 * j + 2, m + 21 * j + 3, m + 21 * j + 4, m + 21 * j + 5, m + 21 * j + 6, m + 21 * j + 7, m + 21 * j + 8, m + 21 * j + 9, m + 21 * j + 10, m + 21 * j + 11, m + 21 * j + 12, x.2.2.2.2.2.2.2.2.2.2.2.2.2.1, x.2.2.2.2.2.2.2.2.2.2.2.2.2.2.1, x.2.2.2.2.2.2.2.2.2.2.2.2.2.2.2.1, x.2.2.2.2.2.2.2.2.2.2.2.2.2.2.2.2.1, x.2.2.2.2.2.2.2.2.2.2.2.2.2.2.2.2.2.1, x.2.2.2.2.2.2.2.2.2.2.2.2.2.2.2.2.2.2.1, x.2.2.2.2.2.2.2.2.2.2.2.2.2.2.2.2.2.2.2.1, x.2.2.2.2.2.2.2.2.2.2.2.2.2.2.2.2.2.2.2.2)
def pj14 (m : Int) (j : Nat) (x : JobT) : JobT := (((m + 21 * j).tmod 3 == 0), m + 21 * j + 1, m + 21 * j + 2, m + 21 * j + 3, m + 21 * j + 4, m + 21 * j + 5, m + 21 * j + 6, m + 21 * j + 7, m + 21 * j + 8, m + 21 * j + 9, m + 21 * j + 10, m + 21 * j + 11, m + 21 * j + 12, m + 21 * j + 13, x.2.2.2.2.2.2.2.2.2.2.2.2.2.2.1, x.2.2.2.2.2.2.2.2.2.2.2.2.2.2.2.1, x.2.2.2.2.2.2.2.2.2.2.2.2.2.2.2.2.1, x.2.2.2.2.2.2.2.2.2.2.2.2.2.2.2.2.2.1, x.2.2.2.2.2.2.2.2.2.2.2.2.2.2.2.2.2.2.1, x.2.2.2.2.2.2.2.2.2.2.2.2.2.2.2.2.2.2.2.1, x.2.2.2.2.2.2.2.2.2.2.2.2.2.2.2.2.2.2.2.2)
def pj15 (m : Int) (j : Nat) (x : JobT) : JobT := (((m + 21 * j).tmod 3 == 0), m + 21 * j + 1, m + 21 * j + 2, m + 21 * j + 3, m + 21 * j + 4, m + 21 * j + 5, m + 21 * j + 6, m + 21 * j + 7, m + 21 * j + 8, m + 21 * j + 9, m + 21 * j + 10, m + 21 * j + 11, m + 21 * j + 12, m + 21 * j + 13, m + 21 * j + 14, x.2.2.2.2.2.2.2.2.2.2.2.2.2.2.2.1, x.2.2.2.2.2.2.2.2.2.2.2.2.2.2.2.2.1, x.2.2.2.2.2.2.2.2.2.2.2.2.2.2.2.2.2.1, x.2.2.2.2.2.2.2.2.2.2.2.2.2.2.2.2.2.2.1, x.2.2.2.2.2.2.2.2.2.2.2.2.2.2.2.2.2.2.2.1, x.2.2.2.2.2.2.2.2.2.2.2.2.2.2.2.2.2.2.2.2)
def pj16 (m : Int) (j : Nat) (x : JobT) : JobT := (((m + 21 * j).tmod 3 == 0), m + 21 * j + 1, m + 21 * j + 2, m + 21 * j + 3, m + 21 * j + 4, m + 21 * j + 5, m + 21 * j + 6, m + 21 * j + 7, m + 21 * j + 8, m + 21 * j + 9, m + 21 * j + 10, m + 21 * j + 11, m + 21 * j + 12, m + 21 * j + 13, m + 21 * j + 14, m + 21 * j + 15, x.2.2.2.2.2.2.2.2.2.2.2.2.2.2.2.2.1, x.2.2.2.2.2.2.2.2.2.2.2.2.2.2.2.2.2.1, x.2.2.2.2.2.2.2.2.2.2.2.2.2.2.2.2.2.2.1, x.2.2.2.2.2.2.2.2.2.2.2.2.2.2.2.2.2.2.2.1, x.2.2.2.2.2.2.2.2.2.2.2.2.2.2.2.2.2.2.2.2)
def pj17 (m : Int) (j : Nat) (x : JobT) : JobT := (((m + 21 * j).tmod 3 == 0), m + 21 * j + 1, m + 21 * j + 2, m + 21 * j + 3, m + 21 * j + 4, m + 21 * j + 5, m + 21 * j + 6, m + 21 * j + 7, m + 21 * j + 8, m + 21 * j + 9, m + 21 * j + 10, m + 21 * j + 11, m + 21 * j + 12, m + 21 * j + 13, m + 21 * j + 14, m + 21 * j + 15, ((m + 21 * j + 16).tmod 3 == 0), x.2.2.2.2.2.2.2.2.2.2.2.2.2.2.2.2.2.1, x.2.2.2.2.2.2.2.2.2.2.2.2.2.2.2.2.2.2.1, x.2.2.2.2.2.2.2.2.2.2.2.2.2.2.2.2.2.2.2.1, x.2.2.2.2.2.2.2.2.2.2.2.2.2.2.2.2.2.2.2.2)
def pj18 (m : Int) (j : Nat) (x : JobT) : JobT := (((m + 21 * j).tmod 3 == 0), m + 21 * j + 1, m + 21 * j + 2, m + 21 * j + 3, m + 21 * j + 4, m + 21 * j + 5, m + 21 * j + 6, m + 21 * j + 7, m + 21 * j + 8, m + 21 * j + 9, m + 21 * j + 10, m + 21 * j + 11, m + 21 * j + 12, m + 21 * j + 13, m + 21 * j + 14, m + 21 * j + 15, ((m + 21 * j + 16).tmod 3 == 0), m + 21 * j + 17, x.2.2.2.2.2.2.2.2.2.2.2.2.2.2.2.2.2.2.1, x.2.2.2.2.2.2.2.2.2.2.2.2.2.2.2.2.2.2.2.1, x.2.2.2.2.2.2.2.2.2.2.2.2.2.2.2.2.2.2.2.2)
def pj19 (m : Int) (j : Nat) (x : JobT) : JobT := (((m + 21 * j).tmod 3 == 0), m + 21 * j + 1, m + 21 * j + 2, m + 21 * j + 3, m + 21 * j + 4, m + 21 * j + 5, m + 21 * j + 6, m + 21 * j + 7, m + 21 * j + 8, m + 21 * j + 9, m + 21 * j + 10, m + 21 * j + 11, m + 21 * j + 12, m + 21 * j + 13, m + 21 * j + 14, m + 21 * j + 15, ((m + 21 * j + 16).tmod 3 == 0), m + 21 * j + 17, m + 21 * j + 18, x.2.2.2.2.2.2.2.2.2.2.2.2.2.2.2.2.2.2.2.1, x.2.2.2.2.2.2.2.2.2.2.2.2.2.2.2.2.2.2.2.2)
def pj20 (m : Int) (j : Nat) (x : JobT) : JobT := (((m + 21 * j).tmod 3 == 0), m + 21 * j + 1, m + 21 * j + 2, m + 21 * j + 3, m + 21 * j + 4, m + 21 * j + 5, m + 21 * j + 6, m + 21 * j + 7, m + 21 * j + 8, m + 21 * j + 9, m + 21 * j + 10, m + 21 * j + 11, m + 21 * j + 12, m + 21 * j + 13, m + 21 * j + 14, m + 21 * j + 15, ((m + 21 * j + 16).tmod 3 == 0), m + 21 * j + 17, m + 21 * j + 18, m + 21 * j + 19, x.2.2.2.2.2.2.2.2.2.2.2.2.2.2.2.2.2.2.2.2)
def pj21 (m : Int) (j : Nat) (x : JobT) : JobT := (((m + 21 * j).tmod 3 == 0), m + 21 * j + 1, m + 21 * j + 2, m + 21 * j + 3, m + 21 * j + 4, m + 21 * j + 5, m + 21 * j + 6, m + 21 * j + 7, m + 21 * j + 8, m + 21 * j + 9, m + 21 * j + 10, m + 21 * j + 11, m + 21 * j + 12, m + 21 * j + 13, m + 21 * j + 14, m + 21 * j + 15, ((m + 21 * j + 16).tmod 3 == 0), m + 21 * j + 17, m + 21 * j + 18, m + 21 * j + 19, m + 21 * j + 20)
theorem setStep {ys : List JobT} {i : Nat} {A B : JobT} {f : JobT → JobT} (hq : (ys.set i A).getD i zJob = A) (hf : f A = B) : (ys.set i A).set i (f ((ys.set i A).getD i zJob)) = ys.set i B := by rw [hq, List.set_set, hf]
theorem pj_end (m : Int) (j : Nat) (x : JobT) : pj21 m j x = fJob m j := rfl
theorem markJobG_run (e : Nat) (xs : List JobT) (m : Int) (h0 : 0 ≤ m) (h1 : m ≤ 1125899906842624) (hn : xs.length ≤ 4000000) : RunT Try.prog 49 [.one (.h 0 xs.length), ti m] [.sl e 21 JobT encJob decJob zJob xs] [oi (m + 21 * xs.length)] [.sl e 21 JobT encJob decJob zJob (mkL zJob (fJob m) xs xs.length)] := by
  refine RunT.of_vc gOk Try.func49 rfl rfl (Nat.le_of_ble_eq_true rfl) (by repeat' (first | exact trivial | exact ⟨_, rfl, Nat.le_refl _⟩ | exact Nat.le_of_ble_eq_true rfl | refine And.intro ?_ ?_)) (Nat.le_of_ble_eq_true rfl) rfl (fun F hE => ?_)
  repeat' (first | exact trivial | refine BS.a (fun h => ?_) (fun h => ?_) | refine BS.n ?_ | refine BS.s (fun h => ?_) (fun h => ?_) | refine And.intro ?_ ?_ | exact Need.au | exact OutS.whole rfl rfl | refine ListO.go gOk hE ?_)
  refine CodeK.loopN (fun i : Nat => ⟨[(0, vr 1000000 xs.length), (1, vi (m + 21 * i)), (5, vi i)], [(1000000, rJob .own false 0 (mkL zJob (fJob m) xs i))]⟩) (fun i => i ≤ xs.length) (fun i => xs.length - i) 0 (by refine leT.of ?_ ?_ rfl <;> repeat' (first | exact trivial | refine And.intro rfl ?_ | refine And.intro (by simp [mkL_zero] <;> rfl) ?_)) (Nat.zero_le _) ?_
  rintro i hi
  have hl := mkL_len zJob (fJob m) xs i
  have hgs : ∀ (ys : List JobT) (a : JobT), ys.length = xs.length → i < xs.length → (ys.set i a).getD i zJob = a := fun ys a h1 h2 => by simp [List.getD, h1, h2]
  have hms : i < xs.length → (mkL zJob (fJob m) xs i).set i (fJob m i) = mkL zJob (fJob m) xs (i + 1) := fun h => mkL_set _ _ _ _ h
  generalize hys : mkL zJob (fJob m) xs i = ys at *
  by_cases hi2 : i < xs.length
  · have hq : ∀ a, (ys.set i a).getD i zJob = a := fun a => hgs ys a hl hi2
    have hsl : ∀ a, (ys.set i a).length = xs.length := fun a => by rw [List.length_set, hl]
    repeat' (first | exact trivial | refine BS.a (fun h => ?_) (fun h => ?_) | refine BS.n ?_ | refine BS.s (fun h => ?_) (fun h => ?_) | refine And.intro ?_ ?_ | exact Need.au | exact OutS.whole rfl rfl | (refine CodeK.seqN 5 (⟨[(0, vr 1000000 xs.length), (1, vi (m + 21 * i + 1)), (5, vi i)], [(1000000, rJob .own false 0 (ys.set i (pj1 m i (ys.getD i zJob))))]⟩) rfl ?_ ?_) | (refine CodeK.seqN 7 (⟨[(0, vr 1000000 xs.length), (1, vi (m + 21 * i + 2)), (5, vi i)], [(1000000, rJob .own false 0 (ys.set i (pj2 m i (ys.getD i zJob))))]⟩) rfl ?_ ?_) | (refine CodeK.seqN 9 (⟨[(0, vr 1000000 xs.length), (1, vi (m + 21 * i + 3)), (5, vi i)], [(1000000, rJob .own false 0 (ys.set i (pj3 m i (ys.getD i zJob))))]⟩) rfl ?_ ?_) | (refine CodeK.seqN 11 (⟨[(0, vr 1000000 xs.length), (1, vi (m + 21 * i + 4)), (5, vi i)], [(1000000, rJob .own false 0 (ys.set i (pj4 m i (ys.getD i zJob))))]⟩) rfl ?_ ?_) | (refine CodeK.seqN 13 (⟨[(0, vr 1000000 xs.length), (1, vi (m + 21 * i + 5)), (5, vi i)], [(1000000, rJob .own false 0 (ys.set i (pj5 m i (ys.getD i zJob))))]⟩) rfl ?_ ?_) | (refine CodeK.seqN 15 (⟨[(0, vr 1000000 xs.length), (1, vi (m + 21 * i + 6)), (5, vi i)], [(1000000, rJob .own false 0 (ys.set i (pj6 m i (ys.getD i zJob))))]⟩) rfl ?_ ?_) | (refine CodeK.seqN 17 (⟨[(0, vr 1000000 xs.length), (1, vi (m + 21 * i + 7)), (5, vi i)], [(1000000, rJob .own false 0 (ys.set i (pj7 m i (ys.getD i zJob))))]⟩) rfl ?_ ?_) | (refine CodeK.seqN 19 (⟨[(0, vr 1000000 xs.length), (1, vi (m + 21 * i + 8)), (5, vi i)], [(1000000, rJob .own false 0 (ys.set i (pj8 m i (ys.getD i zJob))))]⟩) rfl ?_ ?_) | (refine CodeK.seqN 21 (⟨[(0, vr 1000000 xs.length), (1, vi (m + 21 * i + 9)), (5, vi i)], [(1000000, rJob .own false 0 (ys.set i (pj9 m i (ys.getD i zJob))))]⟩) rfl ?_ ?_) | (refine CodeK.seqN 23 (⟨[(0, vr 1000000 xs.length), (1, vi (m + 21 * i + 10)), (5, vi i)], [(1000000, rJob .own false 0 (ys.set i (pj10 m i (ys.getD i zJob))))]⟩) rfl ?_ ?_) | (refine CodeK.seqN 25 (⟨[(0, vr 1000000 xs.length), (1, vi (m + 21 * i + 11)), (5, vi i)], [(1000000, rJob .own false 0 (ys.set i (pj11 m i (ys.getD i zJob))))]⟩) rfl ?_ ?_) | (refine CodeK.seqN 27 (⟨[(0, vr 1000000 xs.length), (1, vi (m + 21 * i + 12)), (5, vi i)], [(1000000, rJob .own false 0 (ys.set i (pj12 m i (ys.getD i zJob))))]⟩) rfl ?_ ?_) | (refine CodeK.seqN 29 (⟨[(0, vr 1000000 xs.length), (1, vi (m + 21 * i + 13)), (5, vi i)], [(1000000, rJob .own false 0 (ys.set i (pj13 m i (ys.getD i zJob))))]⟩) rfl ?_ ?_) | (refine CodeK.seqN 31 (⟨[(0, vr 1000000 xs.length), (1, vi (m + 21 * i + 14)), (5, vi i)], [(1000000, rJob .own false 0 (ys.set i (pj14 m i (ys.getD i zJob))))]⟩) rfl ?_ ?_) | (refine CodeK.seqN 33 (⟨[(0, vr 1000000 xs.length), (1, vi (m + 21 * i + 15)), (5, vi i)], [(1000000, rJob .own false 0 (ys.set i (pj15 m i (ys.getD i zJob))))]⟩) rfl ?_ ?_) | (refine CodeK.seqN 35 (⟨[(0, vr 1000000 xs.length), (1, vi (m + 21 * i + 16)), (5, vi i)], [(1000000, rJob .own false 0 (ys.set i (pj16 m i (ys.getD i zJob))))]⟩) rfl ?_ ?_) | (refine CodeK.seqN 37 (⟨[(0, vr 1000000 xs.length), (1, vi (m + 21 * i + 17)), (5, vi i)], [(1000000, rJob .own false 0 (ys.set i (pj17 m i (ys.getD i zJob))))]⟩) rfl ?_ ?_) | (refine CodeK.seqN 39 (⟨[(0, vr 1000000 xs.length), (1, vi (m + 21 * i + 18)), (5, vi i)], [(1000000, rJob .own false 0 (ys.set i (pj18 m i (ys.getD i zJob))))]⟩) rfl ?_ ?_) | (refine CodeK.seqN 41 (⟨[(0, vr 1000000 xs.length), (1, vi (m + 21 * i + 19)), (5, vi i)], [(1000000, rJob .own false 0 (ys.set i (pj19 m i (ys.getD i zJob))))]⟩) rfl ?_ ?_) | (refine CodeK.seqN 43 (⟨[(0, vr 1000000 xs.length), (1, vi (m + 21 * i + 20)), (5, vi i)], [(1000000, rJob .own false 0 (ys.set i (pj20 m i (ys.getD i zJob))))]⟩) rfl ?_ ?_) | (refine CodeK.seqN 45 (⟨[(0, vr 1000000 xs.length), (1, vi (m + 21 * i + 21)), (5, vi i)], [(1000000, rJob .own false 0 (ys.set i (pj21 m i (ys.getD i zJob))))]⟩) rfl ?_ ?_) | (refine CodeK.cnd (by rfl) (fun h => ?_) (fun h => ?_)) | (refine CodeK.blk ?_) | (refine CodeK.seqk ?_) | (refine CodeK.vc gOk hE ?_) | refine ListO.go gOk hE ?_)
    all_goals (try simp only [adN_zero] at *)
    all_goals first
      | (refine leT.of (by repeat' (first | exact trivial | refine And.intro rfl ?_ | refine And.intro (by refine litInt ?_; omega) ?_)) (And.intro (congrArg (fun l => some (rJob .own false 0 l)) ?_) trivial) rfl)
      | (have hb := h.symm.trans (decide_eq_true (by omega)); cases hb; done)
      | exact Need.mk rfl
      | (refine Need.mk ?_; first | omega | (rw [hsl]; omega))
      | (refine ⟨i + 1, leT.of (by repeat' (first | exact trivial | refine And.intro rfl ?_ | refine And.intro (by refine litInt ?_; omega) ?_)) (And.intro (congrArg (fun l => some (rJob .own false 0 l)) ?_) trivial) rfl, by omega, by first | omega | (dsimp only; omega)⟩)
      | trace_state
    all_goals first | (with_reducible refine congrArg (List.set ys i) ?_; kernel_rfl)  | (with_reducible refine setStep (f := (fun x : JobT => (x.1, m + 21 * (i : Int) + 1, x.2.2.1, x.2.2.2.1, x.2.2.2.2.1, x.2.2.2.2.2.1, x.2.2.2.2.2.2.1, x.2.2.2.2.2.2.2.1, x.2.2.2.2.2.2.2.2.1, x.2.2.2.2.2.2.2.2.2.1, x.2.2.2.2.2.2.2.2.2.2.1, x.2.2.2.2.2.2.2.2.2.2.2.1, x.2.2.2.2.2.2.2.2.2.2.2.2.1, x.2.2.2.2.2.2.2.2.2.2.2.2.2.1, x.2.2.2.2.2.2.2.2.2.2.2.2.2.2.1, x.2.2.2.2.2.2.2.2.2.2.2.2.2.2.2.1, x.2.2.2.2.2.2.2.2.2.2.2.2.2.2.2.2.1, x.2.2.2.2.2.2.2.2.2.2.2.2.2.2.2.2.2.1, x.2.2.2.2.2.2.2.2.2.2.2.2.2.2.2.2.2.2.1, x.2.2.2.2.2.2.2.2.2.2.2.2.2.2.2.2.2.2.2.1, x.2.2.2.2.2.2.2.2.2.2.2.2.2.2.2.2.2.2.2.2))) (hq _) ?_; kernel_rfl) | (with_reducible refine setStep (f := (fun x : JobT => (x.1, x.2.1, m + 21 * (i : Int) + 2, x.2.2.2.1, x.2.2.2.2.1, x.2.2.2.2.2.1, x.2.2.2.2.2.2.1, x.2.2.2.2.2.2.2.1, x.2.2.2.2.2.2.2.2.1, x.2.2.2.2.2.2.2.2.2.1, x.2.2.2.2.2.2.2.2.2.2.1, x.2.2.2.2.2.2.2.2.2.2.2.1, x.2.2.2.2.2.2.2.2.2.2.2.2.1, x.2.2.2.2.2.2.2.2.2.2.2.2.2.1, x.2.2.2.2.2.2.2.2.2.2.2.2.2.2.1, x.2.2.2.2.2.2.2.2.2.2.2.2.2.2.2.1, x.2.2.2.2.2.2.2.2.2.2.2.2.2.2.2.2.1, x.2.2.2.2.2.2.2.2.2.2.2.2.2.2.2.2.2.1, x.2.2.2.2.2.2.2.2.2.2.2.2.2.2.2.2.2.2.1, x.2.2.2.2.2.2.2.2.2.2.2.2.2.2.2.2.2.2.2.1, x.2.2.2.2.2.2.2.2.2.2.2.2.2.2.2.2.2.2.2.2))) (hq _) ?_; kernel_rfl) | (with_reducible refine setStep (f := (fun x : JobT => (x.1, x.2.1, x.2.2.1, m + 21 * (i : Int) + 3, x.2.2.2.2.1, x.2.2.2.2.2.1, x.2.2.2.2.2.2.1, x.2.2.2.2.2.2.2.1, x.2.2.2.2.2.2.2.2.1, x.2.2.2.2.2.2.2.2.2.1, x.2.2.2.2.2.2.2.2.2.2.1, x.2.2.2.2.2.2.2.2.2.2.2.1, x.2.2.2.2.2.2.2.2.2.2.2.2.1, x.2.2.2.2.2.2.2.2.2.2.2.2.2.1, x.2.2.2.2.2.2.2.2.2.2.2.2.2.2.1, x.2.2.2.2.2.2.2.2.2.2.2.2.2.2.2.1, x.2.2.2.2.2.2.2.2.2.2.2.2.2.2.2.2.1, x.2.2.2.2.2.2.2.2.2.2.2.2.2.2.2.2.2.1, x.2.2.2.2.2.2.2.2.2.2.2.2.2.2.2.2.2.2.1, x.2.2.2.2.2.2.2.2.2.2.2.2.2.2.2.2.2.2.2.1, x.2.2.2.2.2.2.2.2.2.2.2.2.2.2.2.2.2.2.2.2))) (hq _) ?_; kernel_rfl) | (with_reducible refine setStep (f := (fun x : JobT => (x.1, x.2.1, x.2.2.1, x.2.2.2.1, m + 21 * (i : Int) + 4, x.2.2.2.2.2.1, x.2.2.2.2.2.2.1, x.2.2.2.2.2.2.2.1, x.2.2.2.2.2.2.2.2.1, x.2.2.2.2.2.2.2.2.2.1, x.2.2.2.2.2.2.2.2.2.2.1, x.2.2.2.2.2.2.2.2.2.2.2.1, x.2.2.2.2.2.2.2.2.2.2.2.2.1, x.2.2.2.2.2.2.2.2.2.2.2.2.2.1, x.2.2.2.2.2.2.2.2.2.2.2.2.2.2.1, x.2.2.2.2.2.2.2.2.2.2.2.2.2.2.2.1, x.2.2.2.2.2.2.2.2.2.2.2.2.2.2.2.2.1, x.2.2.2.2.2.2.2.2.2.2.2.2.2.2.2.2.2.1, x.2.2.2.2.2.2.2.2.2.2.2.2.2.2.2.2.2.2.1, x.2.2.2.2.2.2.2.2.2.2.2.2.2.2.2.2.2.2.2.1, x.2.2.2.2.2.2.2.2.2.2.2.2.2.2.2.2.2.2.2.2))) (hq _) ?_; kernel_rfl) | (with_reducible refine setStep (f := (fun x : JobT => (x.1, x.2.1, x.2.2.1, x.2.2.2.1, x.2.2.2.2.1, m + 21 * (i : Int) + 5, x.2.2.2.2.2.2.1, x.2.2.2.2.2.2.2.1, x.2.2.2.2.2.2.2.2.1, x.2.2.2.2.2.2.2.2.2.1, x.2.2.2.2.2.2.2.2.2.2.1, x.2.2.2.2.2.2.2.2.2.2.2.1, x.2.2.2.2.2.2.2.2.2.2.2.2.1, x.2.2.2.2.2.2.2.2.2.2.2.2.2.1, x.2.2.2.2.2.2.2.2.2.2.2.2.2.2.1, x.2.2.2.2.2.2.2.2.2.2.2.2.2.2.2.1, x.2.2.2.2.2.2.2.2.2.2.2.2.2.2.2.2.1, x.2.2.2.2.2.2.2.2.2.2.2.2.2.2.2.2.2.1, x.2.2.2.2.2.2.2.2.2.2.2.2.2.2.2.2.2.2.1, x.2.2.2.2.2.2.2.2.2.2.2.2.2.2.2.2.2.2.2.1, x.2.2.2.2.2.2.2.2.2.2.2.2.2.2.2.2.2.2.2.2))) (hq _) ?_; kernel_rfl) | (with_reducible refine setStep (f := (fun x : JobT => (x.1, x.2.1, x.2.2.1, x.2.2.2.1, x.2.2.2.2.1, x.2.2.2.2.2.1, m + 21 * (i : Int) + 6, x.2.2.2.2.2.2.2.1, x.2.2.2.2.2.2.2.2.1, x.2.2.2.2.2.2.2.2.2.1, x.2.2.2.2.2.2.2.2.2.2.1, x.2.2.2.2.2.2.2.2.2.2.2.1, x.2.2.2.2.2.2.2.2.2.2.2.2.1, x.2.2.2.2.2.2.2.2.2.2.2.2.2.1, x.2.2.2.2.2.2.2.2.2.2.2.2.2.2.1, x.2.2.2.2.2.2.2.2.2.2.2.2.2.2.2.1, x.2.2.2.2.2.2.2.2.2.2.2.2.2.2.2.2.1, x.2.2.2.2.2.2.2.2.2.2.2.2.2.2.2.2.2.1, x.2.2.2.2.2.2.2.2.2.2.2.2.2.2.2.2.2.2.1, x.2.2.2.2.2.2.2.2.2.2.2.2.2.2.2.2.2.2.2.1, x.2.2.2.2.2.2.2.2.2.2.2.2.2.2.2.2.2.2.2.2))) (hq _) ?_; kernel_rfl) | (with_reducible refine setStep (f := (fun x : JobT => (x.1, x.2.1, x.2.2.1, x.2.2.2.1, x.2.2.2.2.1, x.2.2.2.2.2.1, x.2.2.2.2.2.2.1, m + 21 * (i : Int) + 7, x.2.2.2.2.2.2.2.2.1, x.2.2.2.2.2.2.2.2.2.1, x.2.2.2.2.2.2.2.2.2.2.1, x.2.2.2.2.2.2.2.2.2.2.2.1, x.2.2.2.2.2.2.2.2.2.2.2.2.1, x.2.2.2.2.2.2.2.2.2.2.2.2.2.1, x.2.2.2.2.2.2.2.2.2.2.2.2.2.2.1, x.2.2.2.2.2.2.2.2.2.2.2.2.2.2.2.1, x.2.2.2.2.2.2.2.2.2.2.2.2.2.2.2.2.1, x.2.2.2.2.2.2.2.2.2.2.2.2.2.2.2.2.2.1, x.2.2.2.2.2.2.2.2.2.2.2.2.2.2.2.2.2.2.1, x.2.2.2.2.2.2.2.2.2.2.2.2.2.2.2.2.2.2.2.1, x.2.2.2.2.2.2.2.2.2.2.2.2.2.2.2.2.2.2.2.2))) (hq _) ?_; kernel_rfl) | (with_reducible refine setStep (f := (fun x : JobT => (x.1, x.2.1, x.2.2.1, x.2.2.2.1, x.2.2.2.2.1, x.2.2.2.2.2.1, x.2.2.2.2.2.2.1, x.2.2.2.2.2.2.2.1, m + 21 * (i : Int) + 8, x.2.2.2.2.2.2.2.2.2.1, x.2.2.2.2.2.2.2.2.2.2.1, x.2.2.2.2.2.2.2.2.2.2.2.1, x.2.2.2.2.2.2.2.2.2.2.2.2.1, x.2.2.2.2.2.2.2.2.2.2.2.2.2.1, x.2.2.2.2.2.2.2.2.2.2.2.2.2.2.1, x.2.2.2.2.2.2.2.2.2.2.2.2.2.2.2.1, x.2.2.2.2.2.2.2.2.2.2.2.2.2.2.2.2.1, x.2.2.2.2.2.2.2.2.2.2.2.2.2.2.2.2.2.1, x.2.2.2.2.2.2.2.2.2.2.2.2.2.2.2.2.2.2.1, x.2.2.2.2.2.2.2.2.2.2.2.2.2.2.2.2.2.2.2.1, x.2.2.2.2.2.2.2.2.2.2.2.2.2.2.2.2.2.2.2.2))) (hq _) ?_; kernel_rfl) | (with_reducible refine setStep (f := (fun x : JobT => (x.1, x.2.1, x.2.2.1, x.2.2.2.1, x.2.2.2.2.1, x.2.2.2.2.2.1, x.2.2.2.2.2.2.1, x.2.2.2.2.2.2.2.1, x.2.2.2.2.2.2.2.2.1, m + 21 * (i : Int) + 9, x.2.2.2.2.2.2.2.2.2.2.1, x.2.2.2.2.2.2.2.2.2.2.2.1, x.2.2.2.2.2.2.2.2.2.2.2.2.1, x.2.2.2.2.2.2.2.2.2.2.2.2.2.1, x.2.2.2.2.2.2.2.2.2.2.2.2.2.2.1, x.2.2.2.2.2.2.2.2.2.2.2.2.2.2.2.1, x.2.2.2.2.2.2.2.2.2.2.2.2.2.2.2.2.1, x.2.2.2.2.2.2.2.2.2.2.2.2.2.2.2.2.2.1, x.2.2.2.2.2.2.2.2.2.2.2.2.2.2.2.2.2.2.1, x.2.2.2.2.2.2.2.2.2.2.2.2.2.2.2.2.2.2.2.1, x.2.2.2.2.2.2.2.2.2.2.2.2.2.2.2.2.2.2.2.2))) (hq _) ?_; kernel_rfl) | (with_reducible refine setStep (f := (fun x : JobT => (x.1, x.2.1, x.2.2.1, x.2.2.2.1, x.2.2.2.2.1, x.2.2.2.2.2.1, x.2.2.2.2.2.2.1, x.2.2.2.2.2.2.2.1, x.2.2.2.2.2.2.2.2.1, x.2.2.2.2.2.2.2.2.2.1, m + 21 * (i : Int) + 10, x.2.2.2.2.2.2.2.2.2.2.2.1, x.2.2.2.2.2.2.2.2.2.2.2.2.1, x.2.2.2.2.2.2.2.2.2.2.2.2.2.1, x.2.2.2.2.2.2.2.2.2.2.2.2.2.2.1, x.2.2.2.2.2.2.2.2.2.2.2.2.2.2.2.1, x.2.2.2.2.2.2.2.2.2.2.2.2.2.2.2.2.1, x.2.2.2.2.2.2.2.2.2.2.2.2.2.2.2.2.2.1, x.2.2.2.2.2.2.2.2.2.2.2.2.2.2.2.2.2.2.1, x.2.2.2.2.2.2.2.2.2.2.2.2.2.2.2.2.2.2.2.1, x.2.2.2.2.2.2.2.2.2.2.2.2.2.2.2.2.2.2.2.2))) (hq _) ?_; kernel_rfl) | (with_reducible refine setStep (f := (fun x : JobT => (x.1, x.2.1, x.2.2.1, x.2.2.2.1, x.2.2.2.2.1, x.2.2.2.2.2.1, x.2.2.2.2.2.2.1, x.2.2.2.2.2.2.2.1, x.2.2.2.2.2.2.2.2.1, x.2.2.2.2.2.2.2.2.2.1, x.2.2.2.2.2.2.2.2.2.2.1, m + 21 * (i : Int) + 11, x.2.2.2.2.2.2.2.2.2.2.2.2.1, x.2.2.2.2.2.2.2.2.2.2.2.2.2.1, x.2.2.2.2.2.2.2.2.2.2.2.2.2.2.1, x.2.2.2.2.2.2.2.2.2.2.2.2.2.2.2.1, x.2.2.2.2.2.2.2.2.2.2.2.2.2.2.2.2.1, x.2.2.2.2.2.2.2.2.2.2.2.2.2.2.2.2.2.1, x.2.2.2.2.2.2.2.2.2.2.2.2.2.2.2.2.2.2.1, x.2.2.2.2.2.2.2.2.2.2.2.2.2.2.2.2.2.2.2.1, x.2.2.2.2.2.2.2.2.2.2.2.2.2.2.2.2.2.2.2.2))) (hq _) ?_; kernel_rfl) | (with_reducible refine setStep (f := (fun x : JobT => (x.1, x.2.1, x.2.2.1, x.2.2.2.1, x.2.2.2.2.1, x.2.2.2.2.2.1, x.2.2.2.2.2.2.1, x.2.2.2.2.2.2.2.1, x.2.2.2.2.2.2.2.2.1, x.2.2.2.2.2.2.2.2.2.1, x.2.2.2.2.2.2.2.2.2.2.1, x.2.2.2.2.2.2.2.2.2.2.2.1, m + 21 * (i : Int) + 12, x.2.2.2.2.2.2.2.2.2.2.2.2.2.1, x.2.2.2.2.2.2.2.2.2.2.2.2.2.2.1, x.2.2.2.2.2.2.2.2.2.2.2.2.2.2.2.1, x.2.2.2.2.2.2.2.2.2.2.2.2.2.2.2.2.1, x.2.2.2.2.2.2.2.2.2.2.2.2.2.2.2.2.2.1, x.2.2.2.2.2.2.2.2.2.2.2.2.2.2.2.2.2.2.1, x.2.2.2.2.2.2.2.2.2.2.2.2.2.2.2.2.2.2.2.1, x.2.2.2.2.2.2.2.2.2.2.2.2.2.2.2.2.2.2.2.2))) (hq _) ?_; kernel_rfl) | (with_reducible refine setStep (f := (fun x : JobT => (x.1, x.2.1, x.2.2.1, x.2.2.2.1, x.2.2.2.2.1, x.2.2.2.2.2.1, x.2.2.2.2.2.2.1, x.2.2.2.2.2.2.2.1, x.2.2.2.2.2.2.2.2.1, x.2.2.2.2.2.2.2.2.2.1, x.2.2.2.2.2.2.2.2.2.2.1, x.2.2.2.2.2.2.2.2.2.2.2.1, x.2.2.2.2.2.2.2.2.2.2.2.2.1, m + 21 * (i : Int) + 13, x.2.2.2.2.2.2.2.2.2.2.2.2.2.2.1, x.2.2.2.2.2.2.2.2.2.2.2.2.2.2.2.1, x.2.2.2.2.2.2.2.2.2.2.2.2.2.2.2.2.1, x.2.2.2.2.2.2.2.2.2.2.2.2.2.2.2.2.2.1, x.2.2.2.2.2.2.2.2.2.2.2.2.2.2.2.2.2.2.1, x.2.2.2.2.2.2.2.2.2.2.2.2.2.2.2.2.2.2.2.1, x.2.2.2.2.2.2.2.2.2.2.2.2.2.2.2.2.2.2.2.2))) (hq _) ?_; kernel_rfl) | (with_reducible refine setStep (f := (fun x : JobT => (x.1, x.2.1, x.2.2.1, x.2.2.2.1, x.2.2.2.2.1, x.2.2.2.2.2.1, x.2.2.2.2.2.2.1, x.2.2.2.2.2.2.2.1, x.2.2.2.2.2.2.2.2.1, x.2.2.2.2.2.2.2.2.2.1, x.2.2.2.2.2.2.2.2.2.2.1, x.2.2.2.2.2.2.2.2.2.2.2.1, x.2.2.2.2.2.2.2.2.2.2.2.2.1, x.2.2.2.2.2.2.2.2.2.2.2.2.2.1, m + 21 * (i : Int) + 14, x.2.2.2.2.2.2.2.2.2.2.2.2.2.2.2.1, x.2.2.2.2.2.2.2.2.2.2.2.2.2.2.2.2.1, x.2.2.2.2.2.2.2.2.2.2.2.2.2.2.2.2.2.1, x.2.2.2.2.2.2.2.2.2.2.2.2.2.2.2.2.2.2.1, x.2.2.2.2.2.2.2.2.2.2.2.2.2.2.2.2.2.2.2.1, x.2.2.2.2.2.2.2.2.2.2.2.2.2.2.2.2.2.2.2.2))) (hq _) ?_; kernel_rfl) | (with_reducible refine setStep (f := (fun x : JobT => (x.1, x.2.1, x.2.2.1, x.2.2.2.1, x.2.2.2.2.1, x.2.2.2.2.2.1, x.2.2.2.2.2.2.1, x.2.2.2.2.2.2.2.1, x.2.2.2.2.2.2.2.2.1, x.2.2.2.2.2.2.2.2.2.1, x.2.2.2.2.2.2.2.2.2.2.1, x.2.2.2.2.2.2.2.2.2.2.2.1, x.2.2.2.2.2.2.2.2.2.2.2.2.1, x.2.2.2.2.2.2.2.2.2.2.2.2.2.1, x.2.2.2.2.2.2.2.2.2.2.2.2.2.2.1, m + 21 * (i : Int) + 15, x.2.2.2.2.2.2.2.2.2.2.2.2.2.2.2.2.1, x.2.2.2.2.2.2.2.2.2.2.2.2.2.2.2.2.2.1, x.2.2.2.2.2.2.2.2.2.2.2.2.2.2.2.2.2.2.1, x.2.2.2.2.2.2.2.2.2.2.2.2.2.2.2.2.2.2.2.1, x.2.2.2.2.2.2.2.2.2.2.2.2.2.2.2.2.2.2.2.2))) (hq _) ?_; kernel_rfl) | (with_reducible refine setStep (f := (fun x : JobT => (x.1, x.2.1, x.2.2.1, x.2.2.2.1, x.2.2.2.2.1, x.2.2.2.2.2.1, x.2.2.2.2.2.2.1, x.2.2.2.2.2.2.2.1, x.2.2.2.2.2.2.2.2.1, x.2.2.2.2.2.2.2.2.2.1, x.2.2.2.2.2.2.2.2.2.2.1, x.2.2.2.2.2.2.2.2.2.2.2.1, x.2.2.2.2.2.2.2.2.2.2.2.2.1, x.2.2.2.2.2.2.2.2.2.2.2.2.2.1, x.2.2.2.2.2.2.2.2.2.2.2.2.2.2.1, x.2.2.2.2.2.2.2.2.2.2.2.2.2.2.2.1, ((m + 21 * (i : Int) + 16).tmod 3 == 0), x.2.2.2.2.2.2.2.2.2.2.2.2.2.2.2.2.2.1, x.2.2.2.2.2.2.2.2.2.2.2.2.2.2.2.2.2.2.1, x.2.2.2.2.2.2.2.2.2.2.2.2.2.2.2.2.2.2.2.1, x.2.2.2.2.2.2.2.2.2.2.2.2.2.2.2.2.2.2.2.2))) (hq _) ?_; kernel_rfl) | (with_reducible refine setStep (f := (fun x : JobT => (x.1, x.2.1, x.2.2.1, x.2.2.2.1, x.2.2.2.2.1, x.2.2.2.2.2.1, x.2.2.2.2.2.2.1, x.2.2.2.2.2.2.2.1, x.2.2.2.2.2.2.2.2.1, x.2.2.2.2.2.2.2.2.2.1, x.2.2.2.2.2.2.2.2.2.2.1, x.2.2.2.2.2.2.2.2.2.2.2.1, x.2.2.2.2.2.2.2.2.2.2.2.2.1, x.2.2.2.2.2.2.2.2.2.2.2.2.2.1, x.2.2.2.2.2.2.2.2.2.2.2.2.2.2.1, x.2.2.2.2.2.2.2.2.2.2.2.2.2.2.2.1, x.2.2.2.2.2.2.2.2.2.2.2.2.2.2.2.2.1, m + 21 * (i : Int) + 17, x.2.2.2.2.2.2.2.2.2.2.2.2.2.2.2.2.2.2.1, x.2.2.2.2.2.2.2.2.2.2.2.2.2.2.2.2.2.2.2.1, x.2.2.2.2.2.2.2.2.2.2.2.2.2.2.2.2.2.2.2.2))) (hq _) ?_; kernel_rfl) | (with_reducible refine setStep (f := (fun x : JobT => (x.1, x.2.1, x.2.2.1, x.2.2.2.1, x.2.2.2.2.1, x.2.2.2.2.2.1, x.2.2.2.2.2.2.1, x.2.2.2.2.2.2.2.1, x.2.2.2.2.2.2.2.2.1, x.2.2.2.2.2.2.2.2.2.1, x.2.2.2.2.2.2.2.2.2.2.1, x.2.2.2.2.2.2.2.2.2.2.2.1, x.2.2.2.2.2.2.2.2.2.2.2.2.1, x.2.2.2.2.2.2.2.2.2.2.2.2.2.1, x.2.2.2.2.2.2.2.2.2.2.2.2.2.2.1, x.2.2.2.2.2.2.2.2.2.2.2.2.2.2.2.1, x.2.2.2.2.2.2.2.2.2.2.2.2.2.2.2.2.1, x.2.2.2.2.2.2.2.2.2.2.2.2.2.2.2.2.2.1, m + 21 * (i : Int) + 18, x.2.2.2.2.2.2.2.2.2.2.2.2.2.2.2.2.2.2.2.1, x.2.2.2.2.2.2.2.2.2.2.2.2.2.2.2.2.2.2.2.2))) (hq _) ?_; kernel_rfl) | (with_reducible refine setStep (f := (fun x : JobT => (x.1, x.2.1, x.2.2.1, x.2.2.2.1, x.2.2.2.2.1, x.2.2.2.2.2.1, x.2.2.2.2.2.2.1, x.2.2.2.2.2.2.2.1, x.2.2.2.2.2.2.2.2.1, x.2.2.2.2.2.2.2.2.2.1, x.2.2.2.2.2.2.2.2.2.2.1, x.2.2.2.2.2.2.2.2.2.2.2.1, x.2.2.2.2.2.2.2.2.2.2.2.2.1, x.2.2.2.2.2.2.2.2.2.2.2.2.2.1, x.2.2.2.2.2.2.2.2.2.2.2.2.2.2.1, x.2.2.2.2.2.2.2.2.2.2.2.2.2.2.2.1, x.2.2.2.2.2.2.2.2.2.2.2.2.2.2.2.2.1, x.2.2.2.2.2.2.2.2.2.2.2.2.2.2.2.2.2.1, x.2.2.2.2.2.2.2.2.2.2.2.2.2.2.2.2.2.2.1, m + 21 * (i : Int) + 19, x.2.2.2.2.2.2.2.2.2.2.2.2.2.2.2.2.2.2.2.2))) (hq _) ?_; kernel_rfl) | (with_reducible refine setStep (f := (fun x : JobT => (x.1, x.2.1, x.2.2.1, x.2.2.2.1, x.2.2.2.2.1, x.2.2.2.2.2.1, x.2.2.2.2.2.2.1, x.2.2.2.2.2.2.2.1, x.2.2.2.2.2.2.2.2.1, x.2.2.2.2.2.2.2.2.2.1, x.2.2.2.2.2.2.2.2.2.2.1, x.2.2.2.2.2.2.2.2.2.2.2.1, x.2.2.2.2.2.2.2.2.2.2.2.2.1, x.2.2.2.2.2.2.2.2.2.2.2.2.2.1, x.2.2.2.2.2.2.2.2.2.2.2.2.2.2.1, x.2.2.2.2.2.2.2.2.2.2.2.2.2.2.2.1, x.2.2.2.2.2.2.2.2.2.2.2.2.2.2.2.2.1, x.2.2.2.2.2.2.2.2.2.2.2.2.2.2.2.2.2.1, x.2.2.2.2.2.2.2.2.2.2.2.2.2.2.2.2.2.2.1, x.2.2.2.2.2.2.2.2.2.2.2.2.2.2.2.2.2.2.2.1, m + 21 * (i : Int) + 20))) (hq _) ?_; kernel_rfl) | (with_reducible refine (setStep (f := (fun x : JobT => (x.1, x.2.1, x.2.2.1, x.2.2.2.1, x.2.2.2.2.1, x.2.2.2.2.2.1, x.2.2.2.2.2.2.1, x.2.2.2.2.2.2.2.1, x.2.2.2.2.2.2.2.2.1, x.2.2.2.2.2.2.2.2.2.1, x.2.2.2.2.2.2.2.2.2.2.1, x.2.2.2.2.2.2.2.2.2.2.2.1, x.2.2.2.2.2.2.2.2.2.2.2.2.1, x.2.2.2.2.2.2.2.2.2.2.2.2.2.1, x.2.2.2.2.2.2.2.2.2.2.2.2.2.2.1, x.2.2.2.2.2.2.2.2.2.2.2.2.2.2.2.1, x.2.2.2.2.2.2.2.2.2.2.2.2.2.2.2.2.1, x.2.2.2.2.2.2.2.2.2.2.2.2.2.2.2.2.2.1, x.2.2.2.2.2.2.2.2.2.2.2.2.2.2.2.2.2.2.1, x.2.2.2.2.2.2.2.2.2.2.2.2.2.2.2.2.2.2.2.1, m + 21 * (i : Int) + 20))) (B := fJob m i) (hq _) ?_).trans (hms hi2); kernel_rfl) | trace_state
  · obtain rfl : i = xs.length := by omega
    repeat' (first | exact trivial | refine BS.a (fun h => ?_) (fun h => ?_) | refine BS.n ?_ | refine BS.s (fun h => ?_) (fun h => ?_) | refine And.intro ?_ ?_ | exact Need.au | exact OutS.whole rfl rfl | (refine CodeK.cnd (by rfl) (fun h => absurd (of_decide_eq_true h) (by omega)) (fun h => ?_)) | (refine CodeK.blk ?_) | (refine CodeK.seqk ?_) | (refine CodeK.vc gOk hE ?_) | refine ListO.go gOk hE ?_)
    all_goals first
      | (exfalso; omega)
      | (refine Need.mk ?_; rw [← hys]; done)
      | exact Need.mk rfl
      | trace_state
end Go.Proofs.Ytjlphbhmjicdhaa
end

section
/- Marks of queues. -/
namespace Go.Proofs.Ytjlphbhmjicdhaa
open Go Go.Tr
set_option maxRecDepth 100000
set_option maxHeartbeats 4000000
set_option linter.unusedVariables false
set_option linter.unusedSimpArgs false
/-- The number that a row of queues begins with. -/
def offQ (m : Int) (xs : List (List OpT)) : Nat → Int
  | 0 => m
  | i + 1 => offQ m xs i + 4 * (xs.getD i []).length
theorem offQ_bd {m : Int} {xs : List (List OpT)} (h0 : 0 ≤ m) (hx : ∀ i, (xs.getD i []).length ≤ 1048576) : ∀ i : Nat, 0 ≤ offQ m xs i ∧ offQ m xs i ≤ m + 4194304 * i
  | 0 => by simp [offQ]; omega
  | i + 1 => by
    have h := offQ_bd (m := m) h0 hx i
    have h2 := hx i
    simp only [offQ]
    omega
abbrev bQM (e' κ : Nat) (xs xs' : List (List OpT)) : Bt := ⟨κ, 0, true, .sl 102 1 (List OpT) (encQ e') decQ [] xs, .sl 102 1 (List OpT) (encQ e') decQ [] xs', .ty .own true 102 1 (List OpT) (encQ e') decQ [] xs'⟩
abbrev bOpX (e κ : Nat) (xs xs' : List OpT) : Bt := ⟨κ, 0, true, .sl e 4 OpT encOp decOp zOp xs, .sl e 4 OpT encOp decOp zOp xs', .ty .own true e 4 OpT encOp decOp zOp xs'⟩
abbrev gQ (m : Int) (xs : List (List OpT)) (j : Nat) : List OpT := mkL zOp (fOp (offQ m xs j)) (xs.getD j []) (xs.getD j []).length
theorem markQ_run (e' e : Nat) (xs : List (List OpT)) (m : Int) (h0 : 0 ≤ m) (h1 : m ≤ 1099511627776) (hn : xs.length ≤ 1048576) (hx : ∀ i, (xs.getD i []).length ≤ 1048576) : RunT Try.prog 14 [.one (.h 0 xs.length), ti m] [.sl e 1 (List OpT) (encQ e') decQ [] xs] [oi (offQ m xs xs.length)] [.sl e 1 (List OpT) (encQ e') decQ [] (mkL [] (gQ m xs) xs xs.length)] := by
  refine RunT.of_vc gOk Try.func14 rfl rfl (Nat.le_of_ble_eq_true rfl) (by repeat' (first | exact trivial | exact ⟨_, rfl, Nat.le_refl _⟩ | exact Nat.le_of_ble_eq_true rfl | refine And.intro ?_ ?_)) (Nat.le_of_ble_eq_true rfl) rfl (fun F hE => ?_)
  repeat' (first | exact trivial | refine BS.a (fun h => ?_) (fun h => ?_) | refine BS.n ?_ | refine BS.s (fun h => ?_) (fun h => ?_) | refine And.intro ?_ ?_ | exact Need.au | exact OutS.whole rfl rfl | refine ListO.go gOk hE ?_)
  refine CodeK.loop gOk hE (fun i : Nat => ⟨[(0, vr 1000000 xs.length), (1, vi (offQ m xs i)), (5, vi i)], [(1000000, rQ .own false e' 0 (mkL [] (gQ m xs) xs i))]⟩) (fun i => i ≤ xs.length) (fun i => xs.length - i) 0 (by refine leT.of ?_ ?_ rfl <;> repeat' (first | exact trivial | refine And.intro rfl ?_ | refine And.intro (by first | rfl | (simp [mkL_zero] <;> rfl)) ?_)) (Nat.zero_le _) ?_
  rintro i hi
  have hl := mkL_len [] (gQ m xs) xs i
  have hb := offQ_bd h0 hx i
  by_cases hi2 : i < xs.length
  · have hgi := mkL_ge [] (gQ m xs) xs i i (Nat.le_refl _)
    have hxi := hx i
    have c1 := markOpG_run e' ((mkL [] (gQ m xs) xs i).getD i []) (offQ m xs i) hb.1 (by omega) (by rw [hgi]; omega)
    repeat' (first | exact trivial | refine BS.a (fun h => ?_) (fun h => ?_) | refine BS.n ?_ | refine BS.s (fun h => ?_) (fun h => ?_) | refine And.intro ?_ ?_ | exact Need.au | exact OutS.whole rfl rfl | (refine ListO.open_ gOk hE 5000 rfl rfl rfl rfl rfl rfl rfl rfl (by (try simp only [adN_zero]); omega) (by decide) rfl rfl rfl rfl ?_) | (refine OpK.callB (bOpX e' 5000 ((mkL [] (gQ m xs) xs i).getD i []) (mkL zOp (fOp (offQ m xs i)) ((mkL [] (gQ m xs) xs i).getD i []) ((mkL [] (gQ m xs) xs i).getD i []).length)) c1 rfl rfl rfl rfl hE (BtOk.sl rfl (mkL_len _ _ _ _)) rfl (QsVs.cons (.one (.h rfl rfl rfl)) (.cons (.one (.c (.lit _) rfl)) .nil)) rfl rfl ?_) | refine ListO.go gOk hE ?_)
    all_goals (try simp only [adN_zero] at *)
    all_goals first
      | (exfalso; omega)
      | (refine Need.mk ?_; omega)
      | (refine ⟨i + 1, ?_, by omega, by first | omega | (dsimp only; omega)⟩
         refine St.le.trans (close_le (κ := 1000000) (key := 5000) (mkL zOp (fOp (offQ m xs i)) ((mkL [] (gQ m xs) xs i).getD i []) ((mkL [] (gQ m xs) xs i).getD i []).length) (by rfl) (by rfl) (by exact (mkL_len _ _ _ _).symm) (by rfl) (by rfl) (by omega) (by decide) (by rfl) (fun r' h8 h9 => absurd (Nat.lt_one_iff.1 h8) h9)) ?_
         exact (by refine leT.of ?_ ?_ rfl <;> repeat' (first | exact trivial | refine And.intro rfl ?_ | refine And.intro (by first | rfl | (rw [hgi]; rfl) | (refine congrArg (fun l => some (rQ .own false e' 0 l)) ?_; rw [hgi]; exact mkL_set [] (gQ m xs) _ _ (by omega))) ?_)))
  · repeat' (first | exact trivial | refine BS.a (fun h => ?_) (fun h => ?_) | refine BS.n ?_ | refine BS.s (fun h => ?_) (fun h => ?_) | refine And.intro ?_ ?_ | exact Need.au | exact OutS.whole rfl rfl | refine ListO.go gOk hE ?_)
    all_goals (try simp only [adN_zero] at *)
    all_goals first
      | (exfalso; omega)
      | (refine Need.mk ?_; first | omega | rw [show i = xs.length by omega])
      | (refine Need.mk ?_; (try rw [show i = xs.length by omega]); rfl)
end Go.Proofs.Ytjlphbhmjicdhaa
end

section
/- Marks of numbers. -/
namespace Go.Proofs.Ytjlphbhmjicdhaa
open Go Go.Tr
set_option maxRecDepth 100000
set_option maxHeartbeats 4000000
set_option linter.unusedVariables false
set_option linter.unusedSimpArgs false
abbrev fI (m : Int) (j : Nat) : Int := m + j
abbrev bInt (e κ : Nat) (xs xs' : List Int) : Bt := ⟨κ, 0, true, .sl e 1 Int encI decI 0 xs, .sl e 1 Int encI decI 0 xs', .ty .own true e 1 Int encI decI 0 xs'⟩
abbrev bIntX (κ : Nat) (xs xs' : List Int) : Bt := ⟨κ, 0, true, .sl 0 1 Int encI decI 0 xs, .sl 0 1 Int encI decI 0 xs', .ty .own false 0 1 Int encI decI 0 xs'⟩
theorem markI_run (e : Nat) (xs : List Int) (m : Int) (h0 : 0 ≤ m) (h1 : m ≤ 33554432) (hn : xs.length ≤ 4000000) : RunT Try.prog 29 [.one (.h 0 xs.length), ti m] [.sl e 1 Int encI decI 0 xs] [oi (m + xs.length)] [.sl e 1 Int encI decI 0 (mkL 0 (fI m) xs xs.length)] := by
  refine RunT.of_vc gOk Try.func29 rfl rfl (Nat.le_of_ble_eq_true rfl) (by repeat' (first | exact trivial | exact ⟨_, rfl, Nat.le_refl _⟩ | exact Nat.le_of_ble_eq_true rfl | refine And.intro ?_ ?_)) (Nat.le_of_ble_eq_true rfl) rfl (fun F hE => ?_)
  repeat' (first | exact trivial | refine BS.a (fun h => ?_) (fun h => ?_) | refine BS.n ?_ | refine BS.s (fun h => ?_) (fun h => ?_) | refine And.intro ?_ ?_ | exact Need.au | exact OutS.whole rfl rfl | refine ListO.go gOk hE ?_)
  refine CodeK.loop gOk hE (fun i : Nat => ⟨[(0, vr 1000000 xs.length), (1, vi (m + i)), (5, vi i)], [(1000000, .ty .own false 0 1 Int encI decI 0 (mkL 0 (fI m) xs i))]⟩) (fun i => i ≤ xs.length) (fun i => xs.length - i) 0 (by refine leT.of ?_ ?_ rfl <;> repeat' (first | exact trivial | refine And.intro rfl ?_ | refine And.intro (by simp [mkL_zero] <;> rfl) ?_)) (Nat.zero_le _) ?_
  rintro i hi
  have hl := mkL_len 0 (fI m) xs i
  repeat' (first | exact trivial | refine BS.a (fun h => ?_) (fun h => ?_) | refine BS.n ?_ | refine BS.s (fun h => ?_) (fun h => ?_) | refine And.intro ?_ ?_ | exact Need.au | exact OutS.whole rfl rfl | refine ListO.go gOk hE ?_)
  all_goals (try simp only [adN_zero] at *)
  all_goals first
    | (refine Need.mk ?_; first | omega | (rw [List.length_set]; omega) | rw [show i = xs.length by omega])
    | (refine ⟨i + 1, (by refine leT.of ?_ ?_ rfl <;> repeat' (first | exact trivial | refine And.intro rfl ?_ | refine And.intro (by first | rfl | (refine litInt ?_; omega) | (refine congrArg (fun l => some (TRoot.ty .own false 0 1 Int encI decI 0 l)) ?_; exact mkL_set 0 (fI m) _ _ (by omega))) ?_)), by omega, by first | omega | (dsimp only; omega)⟩)
theorem heldI_run (xs : List Int) (m : Int) (h0 : 0 ≤ m) (h1 : m ≤ 33554432) (hn : xs.length ≤ 4000000) : RunT Try.prog 30 [.one (.c (tI (mkL 0 (fI m) xs xs.length))), ti m] [] [oi (m + xs.length)] [] := by
  have hl := mkL_len 0 (fI m) xs xs.length
  refine RunT.of_vc gOk Try.func30 rfl rfl (Nat.le_of_ble_eq_true rfl) (by repeat' (first | exact trivial | exact ⟨_, rfl, Nat.le_refl _⟩ | exact Nat.le_of_ble_eq_true rfl | refine And.intro ?_ ?_)) (Nat.le_of_ble_eq_true rfl) rfl (fun F hE => ?_)
  repeat' (first | exact trivial | refine BS.a (fun h => ?_) (fun h => ?_) | refine BS.n ?_ | refine BS.s (fun h => ?_) (fun h => ?_) | refine And.intro ?_ ?_ | exact Need.au | exact OutS.whole rfl rfl | refine ListO.go gOk hE ?_)
  refine CodeK.loop gOk hE (fun i : Nat => ⟨[(0, vr 1000000 (mkL 0 (fI m) xs xs.length).length), (1, vi (m + i)), (5, vi i)], [(1000000, rI .fro false (mkL 0 (fI m) xs xs.length))]⟩) (fun i => i ≤ xs.length) (fun i => xs.length - i) 0 (by refine leT.of ?_ ?_ rfl <;> repeat' (first | exact trivial | refine And.intro rfl ?_ | refine And.intro (by simp <;> rfl) ?_)) (Nat.zero_le _) ?_
  rintro i hi
  have hg : i < xs.length → (mkL 0 (fI m) xs xs.length).getD i 0 = fI m i := fun h => mkL_get _ _ _ _ _ h h
  repeat' (first | exact trivial | refine BS.a (fun h => ?_) (fun h => ?_) | refine BS.n ?_ | refine BS.s (fun h => ?_) (fun h => ?_) | refine And.intro ?_ ?_ | exact Need.au | exact OutS.whole rfl rfl | refine ListO.go gOk hE ?_)
  all_goals (try simp only [adN_zero] at *)
  all_goals first
    | (exfalso; have h9 := hg (by omega); rw [h9] at *; first | omega | (simp_all; done))
    | (refine Need.mk ?_; first | omega | rw [show i = xs.length by omega])
    | (refine ⟨i + 1, (by refine leT.of ?_ ?_ rfl <;> repeat' (first | exact trivial | refine And.intro rfl ?_ | refine And.intro (by first | rfl | (refine litInt ?_; omega)) ?_)), by omega, by first | omega | (dsimp only; omega)⟩)
end Go.Proofs.Ytjlphbhmjicdhaa
end

section
/- Marks of a heap. -/
namespace Go.Proofs.Ytjlphbhmjicdhaa
open Go Go.Tr
set_option maxRecDepth 100000
set_option maxHeartbeats 4000000
set_option linter.unusedVariables false
set_option linter.unusedSimpArgs false
theorem markH_run (e : Nat) (b c : List Int) (m : Int) (h0 : 0 ≤ m) (h1 : m ≤ 1048577) (hb : b.length ≤ 1048576) (hc : c.length ≤ 1048576) : RunT Try.prog 149 [.agg [.h 0 b.length, .h 1 c.length], ti m] [.sl e 1 Int encI decI 0 b, .sl e 1 Int encI decI 0 c] [oi (m + b.length + c.length)]
    [.sl e 1 Int encI decI 0 (mkL 0 (fI m) b b.length), .sl e 1 Int encI decI 0 (mkL 0 (fI (m + b.length)) c c.length)] := by
  have c1 := markI_run 0 b m h0 (by omega) (by omega)
  have c2 := markI_run 0 c (m + b.length) (by omega) (by omega) (by omega)
  refine RunT.of_vc gOk Try.func149 rfl rfl (Nat.le_of_ble_eq_true rfl) (by repeat' (first | exact trivial | exact ⟨_, rfl, Nat.le_refl _⟩ | exact Nat.le_of_ble_eq_true rfl | refine And.intro ?_ ?_)) (Nat.le_of_ble_eq_true rfl) rfl (fun F hE => ?_)
  repeat' (first | exact trivial | refine BS.a (fun h => ?_) (fun h => ?_) | refine BS.n ?_ | refine BS.s (fun h => ?_) (fun h => ?_) | refine And.intro ?_ ?_ | exact Need.au | exact OutS.whole rfl rfl | (refine OpK.callB (bIntX 1000000 b (mkL 0 (fI m) b b.length)) c1 rfl rfl rfl rfl hE (BtOk.sl rfl (mkL_len _ _ _ _)) rfl (QsVs.cons (.one (.h rfl rfl rfl)) (.cons (.one (.c (.lit _) rfl)) .nil)) rfl rfl ?_) | (refine OpK.callB (bIntX 1000001 c (mkL 0 (fI (m + b.length)) c c.length)) c2 rfl rfl rfl rfl hE (BtOk.sl rfl (mkL_len _ _ _ _)) rfl (QsVs.cons (.one (.h rfl rfl rfl)) (.cons (.one (.c (.lit _) rfl)) .nil)) rfl rfl ?_) | refine ListO.go gOk hE ?_)
  all_goals first | exact Need.mk rfl | trace_state
theorem heldH_run (b c : List Int) (m : Int) (h0 : 0 ≤ m) (h1 : m ≤ 1048577) (hb : b.length ≤ 1048576) (hc : c.length ≤ 1048576) : RunT Try.prog 153 [.agg [.c (tI (mkL 0 (fI m) b b.length)), .c (tI (mkL 0 (fI (m + b.length)) c c.length))], ti m] [] [oi (m + b.length + c.length)] [] := by
  have c1 := heldI_run b m h0 (by omega) (by omega)
  have c2 := heldI_run c (m + b.length) (by omega) (by omega) (by omega)
  refine RunT.of_vc gOk Try.func153 rfl rfl (Nat.le_of_ble_eq_true rfl) (by repeat' (first | exact trivial | exact ⟨_, rfl, Nat.le_refl _⟩ | exact Nat.le_of_ble_eq_true rfl | refine And.intro ?_ ?_)) (Nat.le_of_ble_eq_true rfl) rfl (fun F hE => ?_)
  repeat' (first | exact trivial | refine BS.a (fun h => ?_) (fun h => ?_) | refine BS.n ?_ | refine BS.s (fun h => ?_) (fun h => ?_) | refine And.intro ?_ ?_ | exact Need.au | exact OutS.whole rfl rfl | (refine OpK.call c1 rfl rfl rfl rfl hE ?_ rfl rfl ?_; focus ((repeat' (first | exact PsA.lit _ | exact PsA.ref rfl rfl | exact PsA.ref rfl (mkL_len _ _ _ _).symm | constructor)); all_goals (fail "ps"))) | (refine OpK.call c2 rfl rfl rfl rfl hE ?_ rfl rfl ?_; focus ((repeat' (first | exact PsA.lit _ | exact PsA.ref rfl rfl | exact PsA.ref rfl (mkL_len _ _ _ _).symm | constructor)); all_goals (fail "ps"))) | refine ListO.go gOk hE ?_)
  all_goals first | exact Need.mk rfl | (exfalso; omega) | trace_state
end Go.Proofs.Ytjlphbhmjicdhaa
end

section
/- Marks of lists. -/
namespace Go.Proofs.Ytjlphbhmjicdhaa
open Go Go.Tr
set_option maxRecDepth 100000
set_option maxHeartbeats 4000000
set_option linter.unusedVariables false
set_option linter.unusedSimpArgs false
abbrev bSL (e κ : Nat) (xs xs' : List (List Int)) : Bt := ⟨κ, 0, true, .sl e 1 (List Int) encL decL [] xs, .sl e 1 (List Int) encL decL [] xs', .ty .own true e 1 (List Int) encL decL [] xs'⟩
abbrev bSLX (κ : Nat) (xs xs' : List (List Int)) : Bt := ⟨κ, 0, true, .sl 0 1 (List Int) encL decL [] xs, .sl 0 1 (List Int) encL decL [] xs', .ty .own false 0 1 (List Int) encL decL [] xs'⟩
/-- The number that a list begins with. -/
def offI (m : Int) (xs : List (List Int)) : Nat → Int
  | 0 => m
  | i + 1 => offI m xs i + (xs.getD i []).length
theorem offI_eq (m : Int) (xs : List (List Int)) : ∀ i, i ≤ xs.length → offI m xs i = m + (xs.take i).flatten.length
  | 0, _ => by simp [offI]
  | i + 1, h => by
    have e : (xs.take (i + 1)).flatten = (xs.take i).flatten ++ xs.getD i [] := by
      rw [List.take_succ_eq_append_getElem (show i < xs.length by omega), List.flatten_append]
      simp [List.getD, show i < xs.length by omega]
    rw [offI, offI_eq m xs i (by omega), e, List.length_append]; omega
theorem offI_bd {m : Int} {xs : List (List Int)} {i : Nat} (hi : i ≤ xs.length) : m ≤ offI m xs i ∧ offI m xs i ≤ m + xs.flatten.length := by
  rw [offI_eq m xs i hi]
  have : (xs.take i).flatten.length ≤ xs.flatten.length := by
    conv => rhs; rw [← List.take_append_drop i xs, List.flatten_append, List.length_append]
    omega
  omega
abbrev gSL (m : Int) (xs : List (List Int)) (j : Nat) : List Int := mkL 0 (fI (offI m xs j)) (xs.getD j []) (xs.getD j []).length
theorem markSL_run (e : Nat) (xs : List (List Int)) (m : Int) (h0 : 0 ≤ m) (h1 : m ≤ 3145728) (hn : xs.length ≤ 1048576) (hc : xs.flatten.length ≤ 1048576) (hx : ∀ i, (xs.getD i []).length ≤ 1048576) : RunT Try.prog 198 [.one (.h 0 xs.length), ti m] [.sl e 1 (List Int) encL decL [] xs] [oi (offI m xs xs.length)] [.sl e 1 (List Int) encL decL [] (mkL [] (gSL m xs) xs xs.length)] := by
  refine RunT.of_vc gOk Try.func198 rfl rfl (Nat.le_of_ble_eq_true rfl) (by repeat' (first | exact trivial | exact ⟨_, rfl, Nat.le_refl _⟩ | exact Nat.le_of_ble_eq_true rfl | refine And.intro ?_ ?_)) (Nat.le_of_ble_eq_true rfl) rfl (fun F hE => ?_)
  repeat' (first | exact trivial | refine BS.a (fun h => ?_) (fun h => ?_) | refine BS.n ?_ | refine BS.s (fun h => ?_) (fun h => ?_) | refine And.intro ?_ ?_ | exact Need.au | exact OutS.whole rfl rfl | refine ListO.go gOk hE ?_)
  refine CodeK.loop gOk hE (fun i : Nat => ⟨[(0, vr 1000000 xs.length), (1, vi (offI m xs i)), (5, vi i)], [(1000000, rSL .own false 0 (mkL [] (gSL m xs) xs i))]⟩) (fun i => i ≤ xs.length) (fun i => xs.length - i) 0 (by refine leT.of ?_ ?_ rfl <;> repeat' (first | exact trivial | refine And.intro rfl ?_ | refine And.intro (by first | rfl | (simp [mkL_zero] <;> rfl)) ?_)) (Nat.zero_le _) ?_
  rintro i hi
  have hl := mkL_len [] (gSL m xs) xs i
  have hb := offI_bd (m := m) hi
  by_cases hi2 : i < xs.length
  · have hgi := mkL_ge [] (gSL m xs) xs i i (Nat.le_refl _)
    have hxi := hx i
    have c1 := markI_run 3 ((mkL [] (gSL m xs) xs i).getD i []) (offI m xs i) (by omega) (by omega) (by rw [hgi]; omega)
    repeat' (first | exact trivial | refine BS.a (fun h => ?_) (fun h => ?_) | refine BS.n ?_ | refine BS.s (fun h => ?_) (fun h => ?_) | refine And.intro ?_ ?_ | exact Need.au | exact OutS.whole rfl rfl | (refine ListO.open_ gOk hE 5000 rfl rfl rfl rfl rfl rfl rfl rfl (by (try simp only [adN_zero]); omega) (by decide) rfl rfl rfl rfl ?_) | (refine OpK.callB (bInt 3 5000 ((mkL [] (gSL m xs) xs i).getD i []) (mkL 0 (fI (offI m xs i)) ((mkL [] (gSL m xs) xs i).getD i []) ((mkL [] (gSL m xs) xs i).getD i []).length)) c1 rfl rfl rfl rfl hE (BtOk.sl rfl (mkL_len _ _ _ _)) rfl (QsVs.cons (.one (.h rfl rfl rfl)) (.cons (.one (.c (.lit _) rfl)) .nil)) rfl rfl ?_) | refine ListO.go gOk hE ?_)
    all_goals (try simp only [adN_zero] at *)
    all_goals first
      | (exfalso; omega)
      | (refine Need.mk ?_; omega)
      | (refine ⟨i + 1, ?_, by omega, by first | omega | (dsimp only; omega)⟩
         refine St.le.trans (close_le (κ := 1000000) (key := 5000) (mkL 0 (fI (offI m xs i)) ((mkL [] (gSL m xs) xs i).getD i []) ((mkL [] (gSL m xs) xs i).getD i []).length) (by rfl) (by rfl) (by exact (mkL_len _ _ _ _).symm) (by rfl) (by rfl) (by omega) (by decide) (by rfl) (fun r' h8 h9 => absurd (Nat.lt_one_iff.1 h8) h9)) ?_
         exact (by refine leT.of ?_ ?_ rfl <;> repeat' (first | exact trivial | refine And.intro rfl ?_ | refine And.intro (by first | rfl | (rw [hgi]; rfl) | (refine congrArg (fun l => some (rSL .own false 0 l)) ?_; rw [hgi]; exact mkL_set [] (gSL m xs) _ _ (by omega))) ?_)))
  · repeat' (first | exact trivial | refine BS.a (fun h => ?_) (fun h => ?_) | refine BS.n ?_ | refine BS.s (fun h => ?_) (fun h => ?_) | refine And.intro ?_ ?_ | exact Need.au | exact OutS.whole rfl rfl | refine ListO.go gOk hE ?_)
    all_goals (try simp only [adN_zero] at *)
    all_goals first
      | (exfalso; omega)
      | (refine Need.mk ?_; first | omega | rw [show i = xs.length by omega])
      | (refine Need.mk ?_; (try rw [show i = xs.length by omega]); rfl)
theorem markLs_run (e e' : Nat) (g o : List (List Int)) (m : Int) (h0 : 0 ≤ m) (h1 : m ≤ 1048577) (hg : g.length ≤ 1048576) (hcg : g.flatten.length ≤ 1048576) (hxg : ∀ i, (g.getD i []).length ≤ 1048576) (ho : o.length ≤ 1048576) (hco : o.flatten.length ≤ 1048576) (hxo : ∀ i, (o.getD i []).length ≤ 1048576) (hs : m + g.flatten.length ≤ 3145728) :
    RunT Try.prog 150 [.agg [.h 0 g.length, .h 1 o.length], ti m] [.sl e 1 (List Int) encL decL [] g, .sl e' 1 (List Int) encL decL [] o] [oi (offI (offI m g g.length) o o.length)]
      [.sl e 1 (List Int) encL decL [] (mkL [] (gSL m g) g g.length), .sl e' 1 (List Int) encL decL [] (mkL [] (gSL (offI m g g.length) o) o o.length)] := by
  have hb := offI_bd (m := m) (Nat.le_refl g.length)
  have c1 := markSL_run 0 g m h0 (by omega) hg hcg hxg
  have c2 := markSL_run 0 o (offI m g g.length) (by omega) (by omega) ho hco hxo
  generalize hq : offI m g g.length = m2 at *
  refine RunT.of_vc gOk Try.func150 rfl rfl (Nat.le_of_ble_eq_true rfl) (by repeat' (first | exact trivial | exact ⟨_, rfl, Nat.le_refl _⟩ | exact Nat.le_of_ble_eq_true rfl | refine And.intro ?_ ?_)) (Nat.le_of_ble_eq_true rfl) rfl (fun F hE => ?_)
  repeat' (first | exact trivial | refine BS.a (fun h => ?_) (fun h => ?_) | refine BS.n ?_ | refine BS.s (fun h => ?_) (fun h => ?_) | refine And.intro ?_ ?_ | exact Need.au | exact OutS.whole rfl rfl | (refine OpK.callB (bSLX 1000000 g (mkL [] (gSL m g) g g.length)) c1 rfl rfl rfl rfl hE (BtOk.sl rfl (mkL_len _ _ _ _)) rfl (QsVs.cons (.one (.h rfl rfl rfl)) (.cons (.one (.c (.lit _) rfl)) .nil)) rfl rfl ?_) | (refine OpK.callB (bSLX 1000001 o (mkL [] (gSL m2 o) o o.length)) c2 rfl rfl rfl rfl hE (BtOk.sl rfl (mkL_len _ _ _ _)) rfl (QsVs.cons (.one (.h rfl rfl rfl)) (.cons (.one (.c (.lit _) rfl)) .nil)) rfl rfl ?_) | refine ListO.go gOk hE ?_)
  all_goals first | exact Need.mk rfl | trace_state
end Go.Proofs.Ytjlphbhmjicdhaa
end

section
/- Marks of a clock. -/
namespace Go.Proofs.Ytjlphbhmjicdhaa
open Go Go.Tr
set_option maxRecDepth 100000
set_option maxHeartbeats 4000000
set_option linter.unusedVariables false
set_option linter.unusedSimpArgs false
abbrev fPn (m : Int) (j : Nat) : PinT := ((m + 4 * j).tmod 3 == 0, m + 4 * j + 1, (m + 4 * j + 1 + 1).tmod 3 == 0, m + 4 * j + 1 + 1 + 1)
abbrev bPinX (κ : Nat) (xs xs' : List PinT) : Bt := ⟨κ, 0, true, .sl 0 4 PinT encPin decPin zPin xs, .sl 0 4 PinT encPin decPin zPin xs', .ty .own false 0 4 PinT encPin decPin zPin xs'⟩
theorem markPinS_run (e : Nat) (xs : List PinT) (m : Int) (h0 : 0 ≤ m) (h1 : m ≤ 4194304) (hn : xs.length ≤ 4000000) : RunT Try.prog 151 [.one (.h 0 xs.length), ti m] [.sl e 4 PinT encPin decPin zPin xs] [oi (m + 4 * xs.length)] [.sl e 4 PinT encPin decPin zPin (mkL zPin (fPn m) xs xs.length)] := by
  refine RunT.of_vc gOk Try.func151 rfl rfl (Nat.le_of_ble_eq_true rfl) (by repeat' (first | exact trivial | exact ⟨_, rfl, Nat.le_refl _⟩ | exact Nat.le_of_ble_eq_true rfl | refine And.intro ?_ ?_)) (Nat.le_of_ble_eq_true rfl) rfl (fun F hE => ?_)
  repeat' (first | exact trivial | refine BS.a (fun h => ?_) (fun h => ?_) | refine BS.n ?_ | refine BS.s (fun h => ?_) (fun h => ?_) | refine And.intro ?_ ?_ | exact Need.au | exact OutS.whole rfl rfl | refine ListO.go gOk hE ?_)
  refine CodeK.loop gOk hE (fun i : Nat => ⟨[(0, vr 1000000 xs.length), (1, vi (m + 4 * i)), (5, vi i)], [(1000000, rPin .own false 0 (mkL zPin (fPn m) xs i))]⟩) (fun i => i ≤ xs.length) (fun i => xs.length - i) 0 (by refine leT.of ?_ ?_ rfl <;> repeat' (first | exact trivial | refine And.intro rfl ?_ | refine And.intro (by simp [mkL_zero] <;> rfl) ?_)) (Nat.zero_le _) ?_
  rintro i hi
  have hl := mkL_len zPin (fPn m) xs i
  have hS : i < xs.length → ∀ x : PinT, ((mkL zPin (fPn m) xs i).set i x).getD i zPin = x := fun h x => set_getD _ _ _ _ (by omega)
  repeat' (first | exact trivial | refine BS.a (fun h => ?_) (fun h => ?_) | refine BS.n ?_ | refine BS.s (fun h => ?_) (fun h => ?_) | refine And.intro ?_ ?_ | exact Need.au | exact OutS.whole rfl rfl | refine ListO.go gOk hE ?_)
  all_goals (try simp only [adN_zero] at *)
  all_goals first
    | (refine Need.mk ?_; first | omega | (rw [List.length_set]; omega) | (rw [List.length_set, List.length_set]; omega) | (rw [List.length_set, List.length_set, List.length_set]; omega) | rw [show i = xs.length by omega])
    | (refine ⟨i + 1, (by refine leT.of ?_ ?_ rfl <;> repeat' (first | exact trivial | refine And.intro rfl ?_ | refine And.intro (by first | rfl | (refine litInt ?_; omega) | (refine congrArg (fun l => some (rPin .own false 0 l)) ?_; simp only [List.set_set, hS (by omega)]; exact mkL_set _ _ _ _ (by omega))) ?_)), by omega, by first | omega | (dsimp only; omega)⟩)
    | trace_state
end Go.Proofs.Ytjlphbhmjicdhaa
end

section
/- Marks of a limbo. -/
namespace Go.Proofs.Ytjlphbhmjicdhaa
open Go Go.Tr
set_option maxRecDepth 100000
set_option maxHeartbeats 4000000
set_option linter.unusedVariables false
set_option linter.unusedSimpArgs false
abbrev fR (m : Int) (j : Nat) : Row := (m + 2 * j, m + 2 * j + 1)
abbrev bRow (e κ : Nat) (xs xs' : List Row) : Bt := ⟨κ, 0, true, .sl e 2 Row encR decR (0, 0) xs, .sl e 2 Row encR decR (0, 0) xs', .ty .own true e 2 Row encR decR (0, 0) xs'⟩
abbrev bLL (e' e κ : Nat) (xs xs' : List (List Row)) : Bt := ⟨κ, 0, true, .sl e 1 (List Row) (encLL e') decLL [] xs, .sl e 1 (List Row) (encLL e') decLL [] xs', .ty .own true e 1 (List Row) (encLL e') decLL [] xs'⟩
theorem markRows_run (e : Nat) (xs : List Row) (m : Int) (h0 : 0 ≤ m) (h1 : m ≤ 33554432) (hn : xs.length ≤ 4000000) : RunT Try.prog 152 [.one (.h 0 xs.length), ti m] [.sl e 2 Row encR decR (0, 0) xs] [oi (m + 2 * xs.length)] [.sl e 2 Row encR decR (0, 0) (mkL (0, 0) (fR m) xs xs.length)] := by
  refine RunT.of_vc gOk Try.func152 rfl rfl (Nat.le_of_ble_eq_true rfl) (by repeat' (first | exact trivial | exact ⟨_, rfl, Nat.le_refl _⟩ | exact Nat.le_of_ble_eq_true rfl | refine And.intro ?_ ?_)) (Nat.le_of_ble_eq_true rfl) rfl (fun F hE => ?_)
  repeat' (first | exact trivial | refine BS.a (fun h => ?_) (fun h => ?_) | refine BS.n ?_ | refine BS.s (fun h => ?_) (fun h => ?_) | refine And.intro ?_ ?_ | exact Need.au | exact OutS.whole rfl rfl | refine ListO.go gOk hE ?_)
  refine CodeK.loop gOk hE (fun i : Nat => ⟨[(0, vr 1000000 xs.length), (1, vi (m + 2 * i)), (5, vi i)], [(1000000, rR .own false 0 (mkL (0, 0) (fR m) xs i))]⟩) (fun i => i ≤ xs.length) (fun i => xs.length - i) 0 (by refine leT.of ?_ ?_ rfl <;> repeat' (first | exact trivial | refine And.intro rfl ?_ | refine And.intro (by simp [mkL_zero] <;> rfl) ?_)) (Nat.zero_le _) ?_
  rintro i hi
  have hl := mkL_len (0, 0) (fR m) xs i
  repeat' (first | exact trivial | refine BS.a (fun h => ?_) (fun h => ?_) | refine BS.n ?_ | refine BS.s (fun h => ?_) (fun h => ?_) | refine And.intro ?_ ?_ | exact Need.au | exact OutS.whole rfl rfl | refine ListO.go gOk hE ?_)
  all_goals (try simp only [adN_zero] at *)
  all_goals first
    | (refine Need.mk ?_; first | omega | (rw [List.length_set]; omega) | rw [show i = xs.length by omega])
    | (refine ⟨i + 1, (by refine leT.of ?_ ?_ rfl <;> repeat' (first | exact trivial | refine And.intro rfl ?_ | refine And.intro (by first | rfl | (refine litInt ?_; omega) | (refine congrArg (fun l => some (rR .own false 0 l)) ?_; rw [set_getD _ _ _ _ (by omega), List.set_set]; exact mkL_set _ _ _ _ (by omega))) ?_)), by omega, by first | omega | (dsimp only; omega)⟩)
/-- The number that a row of lists begins with. -/
def offR (m : Int) (xs : List (List Row)) : Nat → Int
  | 0 => m
  | i + 1 => offR m xs i + 2 * (xs.getD i []).length
theorem offR_eq (m : Int) (xs : List (List Row)) : ∀ i, i ≤ xs.length → offR m xs i = m + 2 * (xs.take i).flatten.length
  | 0, _ => by simp [offR]
  | i + 1, h => by rw [offR, offR_eq m xs i (by omega), rtake_flat (by omega), List.length_append]; omega
theorem offR_bd {m : Int} {xs : List (List Row)} (h0 : 0 ≤ m) (hc : cnt xs ≤ 1048576) {i : Nat} (hi : i ≤ xs.length) : 0 ≤ offR m xs i ∧ offR m xs i ≤ m + 2097152 := by
  rw [offR_eq m xs i hi]
  have := flat_le xs i
  have := cnt_nn (xs.drop i)
  omega
abbrev gLL (m : Int) (xs : List (List Row)) (j : Nat) : List Row := mkL (0, 0) (fR (offR m xs j)) (xs.getD j []) (xs.getD j []).length
theorem markLL_run (e' e : Nat) (xs : List (List Row)) (m : Int) (h0 : 0 ≤ m) (h1 : m ≤ 16777216) (hn : xs.length ≤ 1048576) (hc : cnt xs ≤ 1048576) (hx : ∀ i, (xs.getD i []).length ≤ 1048576) : RunT Try.prog 104 [.one (.h 0 xs.length), ti m] [.sl e 1 (List Row) (encLL e') decLL [] xs] [oi (offR m xs xs.length)] [.sl e 1 (List Row) (encLL e') decLL [] (mkL [] (gLL m xs) xs xs.length)] := by
  refine RunT.of_vc gOk Try.func104 rfl rfl (Nat.le_of_ble_eq_true rfl) (by repeat' (first | exact trivial | exact ⟨_, rfl, Nat.le_refl _⟩ | exact Nat.le_of_ble_eq_true rfl | refine And.intro ?_ ?_)) (Nat.le_of_ble_eq_true rfl) rfl (fun F hE => ?_)
  repeat' (first | exact trivial | refine BS.a (fun h => ?_) (fun h => ?_) | refine BS.n ?_ | refine BS.s (fun h => ?_) (fun h => ?_) | refine And.intro ?_ ?_ | exact Need.au | exact OutS.whole rfl rfl | refine ListO.go gOk hE ?_)
  refine CodeK.loop gOk hE (fun i : Nat => ⟨[(0, vr 1000000 xs.length), (1, vi (offR m xs i)), (5, vi i)], [(1000000, rLL .own false e' 0 (mkL [] (gLL m xs) xs i))]⟩) (fun i => i ≤ xs.length) (fun i => xs.length - i) 0 (by refine leT.of ?_ ?_ rfl <;> repeat' (first | exact trivial | refine And.intro rfl ?_ | refine And.intro (by first | rfl | (simp [mkL_zero] <;> rfl)) ?_)) (Nat.zero_le _) ?_
  rintro i hi
  have hl := mkL_len [] (gLL m xs) xs i
  have hb := offR_bd h0 hc hi
  by_cases hi2 : i < xs.length
  · have hgi := mkL_ge [] (gLL m xs) xs i i (Nat.le_refl _)
    have hxi := hx i
    have c1 := markRows_run e' ((mkL [] (gLL m xs) xs i).getD i []) (offR m xs i) hb.1 (by omega) (by rw [hgi]; omega)
    repeat' (first | exact trivial | refine BS.a (fun h => ?_) (fun h => ?_) | refine BS.n ?_ | refine BS.s (fun h => ?_) (fun h => ?_) | refine And.intro ?_ ?_ | exact Need.au | exact OutS.whole rfl rfl | (refine ListO.open_ gOk hE 5000 rfl rfl rfl rfl rfl rfl rfl rfl (by (try simp only [adN_zero]); omega) (by decide) rfl rfl rfl rfl ?_) | (refine OpK.callB (bRow e' 5000 ((mkL [] (gLL m xs) xs i).getD i []) (mkL (0, 0) (fR (offR m xs i)) ((mkL [] (gLL m xs) xs i).getD i []) ((mkL [] (gLL m xs) xs i).getD i []).length)) c1 rfl rfl rfl rfl hE (BtOk.sl rfl (mkL_len _ _ _ _)) rfl (QsVs.cons (.one (.h rfl rfl rfl)) (.cons (.one (.c (.lit _) rfl)) .nil)) rfl rfl ?_) | refine ListO.go gOk hE ?_)
    all_goals (try simp only [adN_zero] at *)
    all_goals first
      | (exfalso; omega)
      | (refine Need.mk ?_; omega)
      | (refine ⟨i + 1, ?_, by omega, by first | omega | (dsimp only; omega)⟩
         refine St.le.trans (close_le (κ := 1000000) (key := 5000) (mkL (0, 0) (fR (offR m xs i)) ((mkL [] (gLL m xs) xs i).getD i []) ((mkL [] (gLL m xs) xs i).getD i []).length) (by rfl) (by rfl) (by exact (mkL_len _ _ _ _).symm) (by rfl) (by rfl) (by omega) (by decide) (by rfl) (fun r' h8 h9 => absurd (Nat.lt_one_iff.1 h8) h9)) ?_
         exact (by refine leT.of ?_ ?_ rfl <;> repeat' (first | exact trivial | refine And.intro rfl ?_ | refine And.intro (by first | rfl | (rw [hgi]; rfl) | (refine congrArg (fun l => some (rLL .own false e' 0 l)) ?_; rw [hgi]; exact mkL_set [] (gLL m xs) _ _ (by omega))) ?_)))
  · repeat' (first | exact trivial | refine BS.a (fun h => ?_) (fun h => ?_) | refine BS.n ?_ | refine BS.s (fun h => ?_) (fun h => ?_) | refine And.intro ?_ ?_ | exact Need.au | exact OutS.whole rfl rfl | refine ListO.go gOk hE ?_)
    all_goals (try simp only [adN_zero] at *)
    all_goals first
      | (exfalso; omega)
      | (refine Need.mk ?_; first | omega | rw [show i = xs.length by omega])
      | (refine Need.mk ?_; (try rw [show i = xs.length by omega]); rfl)
end Go.Proofs.Ytjlphbhmjicdhaa
end

section
/- Marks of a memory, of a clock, of a base. -/
namespace Go.Proofs.Ytjlphbhmjicdhaa
open Go Go.Tr
set_option maxRecDepth 100000
set_option maxHeartbeats 4000000
set_option linter.unusedVariables false
set_option linter.unusedSimpArgs false
theorem markMemG_run (ei e e' : Nat) (b c : List Int) (g o : List (List Int)) (hb : b.length ≤ 1048576) (hc : c.length ≤ 1048576) (hg : g.length ≤ 1048576) (ho : o.length ≤ 1048576) (hfg : g.flatten.length + o.flatten.length ≤ 1048576) (hbc : b.length + c.length ≤ 1048576) (hxg : ∀ i, (g.getD i []).length ≤ 1048576) (hxo : ∀ i, (o.getD i []).length ≤ 1048576) :
    ∃ z : Int, 0 ≤ z ∧ z ≤ 2097153 ∧ ∃ b' c' : List Int, ∃ g' o' : List (List Int), b'.length = b.length ∧ c'.length = c.length ∧ g'.length = g.length ∧ o'.length = o.length ∧
    RunT Try.prog 102 [.agg [.h 0 b.length, .h 1 c.length, .h 2 g.length, .h 3 o.length], ti 1] [.sl ei 1 Int encI decI 0 b, .sl ei 1 Int encI decI 0 c, .sl e 1 (List Int) encL decL [] g, .sl e' 1 (List Int) encL decL [] o] [oi z]
      [.sl ei 1 Int encI decI 0 b', .sl ei 1 Int encI decI 0 c', .sl e 1 (List Int) encL decL [] g', .sl e' 1 (List Int) encL decL [] o'] := by
  have c1 := markH_run 0 b c 1 (by omega) (by omega) hb hc
  have c2 := markLs_run 0 0 g o (1 + b.length + c.length) (by omega) (by omega) (by omega) (by omega) hxg (by omega) (by omega) hxo (by omega)
  have q1 := offI_bd (m := 1 + b.length + c.length) (Nat.le_refl g.length)
  have q2 := offI_bd (m := offI (1 + b.length + c.length) g g.length) (Nat.le_refl o.length)
  refine ⟨offI (offI (1 + b.length + c.length) g g.length) o o.length, by omega, by omega, mkL 0 (fI 1) b b.length, mkL 0 (fI (1 + b.length)) c c.length, mkL [] (gSL (1 + b.length + c.length) g) g g.length, mkL [] (gSL (offI (1 + b.length + c.length) g g.length) o) o o.length, mkL_len _ _ _ _, mkL_len _ _ _ _, mkL_len _ _ _ _, mkL_len _ _ _ _, ?_⟩
  generalize offI (offI (1 + b.length + c.length) g g.length) o o.length = z at *
  refine RunT.of_vc gOk Try.func102 rfl rfl (Nat.le_of_ble_eq_true rfl) (by repeat' (first | exact trivial | exact ⟨_, rfl, Nat.le_refl _⟩ | exact Nat.le_of_ble_eq_true rfl | refine And.intro ?_ ?_)) (Nat.le_of_ble_eq_true rfl) rfl (fun F hE => ?_)
  repeat' (first | exact trivial | refine BS.a (fun h => ?_) (fun h => ?_) | refine BS.n ?_ | refine BS.s (fun h => ?_) (fun h => ?_) | refine And.intro ?_ ?_ | exact Need.au | exact OutS.whole rfl rfl | (refine OpK.callBs [bIntX 1000000 b (mkL 0 (fI 1) b b.length), bIntX 1000001 c (mkL 0 (fI (1 + b.length)) c c.length)] c1 rfl rfl rfl rfl hE (List.forall_mem_cons.2 ⟨BtOk.sl rfl (mkL_len _ _ _ _), List.forall_mem_cons.2 ⟨BtOk.sl rfl (mkL_len _ _ _ _), fun _ h => nomatch h⟩⟩) (List.forall_mem_cons.2 ⟨rfl, List.forall_mem_cons.2 ⟨rfl, fun _ h => nomatch h⟩⟩) (show List.Nodup [1000000, 1000001] by decide) (QsVs.cons (.agg (.cons (.h rfl rfl rfl) (.cons (.h rfl rfl rfl) .nil))) (.cons (.one (.c (.lit _) rfl)) .nil)) rfl rfl ?_) | (refine OpK.callBs [bSLX 1000002 g (mkL [] (gSL (1 + b.length + c.length) g) g g.length), bSLX 1000003 o (mkL [] (gSL (offI (1 + b.length + c.length) g g.length) o) o o.length)] c2 rfl rfl rfl rfl hE (List.forall_mem_cons.2 ⟨BtOk.sl rfl (mkL_len _ _ _ _), List.forall_mem_cons.2 ⟨BtOk.sl rfl (mkL_len _ _ _ _), fun _ h => nomatch h⟩⟩) (List.forall_mem_cons.2 ⟨rfl, List.forall_mem_cons.2 ⟨rfl, fun _ h => nomatch h⟩⟩) (show List.Nodup [1000002, 1000003] by decide) (QsVs.cons (.agg (.cons (.h rfl rfl rfl) (.cons (.h rfl rfl rfl) .nil))) (.cons (.one (.c (.lit _) rfl)) .nil)) rfl rfl ?_) | refine ListO.go gOk hE ?_)
  all_goals first | exact Need.mk rfl | trace_state
theorem markClock_run (E : Int) (e : Nat) (ps : List PinT) (m : Int) (h0 : 0 ≤ m) (h1 : m ≤ 4194304) (hn : ps.length ≤ 1048576) : RunT Try.prog 103 [.agg [.c (.lit (.int .i64 E)), .h 0 ps.length], ti m] [.sl e 4 PinT encPin decPin zPin ps] [oi (m + 4 * ps.length)] [.sl e 4 PinT encPin decPin zPin (mkL zPin (fPn m) ps ps.length)] := by
  have c1 := markPinS_run 0 ps m h0 h1 (by omega)
  refine RunT.of_vc gOk Try.func103 rfl rfl (Nat.le_of_ble_eq_true rfl) (by repeat' (first | exact trivial | exact ⟨_, rfl, Nat.le_refl _⟩ | exact Nat.le_of_ble_eq_true rfl | refine And.intro ?_ ?_)) (Nat.le_of_ble_eq_true rfl) rfl (fun F hE => ?_)
  repeat' (first | exact trivial | refine BS.a (fun h => ?_) (fun h => ?_) | refine BS.n ?_ | refine BS.s (fun h => ?_) (fun h => ?_) | refine And.intro ?_ ?_ | exact Need.au | exact OutS.whole rfl rfl | (refine OpK.callB (bPinX 1000000 ps (mkL zPin (fPn m) ps ps.length)) c1 rfl rfl rfl rfl hE (BtOk.sl rfl (mkL_len _ _ _ _)) rfl (QsVs.cons (.one (.h rfl rfl rfl)) (.cons (.one (.c (.lit _) rfl)) .nil)) rfl rfl ?_) | refine ListO.go gOk hE ?_)
  all_goals first | exact Need.mk rfl | trace_state
end Go.Proofs.Ytjlphbhmjicdhaa
end
