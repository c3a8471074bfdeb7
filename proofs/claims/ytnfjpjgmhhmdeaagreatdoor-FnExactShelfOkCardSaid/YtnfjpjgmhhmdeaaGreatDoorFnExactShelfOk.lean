/- For every shelf of bounded size the two ShelfOk answer alike and leave the shelf as it was, so the law returns true (the table of slot sizes reads as the program lays it); of a larger one it returns true at once. -/
import Derived.Test.YtnfjpjgmhhmdeaaGreatDoorRows
import Derived.WalkKit
import Derived.ProofKit
import Derived.OpenShut
import Derived.ShutString
import Derived.ChangeOld
import Derived.Below
import Derived.ChangeArms
import Derived.Test.YtnfjpjgmhhmdeaaGreatDoorFrame
import Derived.Test.YtnfjpjgmhhmdeaaGreatDoorTie
import Derived.Test.YtnfjpjgmhhmdeaaGreatDoorCards
import Derived.LaidMore
import Derived.Lay
import Derived.SevenTiedAt
import Derived.Stop.Joined
import Derived.OpenVars
import Derived.Test.YtnfjpjgmhhmdeaaGreatDoorZKSD
import Derived.Test.YtnfjpjgmhhmdeaaGreatDoorZKSD
import Derived.Test.YtnfjpjgmhhmdeaaGreatDoorZSO5
namespace Go.Proofs.YtnfjpjgmhhmdeaaGreatDoor.fnExactShelfOk
open Go.Proofs.YtnfjpjgmhhmdeaaGreatDoor Go.Tr
open Go.ChangeShapes Go.WideShapes Go.ChangeAt Go.RowKit
set_option linter.unusedVariables false
set_option linter.unusedSimpArgs false

set_option maxRecDepth 100000 in
set_option maxHeartbeats 4000000 in
theorem law_run (e0x n0x : Nat) (row0x : Nat → Nat → C) (hn0x : n0x ≤ 9223372036854775807) (h0x : ∀ i r d, i < n0x → ([.i] : List Dt)[r]? = some d → DtOk d (row0x i r)) (e0y n0y : Nat) (row0y : Nat → Nat → C) (hn0y : n0y ≤ 9223372036854775807) (h0y : ∀ i r d, i < n0y → ([.i] : List Dt)[r]? = some d → DtOk d (row0y i r)) (e0z n0z : Nat) (row0z : Nat → Nat → C) (hn0z : n0z ≤ 9223372036854775807) (h0z : ∀ i r d, i < n0z → ([.sl [.i]] : List Dt)[r]? = some d → DtOk d (row0z i r)) (e0u n0u : Nat) (row0u : Nat → Nat → C) (hn0u : n0u ≤ 9223372036854775807) (h0u : ∀ i r d, i < n0u → ([.sl [.i]] : List Dt)[r]? = some d → DtOk d (row0u i r)) (a0v : Int) (w0v : -9223372036854775808 ≤ a0v ∧ a0v ≤ 9223372036854775807) (e0r n0r : Nat) (row0r : Nat → Nat → C) (hn0r : n0r ≤ 9223372036854775807) (h0r : ∀ i r d, i < n0r → ([.b, .i, .b, .i] : List Dt)[r]? = some d → DtOk d (row0r i r)) (e0s n0s : Nat) (row0s : Nat → Nat → C) (hn0s : n0s ≤ 9223372036854775807) (h0s : ∀ i r d, i < n0s → ([.sl [.i, .i]] : List Dt)[r]? = some d → DtOk d (row0s i r)) (e0t n0t : Nat) (row0t : Nat → Nat → C) (hn0t : n0t ≤ 9223372036854775807) (h0t : ∀ i r d, i < n0t → ([.i] : List Dt)[r]? = some d → DtOk d (row0t i r)) (e0k n0k : Nat) (row0k : Nat → Nat → C) (hn0k : n0k ≤ 9223372036854775807) (h0k : ∀ i r d, i < n0k → ([.i] : List Dt)[r]? = some d → DtOk d (row0k i r)) (e0l n0l : Nat) (row0l : Nat → Nat → C) (hn0l : n0l ≤ 9223372036854775807) (h0l : ∀ i r d, i < n0l → ([.b, .i, .i, .i, .i, .i, .i, .i, .i, .i, .i, .i, .i, .i, .i, .i, .b, .i, .i, .i, .i] : List Dt)[r]? = some d → DtOk d (row0l i r)) (e0m n0m : Nat) (row0m : Nat → Nat → C) (hn0m : n0m ≤ 9223372036854775807) (h0m : ∀ i r d, i < n0m → ([.sl [.i, .i, .i, .i]] : List Dt)[r]? = some d → DtOk d (row0m i r)) (e0n n0n : Nat) (row0n : Nat → Nat → C) (hn0n : n0n ≤ 9223372036854775807) (h0n : ∀ i r d, i < n0n → ([.i, .i, .i, .i, .i, .i, .i] : List Dt)[r]? = some d → DtOk d (row0n i r)) (a0o : Int) (w0o : -9223372036854775808 ≤ a0o ∧ a0o ≤ 9223372036854775807) :
    RunP Tryz.prog hT 3 [.agg [.c (.sl .fro e0x 1 n0x row0x), .c (.sl .fro e0y 1 n0y row0y), .c (.sl .fro e0z 1 n0z row0z), .c (.sl .fro e0u 1 n0u row0u), .c (.lit (.int .i64 a0v)), .c (.sl .fro e0r 4 n0r row0r), .c (.sl .fro e0s 1 n0s row0s), .c (.sl .fro e0t 1 n0t row0t), .c (.sl .fro e0k 1 n0k row0k), .c (.sl .fro e0l 21 n0l row0l), .c (.sl .fro e0m 1 n0m row0m), .c (.sl .fro e0n 7 n0n row0n), .c (.lit (.int .i64 a0o))]] [] fun outs ext => outs = [.one (.lit (.bool true))] ∧ ext = [] := by
  obtain ⟨b, lb, pb, sb⟩ := ints_of (e := e0x) hn0x h0x
  obtain ⟨c, lc, pc, sc⟩ := ints_of (e := e0y) hn0y h0y
  obtain ⟨g, lg, pg, sg⟩ := lists_of (e := e0z) (e' := 0) hn0z h0z
  obtain ⟨o, lo, po, so⟩ := lists_of (e := e0u) (e' := 0) hn0u h0u
  obtain ⟨t, lt, pt, st⟩ := Pins_of (e := e0r) (e' := 0) hn0r h0r
  obtain ⟨l, ll, pl, sl⟩ := llists_of (e := e0s) (e' := 0) (e2 := 0) hn0s h0s
  obtain ⟨z, lz, pz, sz⟩ := ints_of (e := e0t) hn0t h0t
  obtain ⟨k, lk, pk, sk⟩ := ints_of (e := e0k) hn0k h0k
  obtain ⟨j, lj, pj, sj⟩ := JobsB_of (e := e0l) (e' := 0) hn0l h0l
  obtain ⟨w, lw, pw, sw⟩ := queues_of (e := e0m) (e' := 0) (e2 := 0) hn0m h0m
  obtain ⟨v, lv, pv, sv⟩ := Evs_of (e := e0n) (e' := 0) hn0n h0n
  have mx : ∀ i, (l.flatten.getD i (0, 0)).1 ≤ 9223372036854775807 := fun i => by
    by_cases hi : i < l.flatten.length
    · have e1 : l.flatten.getD i (0, 0) = l.flatten[i] := by rw [List.getD_eq_getElem?_getD, List.getElem?_eq_getElem hi]; rfl
      rw [e1]
      obtain ⟨x, hx, hy⟩ := List.mem_flatten.1 (List.getElem_mem hi)
      exact ((pl x hx).2 _ hy).1.2
    · rw [show l.flatten.getD i (0, 0) = (0, 0) by rw [List.getD_eq_getElem?_getD, List.getElem?_eq_none (Nat.le_of_not_lt hi)]; rfl]; decide
  have zx : ∀ i, z.getD i 0 ≤ 9223372036854775807 := fun i => by
    by_cases hi : i < z.length
    · have e1 : z.getD i 0 = z[i] := by rw [List.getD_eq_getElem?_getD, List.getElem?_eq_getElem hi]; rfl
      rw [e1]; exact (pz _ (List.getElem_mem hi)).2
    · rw [show z.getD i 0 = 0 by rw [List.getD_eq_getElem?_getD, List.getElem?_eq_none (Nat.le_of_not_lt hi)]; rfl]; decide
  have cx : ∀ i, k.getD i 0 ≤ 9223372036854775807 := fun i => by
    by_cases hi : i < k.length
    · have e1 : k.getD i 0 = k[i] := by rw [List.getD_eq_getElem?_getD, List.getElem?_eq_getElem hi]; rfl
      rw [e1]; exact (pk _ (List.getElem_mem hi)).2
    · rw [show k.getD i 0 = 0 by rw [List.getD_eq_getElem?_getD, List.getElem?_eq_none (Nat.le_of_not_lt hi)]; rfl]; decide
  have jx : ∀ i, hJ (j.getD i zJob) ≤ 9223372036854775807 ∧ oJ (j.getD i zJob) ≤ 9223372036854775807 := fun i => by
    by_cases hi : i < j.length
    · have e1 : j.getD i zJob = j[i] := by rw [List.getD_eq_getElem?_getD, List.getElem?_eq_getElem hi]; rfl
      rw [e1]; exact pj _ (List.getElem_mem hi)
    · rw [show j.getD i zJob = zJob by rw [List.getD_eq_getElem?_getD, List.getElem?_eq_none (Nat.le_of_not_lt hi)]; rfl]; decide
  have h := ShelfOk_law b c g o a0v t l z k j w v a0o ⟨⟨⟨by omega, by omega, by omega, by omega, getD_le fun x hx => (pg x hx).1, getD_le fun x hx => (po x hx).1⟩, by omega, by omega, getD_leR fun x hx => (pl x hx).1, by omega⟩, by omega, by omega, by omega, getD_leR fun x hx => pw x hx, by omega⟩ mx zx cx jx
  exact RunP.args (by exact ⟨⟨sb, sc, sg, so, rfl, st, sl, sz, sk, sj, sw, sv, rfl, trivial⟩, trivial⟩) h.run

set_option maxRecDepth 100000 in
theorem dsOk0 : TyDs Tryz.prog 40 [.sl [.i], .sl [.i], .sl [.sl [.i]], .sl [.sl [.i]], .i, .sl [.b, .i, .b, .i], .sl [.sl [.i, .i]], .sl [.i], .sl [.i], .sl [.b, .i, .i, .i, .i, .i, .i, .i, .i, .i, .i, .i, .i, .i, .i, .i, .b, .i, .i, .i, .i], .sl [.sl [.i, .i, .i, .i]], .sl [.i, .i, .i, .i, .i, .i, .i], .i] := (TyDs.struct Tryz.underlying40 (FsDs.cons (TyDs.struct Tryz.underlying35 (FsDs.cons (TyDs.struct Tryz.underlying29 (FsDs.cons (TyDs.struct Tryz.underlying24 (FsDs.cons (TyDs.slice Tryz.underlying22 (TyDs.int Tryz.underlying3) (by kernel_rfl) (by decide)) rfl (by kernel_rfl) (FsDs.cons (TyDs.slice Tryz.underlying22 (TyDs.int Tryz.underlying3) (by kernel_rfl) (by decide)) rfl (by kernel_rfl) FsDs.nil)) (by kernel_rfl)) rfl (by kernel_rfl) (FsDs.cons (TyDs.struct Tryz.underlying27 (FsDs.cons (TyDs.slice Tryz.underlying25 (TyDs.struct Tryz.underlying250 (FsDs.cons (TyDs.slice Tryz.underlying22 (TyDs.int Tryz.underlying3) (by kernel_rfl) (by decide)) rfl (by kernel_rfl) FsDs.nil) (by kernel_rfl)) (by kernel_rfl) (by decide)) rfl (by kernel_rfl) (FsDs.cons (TyDs.slice Tryz.underlying25 (TyDs.struct Tryz.underlying250 (FsDs.cons (TyDs.slice Tryz.underlying22 (TyDs.int Tryz.underlying3) (by kernel_rfl) (by decide)) rfl (by kernel_rfl) FsDs.nil) (by kernel_rfl)) (by kernel_rfl) (by decide)) rfl (by kernel_rfl) FsDs.nil)) (by kernel_rfl)) rfl (by kernel_rfl) FsDs.nil)) (by kernel_rfl)) rfl (by kernel_rfl) (FsDs.cons (TyDs.struct Tryz.underlying32 (FsDs.cons (TyDs.int Tryz.underlying3) rfl (by kernel_rfl) (FsDs.cons (TyDs.slice Tryz.underlying30 (TyDs.struct Tryz.underlying226 (FsDs.cons (TyDs.bool Tryz.underlying4) rfl (by kernel_rfl) (FsDs.cons (TyDs.int Tryz.underlying3) rfl (by kernel_rfl) (FsDs.cons (TyDs.bool Tryz.underlying4) rfl (by kernel_rfl) (FsDs.cons (TyDs.int Tryz.underlying3) rfl (by kernel_rfl) FsDs.nil)))) (by kernel_rfl)) (by kernel_rfl) (by decide)) rfl (by kernel_rfl) FsDs.nil)) (by kernel_rfl)) rfl (by kernel_rfl) (FsDs.cons (TyDs.slice Tryz.underlying33 (TyDs.struct Tryz.underlying172 (FsDs.cons (TyDs.slice Tryz.underlying170 (TyDs.struct Tryz.underlying253 (FsDs.cons (TyDs.int Tryz.underlying3) rfl (by kernel_rfl) (FsDs.cons (TyDs.int Tryz.underlying3) rfl (by kernel_rfl) FsDs.nil)) (by kernel_rfl)) (by kernel_rfl) (by decide)) rfl (by kernel_rfl) FsDs.nil) (by kernel_rfl)) (by kernel_rfl) (by decide)) rfl (by kernel_rfl) (FsDs.cons (TyDs.slice Tryz.underlying22 (TyDs.int Tryz.underlying3) (by kernel_rfl) (by decide)) rfl (by kernel_rfl) FsDs.nil)))) (by kernel_rfl)) rfl (by kernel_rfl) (FsDs.cons (TyDs.slice Tryz.underlying22 (TyDs.int Tryz.underlying3) (by kernel_rfl) (by decide)) rfl (by kernel_rfl) (FsDs.cons (TyDs.slice Tryz.underlying36 (TyDs.struct Tryz.underlying135 (FsDs.cons (TyDs.bool Tryz.underlying4) rfl (by kernel_rfl) (FsDs.cons (TyDs.struct Tryz.underlying132 (FsDs.cons (TyDs.int Tryz.underlying3) rfl (by kernel_rfl) (FsDs.cons (TyDs.int Tryz.underlying3) rfl (by kernel_rfl) (FsDs.cons (TyDs.int Tryz.underlying3) rfl (by kernel_rfl) (FsDs.cons (TyDs.int Tryz.underlying3) rfl (by kernel_rfl) FsDs.nil)))) (by kernel_rfl)) rfl (by kernel_rfl) (FsDs.cons (TyDs.int Tryz.underlying3) rfl (by kernel_rfl) (FsDs.cons (TyDs.int Tryz.underlying3) rfl (by kernel_rfl) (FsDs.cons (TyDs.struct Tryz.underlying133 (FsDs.cons (TyDs.int Tryz.underlying3) rfl (by kernel_rfl) (FsDs.cons (TyDs.int Tryz.underlying3) rfl (by kernel_rfl) (FsDs.cons (TyDs.int Tryz.underlying3) rfl (by kernel_rfl) (FsDs.cons (TyDs.int Tryz.underlying3) rfl (by kernel_rfl) (FsDs.cons (TyDs.int Tryz.underlying3) rfl (by kernel_rfl) (FsDs.cons (TyDs.int Tryz.underlying3) rfl (by kernel_rfl) (FsDs.cons (TyDs.int Tryz.underlying3) rfl (by kernel_rfl) (FsDs.cons (TyDs.int Tryz.underlying3) rfl (by kernel_rfl) (FsDs.cons (TyDs.int Tryz.underlying3) rfl (by kernel_rfl) (FsDs.cons (TyDs.bool Tryz.underlying4) rfl (by kernel_rfl) FsDs.nil)))))))))) (by kernel_rfl)) rfl (by kernel_rfl) (FsDs.cons (TyDs.int Tryz.underlying3) rfl (by kernel_rfl) (FsDs.cons (TyDs.int Tryz.underlying3) rfl (by kernel_rfl) (FsDs.cons (TyDs.int Tryz.underlying3) rfl (by kernel_rfl) (FsDs.cons (TyDs.int Tryz.underlying3) rfl (by kernel_rfl) FsDs.nil))))))))) (by kernel_rfl)) (by kernel_rfl) (by decide)) rfl (by kernel_rfl) (FsDs.cons (TyDs.slice Tryz.underlying37 (TyDs.struct Tryz.underlying120 (FsDs.cons (TyDs.slice Tryz.underlying118 (TyDs.struct Tryz.underlying132 (FsDs.cons (TyDs.int Tryz.underlying3) rfl (by kernel_rfl) (FsDs.cons (TyDs.int Tryz.underlying3) rfl (by kernel_rfl) (FsDs.cons (TyDs.int Tryz.underlying3) rfl (by kernel_rfl) (FsDs.cons (TyDs.int Tryz.underlying3) rfl (by kernel_rfl) FsDs.nil)))) (by kernel_rfl)) (by kernel_rfl) (by decide)) rfl (by kernel_rfl) FsDs.nil) (by kernel_rfl)) (by kernel_rfl) (by decide)) rfl (by kernel_rfl) (FsDs.cons (TyDs.slice Tryz.underlying38 (TyDs.struct Tryz.underlying140 (FsDs.cons (TyDs.int Tryz.underlying3) rfl (by kernel_rfl) (FsDs.cons (TyDs.int Tryz.underlying3) rfl (by kernel_rfl) (FsDs.cons (TyDs.int Tryz.underlying3) rfl (by kernel_rfl) (FsDs.cons (TyDs.int Tryz.underlying3) rfl (by kernel_rfl) (FsDs.cons (TyDs.int Tryz.underlying3) rfl (by kernel_rfl) (FsDs.cons (TyDs.int Tryz.underlying3) rfl (by kernel_rfl) (FsDs.cons (TyDs.int Tryz.underlying3) rfl (by kernel_rfl) FsDs.nil))))))) (by kernel_rfl)) (by kernel_rfl) (by decide)) rfl (by kernel_rfl) (FsDs.cons (TyDs.int Tryz.underlying3) rfl (by kernel_rfl) FsDs.nil)))))) (by kernel_rfl))
theorem door_met (os : Os) (args : Array Value) : laidMetH Tryz.prog Rows.fnExactShelfOkRow.laid ((World.doorLaid Tryz.prog 400 os).forCall (fun _ _ => 0) ⟨#[], args, []⟩).memory :=
  laidMetH_of_parts3 (fuel := 8) (laidMet_of_run' 8 (by kernel_rfl) (by kernel_rfl)) (by kernel_rfl) (by kernel_rfl)

set_option maxRecDepth 100000 in
theorem lifted (os : Os) (started : os.Started) (H : Type) (enc : TypeId × Value → H) :
    ReturnsInHanded {} Tryz.checked os 3 .any (fun w args => (Rows.fnExactShelfOkSpec.pre enc Tryz.prog Tryz.f3 [] false w args ∧ laidMetH Tryz.prog Rows.fnExactShelfOkRow.laid w) ∧ sizedMet enc Tryz.prog Tryz.f3 (OpenSpec.ofChange Rows.fnExactShelfOkSpec) false w args) (Rows.fnExactShelfOkSpec.post enc Tryz.prog Tryz.f3 false true false false) := by
  refine returnsInHanded_of_change_and (C := Tryz.checked) (X := fun w _ => laidMetH Tryz.prog Rows.fnExactShelfOkRow.laid w) (fun _ _ _ hh h => h.of_heap hh) own started (by kernel_rfl) Tryz.func3
    (ChangeSpec.witness_shaped (enc := enc) (C := Tryz.checked) (os := os) (X := fun w _ => laidMetH Tryz.prog Rows.fnExactShelfOkRow.laid w) false (World.doorLaid Tryz.prog 400 os) #[.agg #[.slice none 0 0, .slice none 0 0, .slice none 0 0, .slice none 0 0, .int .i64 0, .slice none 0 0, .slice none 0 0, .slice none 0 0, .slice none 0 0, .slice none 0 0, .slice none 0 0, .slice none 0 0, .int .i64 0]] 8 rfl (World.shaped_of_RefB (by kernel_rfl) (by kernel_rfl)) (by kernel_rfl) (by kernel_rfl) (by kernel_rfl) (door_met os _)) ?_
  intro W base args ds gs before hval0 hW hcnd _ hL _
  have hval : ∀ (j : Nat) t v, Tryz.f3.params[j]? = some t → args[j]? = some v → Value.okWide Tryz.prog W .any base t v := hval0
  have hW' := hW
  obtain ⟨p, q, hA0, hV, rfl, hfz, hnd⟩ := hW
  have hA : DataW.TrodAll enc Tryz.prog W 0 (fun _ => true) true Tryz.f3.params.toList args.toList ds p := hA0
  rw [Tryz.params3] at hA hval
  obtain ⟨v0, vs0, d0, ds0, p0, q0, hargs, rfl, rfl, h0, r0⟩ := trodAll_cons hA
  obtain ⟨rfl, rfl, rfl⟩ := trodAll_nil r0
  obtain rfl : args = #[v0] := by cases args; simp_all
  obtain ⟨gv0, rfl⟩ : ∃ gv0, gs = [gv0] := by
    match gs, vars_len hV with
    | [gv0], _ => exact ⟨gv0, rfl⟩
  have k0 := h0
  have lt0 : ∀ x ∈ p0, x.block < W.heap.size := by obtain ⟨m, hm⟩ := k0; exact DataW.trod_lt m _ _ _ hm
  have tr0 := arg_tree h0 dsOk0
  obtain ⟨cs0, rfl, sz0⟩ := okWide_struct Tryz.underlying40 (hval 0 40 v0 rfl rfl)
  obtain ⟨u0x, c0x, ce0x, ok0x, cr0x⟩ := tr0 0 _ rfl
  obtain ⟨e0x, n0x, row0x, rfl, hn0x, h0x⟩ := ok0x.slice
  obtain ⟨u0y, c0y, ce0y, ok0y, cr0y⟩ := tr0 1 _ rfl
  obtain ⟨e0y, n0y, row0y, rfl, hn0y, h0y⟩ := ok0y.slice
  obtain ⟨u0z, c0z, ce0z, ok0z, cr0z⟩ := tr0 2 _ rfl
  obtain ⟨e0z, n0z, row0z, rfl, hn0z, h0z⟩ := ok0z.slice
  obtain ⟨u0u, c0u, ce0u, ok0u, cr0u⟩ := tr0 3 _ rfl
  obtain ⟨e0u, n0u, row0u, rfl, hn0u, h0u⟩ := ok0u.slice
  obtain ⟨u0v, c0v, ce0v, ok0v, cr0v⟩ := tr0 4 _ rfl
  obtain ⟨a0v, rfl, w0v⟩ := ok0v.int
  obtain ⟨u0r, c0r, ce0r, ok0r, cr0r⟩ := tr0 5 _ rfl
  obtain ⟨e0r, n0r, row0r, rfl, hn0r, h0r⟩ := ok0r.slice
  obtain ⟨u0s, c0s, ce0s, ok0s, cr0s⟩ := tr0 6 _ rfl
  obtain ⟨e0s, n0s, row0s, rfl, hn0s, h0s⟩ := ok0s.slice
  obtain ⟨u0t, c0t, ce0t, ok0t, cr0t⟩ := tr0 7 _ rfl
  obtain ⟨e0t, n0t, row0t, rfl, hn0t, h0t⟩ := ok0t.slice
  obtain ⟨u0k, c0k, ce0k, ok0k, cr0k⟩ := tr0 8 _ rfl
  obtain ⟨e0k, n0k, row0k, rfl, hn0k, h0k⟩ := ok0k.slice
  obtain ⟨u0l, c0l, ce0l, ok0l, cr0l⟩ := tr0 9 _ rfl
  obtain ⟨e0l, n0l, row0l, rfl, hn0l, h0l⟩ := ok0l.slice
  obtain ⟨u0m, c0m, ce0m, ok0m, cr0m⟩ := tr0 10 _ rfl
  obtain ⟨e0m, n0m, row0m, rfl, hn0m, h0m⟩ := ok0m.slice
  obtain ⟨u0n, c0n, ce0n, ok0n, cr0n⟩ := tr0 11 _ rfl
  obtain ⟨e0n, n0n, row0n, rfl, hn0n, h0n⟩ := ok0n.slice
  obtain ⟨u0o, c0o, ce0o, ok0o, cr0o⟩ := tr0 12 _ rfl
  obtain ⟨a0o, rfl, w0o⟩ := ok0o.int
  clear hA0 hval0
  have hw := RunP.law (W := W) (cargs := #[.agg cs0]) (law_run e0x n0x row0x hn0x h0x e0y n0y row0y hn0y h0y e0z n0z row0z hn0z h0z e0u n0u row0u hn0u h0u a0v w0v e0r n0r row0r hn0r h0r e0s n0s row0s hn0s h0s e0t n0t row0t hn0t h0t e0k n0k row0k hn0k h0k e0l n0l row0l hn0l h0l e0m n0m row0m hn0m h0m e0n n0n row0n hn0n h0n a0o w0o) (hT_of (tab_of_laid hL)) rfl (fun i x hx => by
    rcases i with _ | i
    · injection hx with hx; subst hx; exact ⟨_, rfl, ag_agg (W := W) (l := [.sl .fro e0x 1 n0x row0x, .sl .fro e0y 1 n0y row0y, .sl .fro e0z 1 n0z row0z, .sl .fro e0u 1 n0u row0u, .lit (.int .i64 a0v), .sl .fro e0r 4 n0r row0r, .sl .fro e0s 1 n0s row0s, .sl .fro e0t 1 n0t row0t, .sl .fro e0k 1 n0k row0k, .sl .fro e0l 21 n0l row0l, .sl .fro e0m 1 n0m row0m, .sl .fro e0n 7 n0n row0n, .lit (.int .i64 a0o)]) (by rw [sz0]; kernel_rfl) (fun j c hj => by
      rcases j with _ | _ | _ | _ | _ | _ | _ | _ | _ | _ | _ | _ | _ | j
      · injection hj with hj; subst hj; exact ⟨_, ce0x, cr0x⟩
      · injection hj with hj; subst hj; exact ⟨_, ce0y, cr0y⟩
      · injection hj with hj; subst hj; exact ⟨_, ce0z, cr0z⟩
      · injection hj with hj; subst hj; exact ⟨_, ce0u, cr0u⟩
      · injection hj with hj; subst hj; exact ⟨_, ce0v, cr0v⟩
      · injection hj with hj; subst hj; exact ⟨_, ce0r, cr0r⟩
      · injection hj with hj; subst hj; exact ⟨_, ce0s, cr0s⟩
      · injection hj with hj; subst hj; exact ⟨_, ce0t, cr0t⟩
      · injection hj with hj; subst hj; exact ⟨_, ce0k, cr0k⟩
      · injection hj with hj; subst hj; exact ⟨_, ce0l, cr0l⟩
      · injection hj with hj; subst hj; exact ⟨_, ce0m, cr0m⟩
      · injection hj with hj; subst hj; exact ⟨_, ce0n, cr0n⟩
      · injection hj with hj; subst hj; exact ⟨_, ce0o, cr0o⟩
      · simp at hj)⟩
    · simp at hx)
  refine hw.mono fun e W' ⟨he, bel⟩ => ?_
  subst he
  exact ⟨_, rfl, _, _, _, [], _, _, hW', trodAll_mk1 (shut_bool Tryz.underlying4 _), (trodAll_cons_mk (Below.trod laidOut (by kernel_rfl) (of_decide_eq_true (by kernel_rfl)) k0 bel lt0) trodAll_mk0), Below.trodVars laidOut bel (by kernel_rfl) hV, bel.frame _, fun h => by cases h⟩

theorem jf_wf : Rows.fnExactShelfOkRow.wf (OpenSpec.ofChange Rows.fnExactShelfOkSpec) = true := by kernel_rfl
theorem jf_lo : laidOutB Tryz.prog = true := by kernel_rfl
theorem jf_mr : mapsRowed Tryz.prog = true := by kernel_rfl
theorem jf_ip : (Rows.fnExactShelfOkRow.inPlace == Tryz.prog.inPlace 3) = true := by kernel_rfl
theorem jf_uf : (Rows.fnExactShelfOkRow.unfollowed == Tryz.prog.unfollowed 3) = true := by kernel_rfl
theorem jf_rc : (Rows.fnExactShelfOkRow.recurses == Tryz.prog.recurses 3) = true := by kernel_rfl
theorem jf_vn : (Rows.fnExactShelfOkRow.named == Tryz.prog.varsNamed 3) = true := by kernel_rfl
theorem jf_pk : (Rows.fnExactShelfOkRow.plainKeys == Tryz.prog.plainKeys) = true := by kernel_rfl
theorem jf_named : Tryz.prog.funcNamed "loop.example/g01538/laws.FnExactShelfOk" = some 3 := by kernel_rfl
theorem jf_all : joinedFacts Tryz.prog 3 Tryz.f3 Rows.fnExactShelfOkSpec Rows.fnExactShelfOkRow = true := by
  unfold joinedFacts
  simp only [Bool.and_eq_true]
  repeat' apply And.intro
  all_goals first | with_reducible exact jf_wf | with_reducible exact jf_lo | with_reducible exact jf_mr | with_reducible exact jf_ip | with_reducible exact jf_uf | with_reducible exact jf_rc | with_reducible exact jf_vn | with_reducible exact jf_pk | kernel_rfl

theorem over : Rows.fnExactShelfOkRow.holds Tryz.pinned (OpenSpec.ofChange Rows.fnExactShelfOkSpec) :=
  OpenClaim.holds_of_wide 3 Tryz.f3 rfl rfl rfl rfl rfl rfl rfl ⟨rfl, rfl, rfl, rfl, rfl⟩ rfl rfl rfl rfl rfl jf_named Tryz.func3 jf_all
    (of_decide_eq_true (by kernel_rfl)) (by unfold Func.isWrapper; first | (rw [if_pos (by decide +kernel)]; kernel_rfl) | (rw [if_neg (by decide +kernel)]; exact ⟨rfl, rfl⟩))
    (fun os started H enc _ => lifted os started H enc)

theorem proved : Rows.FnExactShelfOkCardSaid :=
  Claim7.holds_tied_plain_at .later [] [.data] true (true, "a5988eaa8395434956b19fd9daf867d30a95e1c6b69226f9a7665c1c8befbc08") false over (fun _ h => by cases h) (by kernel_rfl) (fun _ h => by cases h) fnExactShelfOk_row_tie rfl ⟨rfl, rfl⟩ (by kernel_rfl) rfl
    (fun f fn hf hfn => by
      obtain rfl : f = 3 := Option.some.inj ((show Tryz.prog.funcNamed "loop.example/g01538/laws.FnExactShelfOk" = some 3 by kernel_rfl).symm.trans hf) |>.symm
      obtain rfl : fn = Tryz.f3 := (Option.some.inj (Tryz.func3.symm.trans hfn)).symm
      exact ⟨by kernel_rfl, fun j t ht => by
        rw [Tryz.params3] at ht
        have hm : t ∈ [40] := by simpa using Array.mem_of_getElem? ht
        have hall : ([40].all fun u => !Tryz.prog.wantsStandIn u) = true := by kernel_rfl
        exact (show Tryz.prog.wantsStandIn t = false by simpa using List.all_eq_true.1 hall t hm)⟩)
    (by kernel_rfl)
end Go.Proofs.YtnfjpjgmhhmdeaaGreatDoor.fnExactShelfOk
