/- For every two shelves of bounded size the two SameShelf answer alike and leave the shelves as they were, so the law returns true; of larger ones it returns true at once. -/
import Derived.Test.YtjlphbhmjicdhaaRows
import Derived.WalkKit
import Derived.ProofKit
import Derived.OpenShut
import Derived.ShutString
import Derived.ChangeOld
import Derived.Below
import Derived.ChangeArms
import Derived.Test.YtjlphbhmjicdhaaFrame
import Derived.Test.YtjlphbhmjicdhaaZSS6
namespace Go.Proofs.Ytjlphbhmjicdhaa.fnExactSameShelf
open Go.Proofs.Ytjlphbhmjicdhaa Go.Tr
open Go.ChangeShapes Go.WideShapes Go.ChangeAt Go.RowKit
set_option linter.unusedVariables false
set_option linter.unusedSimpArgs false

set_option maxRecDepth 100000 in
set_option maxHeartbeats 4000000 in
theorem law_run (e0x n0x : Nat) (row0x : Nat → Nat → C) (hn0x : n0x ≤ 9223372036854775807) (h0x : ∀ i r d, i < n0x → ([.i] : List Dt)[r]? = some d → DtOk d (row0x i r)) (e0y n0y : Nat) (row0y : Nat → Nat → C) (hn0y : n0y ≤ 9223372036854775807) (h0y : ∀ i r d, i < n0y → ([.i] : List Dt)[r]? = some d → DtOk d (row0y i r)) (e0z n0z : Nat) (row0z : Nat → Nat → C) (hn0z : n0z ≤ 9223372036854775807) (h0z : ∀ i r d, i < n0z → ([.sl [.i]] : List Dt)[r]? = some d → DtOk d (row0z i r)) (e0u n0u : Nat) (row0u : Nat → Nat → C) (hn0u : n0u ≤ 9223372036854775807) (h0u : ∀ i r d, i < n0u → ([.sl [.i]] : List Dt)[r]? = some d → DtOk d (row0u i r)) (a0v : Int) (w0v : -9223372036854775808 ≤ a0v ∧ a0v ≤ 9223372036854775807) (e0r n0r : Nat) (row0r : Nat → Nat → C) (hn0r : n0r ≤ 9223372036854775807) (h0r : ∀ i r d, i < n0r → ([.b, .i, .b, .i] : List Dt)[r]? = some d → DtOk d (row0r i r)) (e0s n0s : Nat) (row0s : Nat → Nat → C) (hn0s : n0s ≤ 9223372036854775807) (h0s : ∀ i r d, i < n0s → ([.sl [.i, .i]] : List Dt)[r]? = some d → DtOk d (row0s i r)) (e0t n0t : Nat) (row0t : Nat → Nat → C) (hn0t : n0t ≤ 9223372036854775807) (h0t : ∀ i r d, i < n0t → ([.i] : List Dt)[r]? = some d → DtOk d (row0t i r)) (e0k n0k : Nat) (row0k : Nat → Nat → C) (hn0k : n0k ≤ 9223372036854775807) (h0k : ∀ i r d, i < n0k → ([.i] : List Dt)[r]? = some d → DtOk d (row0k i r)) (e0l n0l : Nat) (row0l : Nat → Nat → C) (hn0l : n0l ≤ 9223372036854775807) (h0l : ∀ i r d, i < n0l → ([.b, .i, .i, .i, .i, .i, .i, .i, .i, .i, .i, .i, .i, .i, .i, .i, .b, .i, .i, .i, .i] : List Dt)[r]? = some d → DtOk d (row0l i r)) (e0m n0m : Nat) (row0m : Nat → Nat → C) (hn0m : n0m ≤ 9223372036854775807) (h0m : ∀ i r d, i < n0m → ([.sl [.i, .i, .i, .i]] : List Dt)[r]? = some d → DtOk d (row0m i r)) (e0n n0n : Nat) (row0n : Nat → Nat → C) (hn0n : n0n ≤ 9223372036854775807) (h0n : ∀ i r d, i < n0n → ([.i, .i, .i, .i, .i, .i, .i] : List Dt)[r]? = some d → DtOk d (row0n i r)) (a0o : Int) (w0o : -9223372036854775808 ≤ a0o ∧ a0o ≤ 9223372036854775807) (e1x n1x : Nat) (row1x : Nat → Nat → C) (hn1x : n1x ≤ 9223372036854775807) (h1x : ∀ i r d, i < n1x → ([.i] : List Dt)[r]? = some d → DtOk d (row1x i r)) (e1y n1y : Nat) (row1y : Nat → Nat → C) (hn1y : n1y ≤ 9223372036854775807) (h1y : ∀ i r d, i < n1y → ([.i] : List Dt)[r]? = some d → DtOk d (row1y i r)) (e1z n1z : Nat) (row1z : Nat → Nat → C) (hn1z : n1z ≤ 9223372036854775807) (h1z : ∀ i r d, i < n1z → ([.sl [.i]] : List Dt)[r]? = some d → DtOk d (row1z i r)) (e1u n1u : Nat) (row1u : Nat → Nat → C) (hn1u : n1u ≤ 9223372036854775807) (h1u : ∀ i r d, i < n1u → ([.sl [.i]] : List Dt)[r]? = some d → DtOk d (row1u i r)) (a1v : Int) (w1v : -9223372036854775808 ≤ a1v ∧ a1v ≤ 9223372036854775807) (e1r n1r : Nat) (row1r : Nat → Nat → C) (hn1r : n1r ≤ 9223372036854775807) (h1r : ∀ i r d, i < n1r → ([.b, .i, .b, .i] : List Dt)[r]? = some d → DtOk d (row1r i r)) (e1s n1s : Nat) (row1s : Nat → Nat → C) (hn1s : n1s ≤ 9223372036854775807) (h1s : ∀ i r d, i < n1s → ([.sl [.i, .i]] : List Dt)[r]? = some d → DtOk d (row1s i r)) (e1t n1t : Nat) (row1t : Nat → Nat → C) (hn1t : n1t ≤ 9223372036854775807) (h1t : ∀ i r d, i < n1t → ([.i] : List Dt)[r]? = some d → DtOk d (row1t i r)) (e1k n1k : Nat) (row1k : Nat → Nat → C) (hn1k : n1k ≤ 9223372036854775807) (h1k : ∀ i r d, i < n1k → ([.i] : List Dt)[r]? = some d → DtOk d (row1k i r)) (e1l n1l : Nat) (row1l : Nat → Nat → C) (hn1l : n1l ≤ 9223372036854775807) (h1l : ∀ i r d, i < n1l → ([.b, .i, .i, .i, .i, .i, .i, .i, .i, .i, .i, .i, .i, .i, .i, .i, .b, .i, .i, .i, .i] : List Dt)[r]? = some d → DtOk d (row1l i r)) (e1m n1m : Nat) (row1m : Nat → Nat → C) (hn1m : n1m ≤ 9223372036854775807) (h1m : ∀ i r d, i < n1m → ([.sl [.i, .i, .i, .i]] : List Dt)[r]? = some d → DtOk d (row1m i r)) (e1n n1n : Nat) (row1n : Nat → Nat → C) (hn1n : n1n ≤ 9223372036854775807) (h1n : ∀ i r d, i < n1n → ([.i, .i, .i, .i, .i, .i, .i] : List Dt)[r]? = some d → DtOk d (row1n i r)) (a1o : Int) (w1o : -9223372036854775808 ≤ a1o ∧ a1o ≤ 9223372036854775807) :
    Run Try.prog 4 [.agg [.c (.sl .fro e0x 1 n0x row0x), .c (.sl .fro e0y 1 n0y row0y), .c (.sl .fro e0z 1 n0z row0z), .c (.sl .fro e0u 1 n0u row0u), .c (.lit (.int .i64 a0v)), .c (.sl .fro e0r 4 n0r row0r), .c (.sl .fro e0s 1 n0s row0s), .c (.sl .fro e0t 1 n0t row0t), .c (.sl .fro e0k 1 n0k row0k), .c (.sl .fro e0l 21 n0l row0l), .c (.sl .fro e0m 1 n0m row0m), .c (.sl .fro e0n 7 n0n row0n), .c (.lit (.int .i64 a0o))], .agg [.c (.sl .fro e1x 1 n1x row1x), .c (.sl .fro e1y 1 n1y row1y), .c (.sl .fro e1z 1 n1z row1z), .c (.sl .fro e1u 1 n1u row1u), .c (.lit (.int .i64 a1v)), .c (.sl .fro e1r 4 n1r row1r), .c (.sl .fro e1s 1 n1s row1s), .c (.sl .fro e1t 1 n1t row1t), .c (.sl .fro e1k 1 n1k row1k), .c (.sl .fro e1l 21 n1l row1l), .c (.sl .fro e1m 1 n1m row1m), .c (.sl .fro e1n 7 n1n row1n), .c (.lit (.int .i64 a1o))]] [] fun outs ext => outs = [.one (.lit (.bool true))] ∧ ext = [] := by
  obtain ⟨b, lb, pb, sb⟩ := ints_of (e := e0x) hn0x h0x
  obtain ⟨c, lc, pc, sc⟩ := ints_of (e := e0y) hn0y h0y
  obtain ⟨g, lg, pg, sg⟩ := lists_of (e := e0z) (e' := 0) hn0z h0z
  obtain ⟨o, lo, po, so⟩ := lists_of (e := e0u) (e' := 0) hn0u h0u
  obtain ⟨t, lt, pt, st⟩ := Pins_of (e := e0r) (e' := 0) hn0r h0r
  obtain ⟨l, ll, pl, sl⟩ := llists_of (e := e0s) (e' := 0) (e2 := 0) hn0s h0s
  obtain ⟨z, lz, pz, sz⟩ := ints_of (e := e0t) hn0t h0t
  obtain ⟨k, lk, pk, sk⟩ := ints_of (e := e0k) hn0k h0k
  obtain ⟨j, lj, pj, sj⟩ := Jobs_of (e := e0l) (e' := 0) hn0l h0l
  obtain ⟨w, lw, pw, sw⟩ := queues_of (e := e0m) (e' := 0) (e2 := 0) hn0m h0m
  obtain ⟨v, lv, pv, sv⟩ := Evs_of (e := e0n) (e' := 0) hn0n h0n
  obtain ⟨bq, lbq, pbq, sbq⟩ := ints_of (e := e1x) hn1x h1x
  obtain ⟨cq, lcq, pcq, scq⟩ := ints_of (e := e1y) hn1y h1y
  obtain ⟨gq, lgq, pgq, sgq⟩ := lists_of (e := e1z) (e' := 0) hn1z h1z
  obtain ⟨oq, loq, poq, soq⟩ := lists_of (e := e1u) (e' := 0) hn1u h1u
  obtain ⟨tq, ltq, ptq, stq⟩ := Pins_of (e := e1r) (e' := 0) hn1r h1r
  obtain ⟨lq, llq, plq, slq⟩ := llists_of (e := e1s) (e' := 0) (e2 := 0) hn1s h1s
  obtain ⟨zq, lzq, pzq, szq⟩ := ints_of (e := e1t) hn1t h1t
  obtain ⟨kq, lkq, pkq, skq⟩ := ints_of (e := e1k) hn1k h1k
  obtain ⟨jq, ljq, pjq, sjq⟩ := Jobs_of (e := e1l) (e' := 0) hn1l h1l
  obtain ⟨wq, lwq, pwq, swq⟩ := queues_of (e := e1m) (e' := 0) (e2 := 0) hn1m h1m
  obtain ⟨vq, lvq, pvq, svq⟩ := Evs_of (e := e1n) (e' := 0) hn1n h1n
  have h := SameShelf_law b c g o a0v t l z k j w v a0o bq cq gq oq a1v tq lq zq kq jq wq vq a1o ⟨⟨⟨by omega, by omega, by omega, by omega, getD_le fun x hx => (pg x hx).1, getD_le fun x hx => (po x hx).1⟩, by omega, by omega, getD_leR fun x hx => (pl x hx).1, by omega⟩, by omega, by omega, by omega, getD_leR fun x hx => pw x hx, by omega⟩ ⟨⟨⟨by omega, by omega, by omega, by omega, getD_le fun x hx => (pgq x hx).1, getD_le fun x hx => (poq x hx).1⟩, by omega, by omega, getD_leR fun x hx => (plq x hx).1, by omega⟩, by omega, by omega, by omega, getD_leR fun x hx => pwq x hx, by omega⟩
  exact Run.args (by exact ⟨⟨sb, sc, sg, so, rfl, st, sl, sz, sk, sj, sw, sv, rfl, trivial⟩, ⟨sbq, scq, sgq, soq, rfl, stq, slq, szq, skq, sjq, swq, svq, rfl, trivial⟩, trivial⟩) h.run

set_option maxRecDepth 100000 in
theorem dsOk0 : TyDs Try.prog 65 [.sl [.i], .sl [.i], .sl [.sl [.i]], .sl [.sl [.i]], .i, .sl [.b, .i, .b, .i], .sl [.sl [.i, .i]], .sl [.i], .sl [.i], .sl [.b, .i, .i, .i, .i, .i, .i, .i, .i, .i, .i, .i, .i, .i, .i, .i, .b, .i, .i, .i, .i], .sl [.sl [.i, .i, .i, .i]], .sl [.i, .i, .i, .i, .i, .i, .i], .i] := (TyDs.struct Try.underlying65 (FsDs.cons (TyDs.struct Try.underlying61 (FsDs.cons (TyDs.struct Try.underlying55 (FsDs.cons (TyDs.struct Try.underlying50 (FsDs.cons (TyDs.slice Try.underlying24 (TyDs.int Try.underlying3) (by kernel_rfl) (by decide)) rfl (by kernel_rfl) (FsDs.cons (TyDs.slice Try.underlying24 (TyDs.int Try.underlying3) (by kernel_rfl) (by decide)) rfl (by kernel_rfl) FsDs.nil)) (by kernel_rfl)) rfl (by kernel_rfl) (FsDs.cons (TyDs.struct Try.underlying53 (FsDs.cons (TyDs.slice Try.underlying51 (TyDs.struct Try.underlying307 (FsDs.cons (TyDs.slice Try.underlying24 (TyDs.int Try.underlying3) (by kernel_rfl) (by decide)) rfl (by kernel_rfl) FsDs.nil) (by kernel_rfl)) (by kernel_rfl) (by decide)) rfl (by kernel_rfl) (FsDs.cons (TyDs.slice Try.underlying51 (TyDs.struct Try.underlying307 (FsDs.cons (TyDs.slice Try.underlying24 (TyDs.int Try.underlying3) (by kernel_rfl) (by decide)) rfl (by kernel_rfl) FsDs.nil) (by kernel_rfl)) (by kernel_rfl) (by decide)) rfl (by kernel_rfl) FsDs.nil)) (by kernel_rfl)) rfl (by kernel_rfl) FsDs.nil)) (by kernel_rfl)) rfl (by kernel_rfl) (FsDs.cons (TyDs.struct Try.underlying58 (FsDs.cons (TyDs.int Try.underlying3) rfl (by kernel_rfl) (FsDs.cons (TyDs.slice Try.underlying56 (TyDs.struct Try.underlying276 (FsDs.cons (TyDs.bool Try.underlying4) rfl (by kernel_rfl) (FsDs.cons (TyDs.int Try.underlying3) rfl (by kernel_rfl) (FsDs.cons (TyDs.bool Try.underlying4) rfl (by kernel_rfl) (FsDs.cons (TyDs.int Try.underlying3) rfl (by kernel_rfl) FsDs.nil)))) (by kernel_rfl)) (by kernel_rfl) (by decide)) rfl (by kernel_rfl) FsDs.nil)) (by kernel_rfl)) rfl (by kernel_rfl) (FsDs.cons (TyDs.slice Try.underlying59 (TyDs.struct Try.underlying238 (FsDs.cons (TyDs.slice Try.underlying236 (TyDs.struct Try.underlying310 (FsDs.cons (TyDs.int Try.underlying3) rfl (by kernel_rfl) (FsDs.cons (TyDs.int Try.underlying3) rfl (by kernel_rfl) FsDs.nil)) (by kernel_rfl)) (by kernel_rfl) (by decide)) rfl (by kernel_rfl) FsDs.nil) (by kernel_rfl)) (by kernel_rfl) (by decide)) rfl (by kernel_rfl) (FsDs.cons (TyDs.slice Try.underlying24 (TyDs.int Try.underlying3) (by kernel_rfl) (by decide)) rfl (by kernel_rfl) FsDs.nil)))) (by kernel_rfl)) rfl (by kernel_rfl) (FsDs.cons (TyDs.slice Try.underlying24 (TyDs.int Try.underlying3) (by kernel_rfl) (by decide)) rfl (by kernel_rfl) (FsDs.cons (TyDs.slice Try.underlying62 (TyDs.struct Try.underlying182 (FsDs.cons (TyDs.bool Try.underlying4) rfl (by kernel_rfl) (FsDs.cons (TyDs.struct Try.underlying179 (FsDs.cons (TyDs.int Try.underlying3) rfl (by kernel_rfl) (FsDs.cons (TyDs.int Try.underlying3) rfl (by kernel_rfl) (FsDs.cons (TyDs.int Try.underlying3) rfl (by kernel_rfl) (FsDs.cons (TyDs.int Try.underlying3) rfl (by kernel_rfl) FsDs.nil)))) (by kernel_rfl)) rfl (by kernel_rfl) (FsDs.cons (TyDs.int Try.underlying3) rfl (by kernel_rfl) (FsDs.cons (TyDs.int Try.underlying3) rfl (by kernel_rfl) (FsDs.cons (TyDs.struct Try.underlying180 (FsDs.cons (TyDs.int Try.underlying3) rfl (by kernel_rfl) (FsDs.cons (TyDs.int Try.underlying3) rfl (by kernel_rfl) (FsDs.cons (TyDs.int Try.underlying3) rfl (by kernel_rfl) (FsDs.cons (TyDs.int Try.underlying3) rfl (by kernel_rfl) (FsDs.cons (TyDs.int Try.underlying3) rfl (by kernel_rfl) (FsDs.cons (TyDs.int Try.underlying3) rfl (by kernel_rfl) (FsDs.cons (TyDs.int Try.underlying3) rfl (by kernel_rfl) (FsDs.cons (TyDs.int Try.underlying3) rfl (by kernel_rfl) (FsDs.cons (TyDs.int Try.underlying3) rfl (by kernel_rfl) (FsDs.cons (TyDs.bool Try.underlying4) rfl (by kernel_rfl) FsDs.nil)))))))))) (by kernel_rfl)) rfl (by kernel_rfl) (FsDs.cons (TyDs.int Try.underlying3) rfl (by kernel_rfl) (FsDs.cons (TyDs.int Try.underlying3) rfl (by kernel_rfl) (FsDs.cons (TyDs.int Try.underlying3) rfl (by kernel_rfl) (FsDs.cons (TyDs.int Try.underlying3) rfl (by kernel_rfl) FsDs.nil))))))))) (by kernel_rfl)) (by kernel_rfl) (by decide)) rfl (by kernel_rfl) (FsDs.cons (TyDs.slice Try.underlying22 (TyDs.struct Try.underlying96 (FsDs.cons (TyDs.slice Try.underlying94 (TyDs.struct Try.underlying179 (FsDs.cons (TyDs.int Try.underlying3) rfl (by kernel_rfl) (FsDs.cons (TyDs.int Try.underlying3) rfl (by kernel_rfl) (FsDs.cons (TyDs.int Try.underlying3) rfl (by kernel_rfl) (FsDs.cons (TyDs.int Try.underlying3) rfl (by kernel_rfl) FsDs.nil)))) (by kernel_rfl)) (by kernel_rfl) (by decide)) rfl (by kernel_rfl) FsDs.nil) (by kernel_rfl)) (by kernel_rfl) (by decide)) rfl (by kernel_rfl) (FsDs.cons (TyDs.slice Try.underlying63 (TyDs.struct Try.underlying184 (FsDs.cons (TyDs.int Try.underlying3) rfl (by kernel_rfl) (FsDs.cons (TyDs.int Try.underlying3) rfl (by kernel_rfl) (FsDs.cons (TyDs.int Try.underlying3) rfl (by kernel_rfl) (FsDs.cons (TyDs.int Try.underlying3) rfl (by kernel_rfl) (FsDs.cons (TyDs.int Try.underlying3) rfl (by kernel_rfl) (FsDs.cons (TyDs.int Try.underlying3) rfl (by kernel_rfl) (FsDs.cons (TyDs.int Try.underlying3) rfl (by kernel_rfl) FsDs.nil))))))) (by kernel_rfl)) (by kernel_rfl) (by decide)) rfl (by kernel_rfl) (FsDs.cons (TyDs.int Try.underlying3) rfl (by kernel_rfl) FsDs.nil)))))) (by kernel_rfl))
set_option maxRecDepth 100000 in
theorem dsOk1 : TyDs Try.prog 65 [.sl [.i], .sl [.i], .sl [.sl [.i]], .sl [.sl [.i]], .i, .sl [.b, .i, .b, .i], .sl [.sl [.i, .i]], .sl [.i], .sl [.i], .sl [.b, .i, .i, .i, .i, .i, .i, .i, .i, .i, .i, .i, .i, .i, .i, .i, .b, .i, .i, .i, .i], .sl [.sl [.i, .i, .i, .i]], .sl [.i, .i, .i, .i, .i, .i, .i], .i] := (TyDs.struct Try.underlying65 (FsDs.cons (TyDs.struct Try.underlying61 (FsDs.cons (TyDs.struct Try.underlying55 (FsDs.cons (TyDs.struct Try.underlying50 (FsDs.cons (TyDs.slice Try.underlying24 (TyDs.int Try.underlying3) (by kernel_rfl) (by decide)) rfl (by kernel_rfl) (FsDs.cons (TyDs.slice Try.underlying24 (TyDs.int Try.underlying3) (by kernel_rfl) (by decide)) rfl (by kernel_rfl) FsDs.nil)) (by kernel_rfl)) rfl (by kernel_rfl) (FsDs.cons (TyDs.struct Try.underlying53 (FsDs.cons (TyDs.slice Try.underlying51 (TyDs.struct Try.underlying307 (FsDs.cons (TyDs.slice Try.underlying24 (TyDs.int Try.underlying3) (by kernel_rfl) (by decide)) rfl (by kernel_rfl) FsDs.nil) (by kernel_rfl)) (by kernel_rfl) (by decide)) rfl (by kernel_rfl) (FsDs.cons (TyDs.slice Try.underlying51 (TyDs.struct Try.underlying307 (FsDs.cons (TyDs.slice Try.underlying24 (TyDs.int Try.underlying3) (by kernel_rfl) (by decide)) rfl (by kernel_rfl) FsDs.nil) (by kernel_rfl)) (by kernel_rfl) (by decide)) rfl (by kernel_rfl) FsDs.nil)) (by kernel_rfl)) rfl (by kernel_rfl) FsDs.nil)) (by kernel_rfl)) rfl (by kernel_rfl) (FsDs.cons (TyDs.struct Try.underlying58 (FsDs.cons (TyDs.int Try.underlying3) rfl (by kernel_rfl) (FsDs.cons (TyDs.slice Try.underlying56 (TyDs.struct Try.underlying276 (FsDs.cons (TyDs.bool Try.underlying4) rfl (by kernel_rfl) (FsDs.cons (TyDs.int Try.underlying3) rfl (by kernel_rfl) (FsDs.cons (TyDs.bool Try.underlying4) rfl (by kernel_rfl) (FsDs.cons (TyDs.int Try.underlying3) rfl (by kernel_rfl) FsDs.nil)))) (by kernel_rfl)) (by kernel_rfl) (by decide)) rfl (by kernel_rfl) FsDs.nil)) (by kernel_rfl)) rfl (by kernel_rfl) (FsDs.cons (TyDs.slice Try.underlying59 (TyDs.struct Try.underlying238 (FsDs.cons (TyDs.slice Try.underlying236 (TyDs.struct Try.underlying310 (FsDs.cons (TyDs.int Try.underlying3) rfl (by kernel_rfl) (FsDs.cons (TyDs.int Try.underlying3) rfl (by kernel_rfl) FsDs.nil)) (by kernel_rfl)) (by kernel_rfl) (by decide)) rfl (by kernel_rfl) FsDs.nil) (by kernel_rfl)) (by kernel_rfl) (by decide)) rfl (by kernel_rfl) (FsDs.cons (TyDs.slice Try.underlying24 (TyDs.int Try.underlying3) (by kernel_rfl) (by decide)) rfl (by kernel_rfl) FsDs.nil)))) (by kernel_rfl)) rfl (by kernel_rfl) (FsDs.cons (TyDs.slice Try.underlying24 (TyDs.int Try.underlying3) (by kernel_rfl) (by decide)) rfl (by kernel_rfl) (FsDs.cons (TyDs.slice Try.underlying62 (TyDs.struct Try.underlying182 (FsDs.cons (TyDs.bool Try.underlying4) rfl (by kernel_rfl) (FsDs.cons (TyDs.struct Try.underlying179 (FsDs.cons (TyDs.int Try.underlying3) rfl (by kernel_rfl) (FsDs.cons (TyDs.int Try.underlying3) rfl (by kernel_rfl) (FsDs.cons (TyDs.int Try.underlying3) rfl (by kernel_rfl) (FsDs.cons (TyDs.int Try.underlying3) rfl (by kernel_rfl) FsDs.nil)))) (by kernel_rfl)) rfl (by kernel_rfl) (FsDs.cons (TyDs.int Try.underlying3) rfl (by kernel_rfl) (FsDs.cons (TyDs.int Try.underlying3) rfl (by kernel_rfl) (FsDs.cons (TyDs.struct Try.underlying180 (FsDs.cons (TyDs.int Try.underlying3) rfl (by kernel_rfl) (FsDs.cons (TyDs.int Try.underlying3) rfl (by kernel_rfl) (FsDs.cons (TyDs.int Try.underlying3) rfl (by kernel_rfl) (FsDs.cons (TyDs.int Try.underlying3) rfl (by kernel_rfl) (FsDs.cons (TyDs.int Try.underlying3) rfl (by kernel_rfl) (FsDs.cons (TyDs.int Try.underlying3) rfl (by kernel_rfl) (FsDs.cons (TyDs.int Try.underlying3) rfl (by kernel_rfl) (FsDs.cons (TyDs.int Try.underlying3) rfl (by kernel_rfl) (FsDs.cons (TyDs.int Try.underlying3) rfl (by kernel_rfl) (FsDs.cons (TyDs.bool Try.underlying4) rfl (by kernel_rfl) FsDs.nil)))))))))) (by kernel_rfl)) rfl (by kernel_rfl) (FsDs.cons (TyDs.int Try.underlying3) rfl (by kernel_rfl) (FsDs.cons (TyDs.int Try.underlying3) rfl (by kernel_rfl) (FsDs.cons (TyDs.int Try.underlying3) rfl (by kernel_rfl) (FsDs.cons (TyDs.int Try.underlying3) rfl (by kernel_rfl) FsDs.nil))))))))) (by kernel_rfl)) (by kernel_rfl) (by decide)) rfl (by kernel_rfl) (FsDs.cons (TyDs.slice Try.underlying22 (TyDs.struct Try.underlying96 (FsDs.cons (TyDs.slice Try.underlying94 (TyDs.struct Try.underlying179 (FsDs.cons (TyDs.int Try.underlying3) rfl (by kernel_rfl) (FsDs.cons (TyDs.int Try.underlying3) rfl (by kernel_rfl) (FsDs.cons (TyDs.int Try.underlying3) rfl (by kernel_rfl) (FsDs.cons (TyDs.int Try.underlying3) rfl (by kernel_rfl) FsDs.nil)))) (by kernel_rfl)) (by kernel_rfl) (by decide)) rfl (by kernel_rfl) FsDs.nil) (by kernel_rfl)) (by kernel_rfl) (by decide)) rfl (by kernel_rfl) (FsDs.cons (TyDs.slice Try.underlying63 (TyDs.struct Try.underlying184 (FsDs.cons (TyDs.int Try.underlying3) rfl (by kernel_rfl) (FsDs.cons (TyDs.int Try.underlying3) rfl (by kernel_rfl) (FsDs.cons (TyDs.int Try.underlying3) rfl (by kernel_rfl) (FsDs.cons (TyDs.int Try.underlying3) rfl (by kernel_rfl) (FsDs.cons (TyDs.int Try.underlying3) rfl (by kernel_rfl) (FsDs.cons (TyDs.int Try.underlying3) rfl (by kernel_rfl) (FsDs.cons (TyDs.int Try.underlying3) rfl (by kernel_rfl) FsDs.nil))))))) (by kernel_rfl)) (by kernel_rfl) (by decide)) rfl (by kernel_rfl) (FsDs.cons (TyDs.int Try.underlying3) rfl (by kernel_rfl) FsDs.nil)))))) (by kernel_rfl))
set_option maxRecDepth 100000 in
theorem lifted (os : Os) (started : os.Started) (H : Type) (enc : TypeId × Value → H) :
    ReturnsInHanded {} Try.checked os 4 .any (Rows.fnExactSameShelfSpec.pre6 enc Try.prog Try.f4 Rows.fnExactSameShelfRow.domain false) (Rows.fnExactSameShelfSpec.post enc Try.prog Try.f4 false true false false) := by
  refine returnsInHanded_of_change (C := Try.checked) own started (by kernel_rfl) Try.func4
    (ChangeSpec.witness6 (enc := enc) (C := Try.checked) false ⟨#[], #[.agg #[.slice none 0 0, .slice none 0 0, .slice none 0 0, .slice none 0 0, .int .i64 0, .slice none 0 0, .slice none 0 0, .slice none 0 0, .slice none 0 0, .slice none 0 0, .slice none 0 0, .slice none 0 0, .int .i64 0], .agg #[.slice none 0 0, .slice none 0 0, .slice none 0 0, .slice none 0 0, .int .i64 0, .slice none 0 0, .slice none 0 0, .slice none 0 0, .slice none 0 0, .slice none 0 0, .slice none 0 0, .slice none 0 0, .int .i64 0]], []⟩ 8 (by kernel_rfl) (by kernel_rfl) (by kernel_rfl) (by kernel_rfl)) ?_
  intro W base args ds gs before hval0 hW hcnd _
  have hval : ∀ (j : Nat) t v, Try.f4.params[j]? = some t → args[j]? = some v → Value.okWide Try.prog W .any base t v := hval0
  have hW' := hW
  obtain ⟨p, q, hA0, hV, rfl, hfz, hnd⟩ := hW
  have hA : DataW.TrodAll enc Try.prog W 0 (fun _ => true) true Try.f4.params.toList args.toList ds p := hA0
  rw [Try.params4] at hA hval
  obtain ⟨v0, vs0, d0, ds0, p0, q0, hargs, rfl, rfl, h0, r0⟩ := trodAll_cons hA
  obtain ⟨v1, vs1, d1, ds1, p1, q1, rfl, rfl, rfl, h1, r1⟩ := trodAll_cons r0
  obtain ⟨rfl, rfl, rfl⟩ := trodAll_nil r1
  obtain rfl : args = #[v0, v1] := by cases args; simp_all
  obtain ⟨rfl, rfl⟩ := trodVars_none hV
  have k0 := h0
  have lt0 : ∀ x ∈ p0, x.block < W.heap.size := by obtain ⟨m, hm⟩ := k0; exact DataW.trod_lt m _ _ _ hm
  have tr0 := arg_tree h0 dsOk0
  obtain ⟨cs0, rfl, sz0⟩ := okWide_struct Try.underlying65 (hval 0 65 v0 rfl rfl)
  obtain ⟨u0x, c0x, ce0x, ok0x, cr0x⟩ := tr0 0 _ rfl
  obtain ⟨e0x, n0x, row0x, rfl, hn0x, h0x⟩ := ok0x.slice
  obtain ⟨u0y, c0y, ce0y, ok0y, cr0y⟩ := tr0 1 _ rfl
  obtain ⟨e0y, n0y, row0y, rfl, hn0y, h0y⟩ := ok0y.slice
  obtain ⟨u0z, c0z, ce0z, ok0z, cr0z⟩ := tr0 2 _ rfl
  obtain ⟨e0z, n0z, row0z, rfl, hn0z, h0z⟩ := ok0z.slice
  obtain ⟨u0u, c0u, ce0u, ok0u, cr0u⟩ := tr0 3 _ rfl
  obtain ⟨e0u, n0u, row0u, rfl, hn0u, h0u⟩ := ok0u.slice
  obtain ⟨u0v, c0v, ce0v, ok0v, cr0v⟩ := tr0 4 _ rfl
  obtain ⟨a0v, rfl, w0v⟩ := ok0v.int
  obtain ⟨u0r, c0r, ce0r, ok0r, cr0r⟩ := tr0 5 _ rfl
  obtain ⟨e0r, n0r, row0r, rfl, hn0r, h0r⟩ := ok0r.slice
  obtain ⟨u0s, c0s, ce0s, ok0s, cr0s⟩ := tr0 6 _ rfl
  obtain ⟨e0s, n0s, row0s, rfl, hn0s, h0s⟩ := ok0s.slice
  obtain ⟨u0t, c0t, ce0t, ok0t, cr0t⟩ := tr0 7 _ rfl
  obtain ⟨e0t, n0t, row0t, rfl, hn0t, h0t⟩ := ok0t.slice
  obtain ⟨u0k, c0k, ce0k, ok0k, cr0k⟩ := tr0 8 _ rfl
  obtain ⟨e0k, n0k, row0k, rfl, hn0k, h0k⟩ := ok0k.slice
  obtain ⟨u0l, c0l, ce0l, ok0l, cr0l⟩ := tr0 9 _ rfl
  obtain ⟨e0l, n0l, row0l, rfl, hn0l, h0l⟩ := ok0l.slice
  obtain ⟨u0m, c0m, ce0m, ok0m, cr0m⟩ := tr0 10 _ rfl
  obtain ⟨e0m, n0m, row0m, rfl, hn0m, h0m⟩ := ok0m.slice
  obtain ⟨u0n, c0n, ce0n, ok0n, cr0n⟩ := tr0 11 _ rfl
  obtain ⟨e0n, n0n, row0n, rfl, hn0n, h0n⟩ := ok0n.slice
  obtain ⟨u0o, c0o, ce0o, ok0o, cr0o⟩ := tr0 12 _ rfl
  obtain ⟨a0o, rfl, w0o⟩ := ok0o.int
  have k1 := h1
  have lt1 : ∀ x ∈ p1, x.block < W.heap.size := by obtain ⟨m, hm⟩ := k1; exact DataW.trod_lt m _ _ _ hm
  have tr1 := arg_tree h1 dsOk1
  obtain ⟨cs1, rfl, sz1⟩ := okWide_struct Try.underlying65 (hval 1 65 v1 rfl rfl)
  obtain ⟨u1x, c1x, ce1x, ok1x, cr1x⟩ := tr1 0 _ rfl
  obtain ⟨e1x, n1x, row1x, rfl, hn1x, h1x⟩ := ok1x.slice
  obtain ⟨u1y, c1y, ce1y, ok1y, cr1y⟩ := tr1 1 _ rfl
  obtain ⟨e1y, n1y, row1y, rfl, hn1y, h1y⟩ := ok1y.slice
  obtain ⟨u1z, c1z, ce1z, ok1z, cr1z⟩ := tr1 2 _ rfl
  obtain ⟨e1z, n1z, row1z, rfl, hn1z, h1z⟩ := ok1z.slice
  obtain ⟨u1u, c1u, ce1u, ok1u, cr1u⟩ := tr1 3 _ rfl
  obtain ⟨e1u, n1u, row1u, rfl, hn1u, h1u⟩ := ok1u.slice
  obtain ⟨u1v, c1v, ce1v, ok1v, cr1v⟩ := tr1 4 _ rfl
  obtain ⟨a1v, rfl, w1v⟩ := ok1v.int
  obtain ⟨u1r, c1r, ce1r, ok1r, cr1r⟩ := tr1 5 _ rfl
  obtain ⟨e1r, n1r, row1r, rfl, hn1r, h1r⟩ := ok1r.slice
  obtain ⟨u1s, c1s, ce1s, ok1s, cr1s⟩ := tr1 6 _ rfl
  obtain ⟨e1s, n1s, row1s, rfl, hn1s, h1s⟩ := ok1s.slice
  obtain ⟨u1t, c1t, ce1t, ok1t, cr1t⟩ := tr1 7 _ rfl
  obtain ⟨e1t, n1t, row1t, rfl, hn1t, h1t⟩ := ok1t.slice
  obtain ⟨u1k, c1k, ce1k, ok1k, cr1k⟩ := tr1 8 _ rfl
  obtain ⟨e1k, n1k, row1k, rfl, hn1k, h1k⟩ := ok1k.slice
  obtain ⟨u1l, c1l, ce1l, ok1l, cr1l⟩ := tr1 9 _ rfl
  obtain ⟨e1l, n1l, row1l, rfl, hn1l, h1l⟩ := ok1l.slice
  obtain ⟨u1m, c1m, ce1m, ok1m, cr1m⟩ := tr1 10 _ rfl
  obtain ⟨e1m, n1m, row1m, rfl, hn1m, h1m⟩ := ok1m.slice
  obtain ⟨u1n, c1n, ce1n, ok1n, cr1n⟩ := tr1 11 _ rfl
  obtain ⟨e1n, n1n, row1n, rfl, hn1n, h1n⟩ := ok1n.slice
  obtain ⟨u1o, c1o, ce1o, ok1o, cr1o⟩ := tr1 12 _ rfl
  obtain ⟨a1o, rfl, w1o⟩ := ok1o.int
  clear hA0 hval0
  have hw := Run.law (W := W) (cargs := #[.agg cs0, .agg cs1]) (law_run e0x n0x row0x hn0x h0x e0y n0y row0y hn0y h0y e0z n0z row0z hn0z h0z e0u n0u row0u hn0u h0u a0v w0v e0r n0r row0r hn0r h0r e0s n0s row0s hn0s h0s e0t n0t row0t hn0t h0t e0k n0k row0k hn0k h0k e0l n0l row0l hn0l h0l e0m n0m row0m hn0m h0m e0n n0n row0n hn0n h0n a0o w0o e1x n1x row1x hn1x h1x e1y n1y row1y hn1y h1y e1z n1z row1z hn1z h1z e1u n1u row1u hn1u h1u a1v w1v e1r n1r row1r hn1r h1r e1s n1s row1s hn1s h1s e1t n1t row1t hn1t h1t e1k n1k row1k hn1k h1k e1l n1l row1l hn1l h1l e1m n1m row1m hn1m h1m e1n n1n row1n hn1n h1n a1o w1o) rfl (fun i x hx => by
    rcases i with _ | _ | i
    · injection hx with hx; subst hx; exact ⟨_, rfl, ag_agg (W := W) (l := [.sl .fro e0x 1 n0x row0x, .sl .fro e0y 1 n0y row0y, .sl .fro e0z 1 n0z row0z, .sl .fro e0u 1 n0u row0u, .lit (.int .i64 a0v), .sl .fro e0r 4 n0r row0r, .sl .fro e0s 1 n0s row0s, .sl .fro e0t 1 n0t row0t, .sl .fro e0k 1 n0k row0k, .sl .fro e0l 21 n0l row0l, .sl .fro e0m 1 n0m row0m, .sl .fro e0n 7 n0n row0n, .lit (.int .i64 a0o)]) (by rw [sz0]; kernel_rfl) (fun j c hj => by
      rcases j with _ | _ | _ | _ | _ | _ | _ | _ | _ | _ | _ | _ | _ | j
      · injection hj with hj; subst hj; exact ⟨_, ce0x, cr0x⟩
      · injection hj with hj; subst hj; exact ⟨_, ce0y, cr0y⟩
      · injection hj with hj; subst hj; exact ⟨_, ce0z, cr0z⟩
      · injection hj with hj; subst hj; exact ⟨_, ce0u, cr0u⟩
      · injection hj with hj; subst hj; exact ⟨_, ce0v, cr0v⟩
      · injection hj with hj; subst hj; exact ⟨_, ce0r, cr0r⟩
      · injection hj with hj; subst hj; exact ⟨_, ce0s, cr0s⟩
      · injection hj with hj; subst hj; exact ⟨_, ce0t, cr0t⟩
      · injection hj with hj; subst hj; exact ⟨_, ce0k, cr0k⟩
      · injection hj with hj; subst hj; exact ⟨_, ce0l, cr0l⟩
      · injection hj with hj; subst hj; exact ⟨_, ce0m, cr0m⟩
      · injection hj with hj; subst hj; exact ⟨_, ce0n, cr0n⟩
      · injection hj with hj; subst hj; exact ⟨_, ce0o, cr0o⟩
      · simp at hj)⟩
    · injection hx with hx; subst hx; exact ⟨_, rfl, ag_agg (W := W) (l := [.sl .fro e1x 1 n1x row1x, .sl .fro e1y 1 n1y row1y, .sl .fro e1z 1 n1z row1z, .sl .fro e1u 1 n1u row1u, .lit (.int .i64 a1v), .sl .fro e1r 4 n1r row1r, .sl .fro e1s 1 n1s row1s, .sl .fro e1t 1 n1t row1t, .sl .fro e1k 1 n1k row1k, .sl .fro e1l 21 n1l row1l, .sl .fro e1m 1 n1m row1m, .sl .fro e1n 7 n1n row1n, .lit (.int .i64 a1o)]) (by rw [sz1]; kernel_rfl) (fun j c hj => by
      rcases j with _ | _ | _ | _ | _ | _ | _ | _ | _ | _ | _ | _ | _ | j
      · injection hj with hj; subst hj; exact ⟨_, ce1x, cr1x⟩
      · injection hj with hj; subst hj; exact ⟨_, ce1y, cr1y⟩
      · injection hj with hj; subst hj; exact ⟨_, ce1z, cr1z⟩
      · injection hj with hj; subst hj; exact ⟨_, ce1u, cr1u⟩
      · injection hj with hj; subst hj; exact ⟨_, ce1v, cr1v⟩
      · injection hj with hj; subst hj; exact ⟨_, ce1r, cr1r⟩
      · injection hj with hj; subst hj; exact ⟨_, ce1s, cr1s⟩
      · injection hj with hj; subst hj; exact ⟨_, ce1t, cr1t⟩
      · injection hj with hj; subst hj; exact ⟨_, ce1k, cr1k⟩
      · injection hj with hj; subst hj; exact ⟨_, ce1l, cr1l⟩
      · injection hj with hj; subst hj; exact ⟨_, ce1m, cr1m⟩
      · injection hj with hj; subst hj; exact ⟨_, ce1n, cr1n⟩
      · injection hj with hj; subst hj; exact ⟨_, ce1o, cr1o⟩
      · simp at hj)⟩
    · simp at hx)
  refine hw.mono fun e W' ⟨he, bel⟩ => ?_
  subst he
  exact ⟨_, rfl, _, _, _, [], _, [], hW', trodAll_mk1 (shut_bool Try.underlying4 _), (trodAll_cons_mk (Below.trod laidOut (by kernel_rfl) (of_decide_eq_true (by kernel_rfl)) k0 bel lt0) (trodAll_cons_mk (Below.trod laidOut (by kernel_rfl) (of_decide_eq_true (by kernel_rfl)) k1 bel lt1) trodAll_mk0)), rfl, bel.frame _, fun h => by cases h⟩

theorem jf_wf : Rows.fnExactSameShelfRow.wf (OpenSpec.ofChange Rows.fnExactSameShelfSpec) = true := by kernel_rfl
theorem jf_lo : laidOutB Try.prog = true := by kernel_rfl
theorem jf_mr : mapsRowed Try.prog = true := by kernel_rfl
theorem jf_ip : (Rows.fnExactSameShelfRow.inPlace == Try.prog.inPlace 4) = true := by kernel_rfl
theorem jf_uf : (Rows.fnExactSameShelfRow.unfollowed == Try.prog.unfollowed 4) = true := by kernel_rfl
theorem jf_rc : (Rows.fnExactSameShelfRow.recurses == Try.prog.recurses 4) = true := by kernel_rfl
theorem jf_vn : (Rows.fnExactSameShelfRow.named == Try.prog.varsNamed 4) = true := by kernel_rfl
theorem jf_pk : (Rows.fnExactSameShelfRow.plainKeys == Try.prog.plainKeys) = true := by kernel_rfl
theorem jf_named : Try.prog.funcNamed "loop.example/g01538/laws.FnExactSameShelf" = some 4 := by kernel_rfl
theorem jf_all : joinedFacts Try.prog 4 Try.f4 Rows.fnExactSameShelfSpec Rows.fnExactSameShelfRow = true := by
  unfold joinedFacts
  simp only [Bool.and_eq_true]
  repeat' apply And.intro
  all_goals first | with_reducible exact jf_wf | with_reducible exact jf_lo | with_reducible exact jf_mr | with_reducible exact jf_ip | with_reducible exact jf_uf | with_reducible exact jf_rc | with_reducible exact jf_vn | with_reducible exact jf_pk | kernel_rfl

theorem over : Rows.fnExactSameShelfRow.holds Try.pinned (OpenSpec.ofChange Rows.fnExactSameShelfSpec) :=
  OpenClaim.holds_of_wide 4 Try.f4 rfl rfl rfl rfl rfl rfl rfl ⟨rfl, rfl, rfl, rfl, rfl⟩ rfl rfl rfl rfl rfl jf_named Try.func4 jf_all
    (of_decide_eq_true (by kernel_rfl)) (by unfold Func.isWrapper; first | (rw [if_pos (by decide +kernel)]; kernel_rfl) | (rw [if_neg (by decide +kernel)]; exact ⟨rfl, rfl⟩))
    (fun os started H enc _ => lifted os started H enc)

theorem proved : Rows.FnExactSameShelfSaid := over
end Go.Proofs.Ytjlphbhmjicdhaa.fnExactSameShelf
