/- The types of the program that the proofs speak of. -/
import Derived.Test.YtpmhkpmkmbkjbaaGreatDoorProg
import Derived.Test.YtpmhkpmkmbkjbaaGreatDoorTrc
import Derived.KernelRfl
namespace Go.Proofs.YtpmhkpmkmbkjbaaGreatDoor
open Go Go.Tr
set_option linter.unusedVariables false
set_option linter.unusedSimpArgs false
set_option maxRecDepth 100000
def tyT : Nat → Option TyI
  | 2 => some ⟨1, .sc, [.lit (.int .i64 0)]⟩
  | 3 => some ⟨1, .sc, [.lit (.int .i64 0)]⟩
  | 4 => some ⟨1, .sc, [.lit (.bool false)]⟩
  | 5 => some ⟨1, .sc, [.lit (.int .u8 0)]⟩
  | 6 => some ⟨1, .sc, [.lit (.int .u8 0)]⟩
  | 7 => some ⟨4, .st [(0, 1), (1, 1), (2, 1), (3, 1)], [.lit (.int .i64 0), .lit (.int .i64 0), .lit (.bool false), .lit (.int .u8 0)]⟩
  | 8 => some ⟨4, .st [(0, 1), (1, 1), (2, 1), (3, 1)], [.lit (.int .i64 0), .lit (.int .i64 0), .lit (.bool false), .lit (.int .u8 0)]⟩
  | 12 => some ⟨1, .sc, [.lit (.int .u64 0)]⟩
  | 21 => some ⟨1, .sc, [.lit (.int .i32 0)]⟩
  | 22 => some ⟨1, .sl 3 1 8, [.sl 3 1]⟩
  | 23 => some ⟨2, .st [(0, 1), (1, 1)], [.sl 3 1, .sl 3 1]⟩
  | 24 => some ⟨2, .st [(0, 1), (1, 1)], [.sl 3 1, .sl 3 1]⟩
  | 25 => some ⟨1, .sl 169 1 24, [.sl 169 1]⟩
  | 26 => some ⟨2, .st [(0, 1), (1, 1)], [.sl 169 1, .sl 169 1]⟩
  | 27 => some ⟨2, .st [(0, 1), (1, 1)], [.sl 169 1, .sl 169 1]⟩
  | 28 => some ⟨4, .st [(0, 2), (2, 2)], [.sl 3 1, .sl 3 1, .sl 169 1, .sl 169 1]⟩
  | 29 => some ⟨4, .st [(0, 2), (2, 2)], [.sl 3 1, .sl 3 1, .sl 169 1, .sl 169 1]⟩
  | 31 => some ⟨2, .st [(0, 1), (1, 1)], [.sl 3 1, .sl 3 1]⟩
  | 32 => some ⟨1, .sl 136 1 24, [.sl 136 1]⟩
  | 33 => some ⟨2, .st [(0, 1), (1, 1)], [.sl 136 1, .sl 136 1]⟩
  | 34 => some ⟨2, .st [(0, 1), (1, 1)], [.sl 136 1, .sl 136 1]⟩
  | 35 => some ⟨4, .st [(0, 2), (2, 2)], [.sl 3 1, .sl 3 1, .sl 136 1, .sl 136 1]⟩
  | 36 => some ⟨4, .st [(0, 2), (2, 2)], [.sl 3 1, .sl 3 1, .sl 136 1, .sl 136 1]⟩
  | 43 => some ⟨3, .st [(0, 1), (1, 1), (2, 1)], [.lit (.int .i64 0), .lit (.int .i64 0), .lit (.int .i64 0)]⟩
  | 44 => some ⟨3, .st [(0, 1), (1, 1), (2, 1)], [.lit (.int .i64 0), .lit (.int .i64 0), .lit (.int .i64 0)]⟩
  | 46 => some ⟨3, .st [(0, 1), (1, 1), (2, 1)], [.lit (.int .i64 0), .lit (.int .i64 0), .lit (.int .i64 0)]⟩
  | 51 => some ⟨1, .sl 180 4 32, [.sl 180 4]⟩
  | 52 => some ⟨2, .st [(0, 1), (1, 1)], [.lit (.int .i64 0), .sl 180 4]⟩
  | 53 => some ⟨2, .st [(0, 1), (1, 1)], [.lit (.int .i64 0), .sl 180 4]⟩
  | 54 => some ⟨1, .sl 142 1 24, [.sl 142 1]⟩
  | 55 => some ⟨8, .st [(0, 4), (4, 2), (6, 1), (7, 1)], [.sl 3 1, .sl 3 1, .sl 169 1, .sl 169 1, .lit (.int .i64 0), .sl 180 4, .sl 142 1, .sl 3 1]⟩
  | 56 => some ⟨8, .st [(0, 4), (4, 2), (6, 1), (7, 1)], [.sl 3 1, .sl 3 1, .sl 169 1, .sl 169 1, .lit (.int .i64 0), .sl 180 4, .sl 142 1, .sl 3 1]⟩
  | 59 => some ⟨1, .sl 144 4 32, [.sl 144 4]⟩
  | 60 => some ⟨2, .st [(0, 1), (1, 1)], [.lit (.int .i64 0), .sl 144 4]⟩
  | 61 => some ⟨2, .st [(0, 1), (1, 1)], [.lit (.int .i64 0), .sl 144 4]⟩
  | 62 => some ⟨1, .sl 147 1 24, [.sl 147 1]⟩
  | 63 => some ⟨8, .st [(0, 4), (4, 2), (6, 1), (7, 1)], [.sl 3 1, .sl 3 1, .sl 136 1, .sl 136 1, .lit (.int .i64 0), .sl 144 4, .sl 147 1, .sl 3 1]⟩
  | 64 => some ⟨8, .st [(0, 4), (4, 2), (6, 1), (7, 1)], [.sl 3 1, .sl 3 1, .sl 136 1, .sl 136 1, .lit (.int .i64 0), .sl 144 4, .sl 147 1, .sl 3 1]⟩
  | 100 => some ⟨1, .sl 103 2 16, [.sl 103 2]⟩
  | 102 => some ⟨2, .st [(0, 1), (1, 1)], [.lit (.int .i64 0), .lit (.int .i64 0)]⟩
  | 103 => some ⟨2, .st [(0, 1), (1, 1)], [.lit (.int .i64 0), .lit (.int .i64 0)]⟩
  | 109 => some ⟨8, .st [(0, 8)], [.sl 3 1, .sl 3 1, .sl 136 1, .sl 136 1, .lit (.int .i64 0), .sl 144 4, .sl 147 1, .sl 3 1]⟩
  | 110 => some ⟨8, .st [(0, 8)], [.sl 3 1, .sl 3 1, .sl 136 1, .sl 136 1, .lit (.int .i64 0), .sl 144 4, .sl 147 1, .sl 3 1]⟩
  | 128 => some ⟨1, .sl 5 1 1, [.sl 5 1]⟩
  | 135 => some ⟨1, .st [(0, 1)], [.sl 3 1]⟩
  | 136 => some ⟨1, .st [(0, 1)], [.sl 3 1]⟩
  | 140 => some ⟨1, .sl 188 2 16, [.sl 188 2]⟩
  | 141 => some ⟨1, .st [(0, 1)], [.sl 188 2]⟩
  | 142 => some ⟨1, .st [(0, 1)], [.sl 188 2]⟩
  | 143 => some ⟨4, .st [(0, 1), (1, 1), (2, 1), (3, 1)], [.lit (.bool false), .lit (.int .i64 0), .lit (.bool false), .lit (.int .i64 0)]⟩
  | 144 => some ⟨4, .st [(0, 1), (1, 1), (2, 1), (3, 1)], [.lit (.bool false), .lit (.int .i64 0), .lit (.bool false), .lit (.int .i64 0)]⟩
  | 146 => some ⟨1, .st [(0, 1)], [.sl 103 2]⟩
  | 147 => some ⟨1, .st [(0, 1)], [.sl 103 2]⟩
  | 152 => some ⟨24, .arr 24 4 1, [.lit (.bool false), .lit (.bool false), .lit (.bool false), .lit (.bool false), .lit (.bool false), .lit (.bool false), .lit (.bool false), .lit (.bool false), .lit (.bool false), .lit (.bool false), .lit (.bool false), .lit (.bool false), .lit (.bool false), .lit (.bool false), .lit (.bool false), .lit (.bool false), .lit (.bool false), .lit (.bool false), .lit (.bool false), .lit (.bool false), .lit (.bool false), .lit (.bool false), .lit (.bool false), .lit (.bool false)]⟩
  | 165 => some ⟨3, .arr 3 3 1, [.lit (.int .i64 0), .lit (.int .i64 0), .lit (.int .i64 0)]⟩
  | 169 => some ⟨1, .st [(0, 1)], [.sl 3 1]⟩
  | 172 => some ⟨1, .sc, [.lit (.int .u64 0)]⟩
  | 176 => some ⟨8, .arr 8 3 1, [.lit (.int .i64 0), .lit (.int .i64 0), .lit (.int .i64 0), .lit (.int .i64 0), .lit (.int .i64 0), .lit (.int .i64 0), .lit (.int .i64 0), .lit (.int .i64 0)]⟩
  | 180 => some ⟨4, .st [(0, 1), (1, 1), (2, 1), (3, 1)], [.lit (.bool false), .lit (.int .i64 0), .lit (.bool false), .lit (.int .i64 0)]⟩
  | 188 => some ⟨2, .st [(0, 1), (1, 1)], [.lit (.int .i64 0), .lit (.int .i64 0)]⟩
  | 191 => some ⟨1, .sl 32 1 24, [.sl 32 1]⟩
  | 200 => some ⟨1, .sc, [.lit (.int .u32 0)]⟩
  | 201 => some ⟨1, .sc, [.lit (.int .u8 0)]⟩
  | 202 => some ⟨1, .sc, [.lit (.int .u8 0)]⟩
  | 205 => some ⟨1, .sc, [.lit (.int .i32 0)]⟩
  | 206 => some ⟨1, .sc, [.lit (.int .i32 0)]⟩
  | _ => none
theorem tyF2 : TyF Tryz.prog 2 ⟨1, .sc, [.lit (.int .i64 0)]⟩ :=
  ⟨⟨_, _, (by kernel_rfl : Tryz.prog.info? 2 = some ((Tryz.prog.info? 2).get (by kernel_rfl))), by kernel_rfl, (by kernel_rfl : _ = some (((Tryz.prog.info? 2).get (by kernel_rfl)).zero.get (by kernel_rfl))), by kernel_rfl⟩, rfl, ⟨_, Tryz.underlying2, rfl⟩⟩
theorem tyF3 : TyF Tryz.prog 3 ⟨1, .sc, [.lit (.int .i64 0)]⟩ :=
  ⟨⟨_, _, (by kernel_rfl : Tryz.prog.info? 3 = some ((Tryz.prog.info? 3).get (by kernel_rfl))), by kernel_rfl, (by kernel_rfl : _ = some (((Tryz.prog.info? 3).get (by kernel_rfl)).zero.get (by kernel_rfl))), by kernel_rfl⟩, rfl, ⟨_, Tryz.underlying3, rfl⟩⟩
theorem tyF4 : TyF Tryz.prog 4 ⟨1, .sc, [.lit (.bool false)]⟩ :=
  ⟨⟨_, _, (by kernel_rfl : Tryz.prog.info? 4 = some ((Tryz.prog.info? 4).get (by kernel_rfl))), by kernel_rfl, (by kernel_rfl : _ = some (((Tryz.prog.info? 4).get (by kernel_rfl)).zero.get (by kernel_rfl))), by kernel_rfl⟩, rfl, ⟨_, Tryz.underlying4, rfl⟩⟩
theorem tyF5 : TyF Tryz.prog 5 ⟨1, .sc, [.lit (.int .u8 0)]⟩ :=
  ⟨⟨_, _, (by kernel_rfl : Tryz.prog.info? 5 = some ((Tryz.prog.info? 5).get (by kernel_rfl))), by kernel_rfl, (by kernel_rfl : _ = some (((Tryz.prog.info? 5).get (by kernel_rfl)).zero.get (by kernel_rfl))), by kernel_rfl⟩, rfl, ⟨_, Tryz.underlying5, rfl⟩⟩
theorem tyF6 : TyF Tryz.prog 6 ⟨1, .sc, [.lit (.int .u8 0)]⟩ :=
  ⟨⟨_, _, (by kernel_rfl : Tryz.prog.info? 6 = some ((Tryz.prog.info? 6).get (by kernel_rfl))), by kernel_rfl, (by kernel_rfl : _ = some (((Tryz.prog.info? 6).get (by kernel_rfl)).zero.get (by kernel_rfl))), by kernel_rfl⟩, rfl, ⟨_, Tryz.underlying6, rfl⟩⟩
theorem tyF7 : TyF Tryz.prog 7 ⟨4, .st [(0, 1), (1, 1), (2, 1), (3, 1)], [.lit (.int .i64 0), .lit (.int .i64 0), .lit (.bool false), .lit (.int .u8 0)]⟩ :=
  ⟨⟨_, _, (by kernel_rfl : Tryz.prog.info? 7 = some ((Tryz.prog.info? 7).get (by kernel_rfl))), by kernel_rfl, (by kernel_rfl : _ = some (((Tryz.prog.info? 7).get (by kernel_rfl)).zero.get (by kernel_rfl))), by kernel_rfl⟩, rfl, ⟨_, Tryz.underlying7, by kernel_rfl, rfl⟩⟩
theorem tyF8 : TyF Tryz.prog 8 ⟨4, .st [(0, 1), (1, 1), (2, 1), (3, 1)], [.lit (.int .i64 0), .lit (.int .i64 0), .lit (.bool false), .lit (.int .u8 0)]⟩ :=
  ⟨⟨_, _, (by kernel_rfl : Tryz.prog.info? 8 = some ((Tryz.prog.info? 8).get (by kernel_rfl))), by kernel_rfl, (by kernel_rfl : _ = some (((Tryz.prog.info? 8).get (by kernel_rfl)).zero.get (by kernel_rfl))), by kernel_rfl⟩, rfl, ⟨_, Tryz.underlying8, by kernel_rfl, rfl⟩⟩
theorem tyF12 : TyF Tryz.prog 12 ⟨1, .sc, [.lit (.int .u64 0)]⟩ :=
  ⟨⟨_, _, (by kernel_rfl : Tryz.prog.info? 12 = some ((Tryz.prog.info? 12).get (by kernel_rfl))), by kernel_rfl, (by kernel_rfl : _ = some (((Tryz.prog.info? 12).get (by kernel_rfl)).zero.get (by kernel_rfl))), by kernel_rfl⟩, rfl, ⟨_, Tryz.underlying12, rfl⟩⟩
theorem tyF21 : TyF Tryz.prog 21 ⟨1, .sc, [.lit (.int .i32 0)]⟩ :=
  ⟨⟨_, _, (by kernel_rfl : Tryz.prog.info? 21 = some ((Tryz.prog.info? 21).get (by kernel_rfl))), by kernel_rfl, (by kernel_rfl : _ = some (((Tryz.prog.info? 21).get (by kernel_rfl)).zero.get (by kernel_rfl))), by kernel_rfl⟩, rfl, ⟨_, Tryz.underlying21, rfl⟩⟩
theorem tyF22 : TyF Tryz.prog 22 ⟨1, .sl 3 1 8, [.sl 3 1]⟩ :=
  ⟨⟨_, _, (by kernel_rfl : Tryz.prog.info? 22 = some ((Tryz.prog.info? 22).get (by kernel_rfl))), by kernel_rfl, (by kernel_rfl : _ = some (((Tryz.prog.info? 22).get (by kernel_rfl)).zero.get (by kernel_rfl))), by kernel_rfl⟩, rfl, ⟨Tryz.underlying22, _, _, (by kernel_rfl : Tryz.prog.info? 3 = some ((Tryz.prog.info? 3).get (by kernel_rfl))), by kernel_rfl, by kernel_rfl, (by kernel_rfl : _ = some (((Tryz.prog.info? 3).get (by kernel_rfl)).zero.get (by kernel_rfl))), by kernel_rfl, by decide⟩⟩
theorem tyF23 : TyF Tryz.prog 23 ⟨2, .st [(0, 1), (1, 1)], [.sl 3 1, .sl 3 1]⟩ :=
  ⟨⟨_, _, (by kernel_rfl : Tryz.prog.info? 23 = some ((Tryz.prog.info? 23).get (by kernel_rfl))), by kernel_rfl, (by kernel_rfl : _ = some (((Tryz.prog.info? 23).get (by kernel_rfl)).zero.get (by kernel_rfl))), by kernel_rfl⟩, rfl, ⟨_, Tryz.underlying23, by kernel_rfl, rfl⟩⟩
theorem tyF24 : TyF Tryz.prog 24 ⟨2, .st [(0, 1), (1, 1)], [.sl 3 1, .sl 3 1]⟩ :=
  ⟨⟨_, _, (by kernel_rfl : Tryz.prog.info? 24 = some ((Tryz.prog.info? 24).get (by kernel_rfl))), by kernel_rfl, (by kernel_rfl : _ = some (((Tryz.prog.info? 24).get (by kernel_rfl)).zero.get (by kernel_rfl))), by kernel_rfl⟩, rfl, ⟨_, Tryz.underlying24, by kernel_rfl, rfl⟩⟩
theorem tyF25 : TyF Tryz.prog 25 ⟨1, .sl 169 1 24, [.sl 169 1]⟩ :=
  ⟨⟨_, _, (by kernel_rfl : Tryz.prog.info? 25 = some ((Tryz.prog.info? 25).get (by kernel_rfl))), by kernel_rfl, (by kernel_rfl : _ = some (((Tryz.prog.info? 25).get (by kernel_rfl)).zero.get (by kernel_rfl))), by kernel_rfl⟩, rfl, ⟨Tryz.underlying25, _, _, (by kernel_rfl : Tryz.prog.info? 169 = some ((Tryz.prog.info? 169).get (by kernel_rfl))), by kernel_rfl, by kernel_rfl, (by kernel_rfl : _ = some (((Tryz.prog.info? 169).get (by kernel_rfl)).zero.get (by kernel_rfl))), by kernel_rfl, by decide⟩⟩
theorem tyF26 : TyF Tryz.prog 26 ⟨2, .st [(0, 1), (1, 1)], [.sl 169 1, .sl 169 1]⟩ :=
  ⟨⟨_, _, (by kernel_rfl : Tryz.prog.info? 26 = some ((Tryz.prog.info? 26).get (by kernel_rfl))), by kernel_rfl, (by kernel_rfl : _ = some (((Tryz.prog.info? 26).get (by kernel_rfl)).zero.get (by kernel_rfl))), by kernel_rfl⟩, rfl, ⟨_, Tryz.underlying26, by kernel_rfl, rfl⟩⟩
theorem tyF27 : TyF Tryz.prog 27 ⟨2, .st [(0, 1), (1, 1)], [.sl 169 1, .sl 169 1]⟩ :=
  ⟨⟨_, _, (by kernel_rfl : Tryz.prog.info? 27 = some ((Tryz.prog.info? 27).get (by kernel_rfl))), by kernel_rfl, (by kernel_rfl : _ = some (((Tryz.prog.info? 27).get (by kernel_rfl)).zero.get (by kernel_rfl))), by kernel_rfl⟩, rfl, ⟨_, Tryz.underlying27, by kernel_rfl, rfl⟩⟩
theorem tyF28 : TyF Tryz.prog 28 ⟨4, .st [(0, 2), (2, 2)], [.sl 3 1, .sl 3 1, .sl 169 1, .sl 169 1]⟩ :=
  ⟨⟨_, _, (by kernel_rfl : Tryz.prog.info? 28 = some ((Tryz.prog.info? 28).get (by kernel_rfl))), by kernel_rfl, (by kernel_rfl : _ = some (((Tryz.prog.info? 28).get (by kernel_rfl)).zero.get (by kernel_rfl))), by kernel_rfl⟩, rfl, ⟨_, Tryz.underlying28, by kernel_rfl, rfl⟩⟩
theorem tyF29 : TyF Tryz.prog 29 ⟨4, .st [(0, 2), (2, 2)], [.sl 3 1, .sl 3 1, .sl 169 1, .sl 169 1]⟩ :=
  ⟨⟨_, _, (by kernel_rfl : Tryz.prog.info? 29 = some ((Tryz.prog.info? 29).get (by kernel_rfl))), by kernel_rfl, (by kernel_rfl : _ = some (((Tryz.prog.info? 29).get (by kernel_rfl)).zero.get (by kernel_rfl))), by kernel_rfl⟩, rfl, ⟨_, Tryz.underlying29, by kernel_rfl, rfl⟩⟩
theorem tyF31 : TyF Tryz.prog 31 ⟨2, .st [(0, 1), (1, 1)], [.sl 3 1, .sl 3 1]⟩ :=
  ⟨⟨_, _, (by kernel_rfl : Tryz.prog.info? 31 = some ((Tryz.prog.info? 31).get (by kernel_rfl))), by kernel_rfl, (by kernel_rfl : _ = some (((Tryz.prog.info? 31).get (by kernel_rfl)).zero.get (by kernel_rfl))), by kernel_rfl⟩, rfl, ⟨_, Tryz.underlying31, by kernel_rfl, rfl⟩⟩
theorem tyF32 : TyF Tryz.prog 32 ⟨1, .sl 136 1 24, [.sl 136 1]⟩ :=
  ⟨⟨_, _, (by kernel_rfl : Tryz.prog.info? 32 = some ((Tryz.prog.info? 32).get (by kernel_rfl))), by kernel_rfl, (by kernel_rfl : _ = some (((Tryz.prog.info? 32).get (by kernel_rfl)).zero.get (by kernel_rfl))), by kernel_rfl⟩, rfl, ⟨Tryz.underlying32, _, _, (by kernel_rfl : Tryz.prog.info? 136 = some ((Tryz.prog.info? 136).get (by kernel_rfl))), by kernel_rfl, by kernel_rfl, (by kernel_rfl : _ = some (((Tryz.prog.info? 136).get (by kernel_rfl)).zero.get (by kernel_rfl))), by kernel_rfl, by decide⟩⟩
theorem tyF33 : TyF Tryz.prog 33 ⟨2, .st [(0, 1), (1, 1)], [.sl 136 1, .sl 136 1]⟩ :=
  ⟨⟨_, _, (by kernel_rfl : Tryz.prog.info? 33 = some ((Tryz.prog.info? 33).get (by kernel_rfl))), by kernel_rfl, (by kernel_rfl : _ = some (((Tryz.prog.info? 33).get (by kernel_rfl)).zero.get (by kernel_rfl))), by kernel_rfl⟩, rfl, ⟨_, Tryz.underlying33, by kernel_rfl, rfl⟩⟩
theorem tyF34 : TyF Tryz.prog 34 ⟨2, .st [(0, 1), (1, 1)], [.sl 136 1, .sl 136 1]⟩ :=
  ⟨⟨_, _, (by kernel_rfl : Tryz.prog.info? 34 = some ((Tryz.prog.info? 34).get (by kernel_rfl))), by kernel_rfl, (by kernel_rfl : _ = some (((Tryz.prog.info? 34).get (by kernel_rfl)).zero.get (by kernel_rfl))), by kernel_rfl⟩, rfl, ⟨_, Tryz.underlying34, by kernel_rfl, rfl⟩⟩
theorem tyF35 : TyF Tryz.prog 35 ⟨4, .st [(0, 2), (2, 2)], [.sl 3 1, .sl 3 1, .sl 136 1, .sl 136 1]⟩ :=
  ⟨⟨_, _, (by kernel_rfl : Tryz.prog.info? 35 = some ((Tryz.prog.info? 35).get (by kernel_rfl))), by kernel_rfl, (by kernel_rfl : _ = some (((Tryz.prog.info? 35).get (by kernel_rfl)).zero.get (by kernel_rfl))), by kernel_rfl⟩, rfl, ⟨_, Tryz.underlying35, by kernel_rfl, rfl⟩⟩
theorem tyF36 : TyF Tryz.prog 36 ⟨4, .st [(0, 2), (2, 2)], [.sl 3 1, .sl 3 1, .sl 136 1, .sl 136 1]⟩ :=
  ⟨⟨_, _, (by kernel_rfl : Tryz.prog.info? 36 = some ((Tryz.prog.info? 36).get (by kernel_rfl))), by kernel_rfl, (by kernel_rfl : _ = some (((Tryz.prog.info? 36).get (by kernel_rfl)).zero.get (by kernel_rfl))), by kernel_rfl⟩, rfl, ⟨_, Tryz.underlying36, by kernel_rfl, rfl⟩⟩
theorem tyF43 : TyF Tryz.prog 43 ⟨3, .st [(0, 1), (1, 1), (2, 1)], [.lit (.int .i64 0), .lit (.int .i64 0), .lit (.int .i64 0)]⟩ :=
  ⟨⟨_, _, (by kernel_rfl : Tryz.prog.info? 43 = some ((Tryz.prog.info? 43).get (by kernel_rfl))), by kernel_rfl, (by kernel_rfl : _ = some (((Tryz.prog.info? 43).get (by kernel_rfl)).zero.get (by kernel_rfl))), by kernel_rfl⟩, rfl, ⟨_, Tryz.underlying43, by kernel_rfl, rfl⟩⟩
theorem tyF44 : TyF Tryz.prog 44 ⟨3, .st [(0, 1), (1, 1), (2, 1)], [.lit (.int .i64 0), .lit (.int .i64 0), .lit (.int .i64 0)]⟩ :=
  ⟨⟨_, _, (by kernel_rfl : Tryz.prog.info? 44 = some ((Tryz.prog.info? 44).get (by kernel_rfl))), by kernel_rfl, (by kernel_rfl : _ = some (((Tryz.prog.info? 44).get (by kernel_rfl)).zero.get (by kernel_rfl))), by kernel_rfl⟩, rfl, ⟨_, Tryz.underlying44, by kernel_rfl, rfl⟩⟩
theorem tyF46 : TyF Tryz.prog 46 ⟨3, .st [(0, 1), (1, 1), (2, 1)], [.lit (.int .i64 0), .lit (.int .i64 0), .lit (.int .i64 0)]⟩ :=
  ⟨⟨_, _, (by kernel_rfl : Tryz.prog.info? 46 = some ((Tryz.prog.info? 46).get (by kernel_rfl))), by kernel_rfl, (by kernel_rfl : _ = some (((Tryz.prog.info? 46).get (by kernel_rfl)).zero.get (by kernel_rfl))), by kernel_rfl⟩, rfl, ⟨_, Tryz.underlying46, by kernel_rfl, rfl⟩⟩
theorem tyF51 : TyF Tryz.prog 51 ⟨1, .sl 180 4 32, [.sl 180 4]⟩ :=
  ⟨⟨_, _, (by kernel_rfl : Tryz.prog.info? 51 = some ((Tryz.prog.info? 51).get (by kernel_rfl))), by kernel_rfl, (by kernel_rfl : _ = some (((Tryz.prog.info? 51).get (by kernel_rfl)).zero.get (by kernel_rfl))), by kernel_rfl⟩, rfl, ⟨Tryz.underlying51, _, _, (by kernel_rfl : Tryz.prog.info? 180 = some ((Tryz.prog.info? 180).get (by kernel_rfl))), by kernel_rfl, by kernel_rfl, (by kernel_rfl : _ = some (((Tryz.prog.info? 180).get (by kernel_rfl)).zero.get (by kernel_rfl))), by kernel_rfl, by decide⟩⟩
theorem tyF52 : TyF Tryz.prog 52 ⟨2, .st [(0, 1), (1, 1)], [.lit (.int .i64 0), .sl 180 4]⟩ :=
  ⟨⟨_, _, (by kernel_rfl : Tryz.prog.info? 52 = some ((Tryz.prog.info? 52).get (by kernel_rfl))), by kernel_rfl, (by kernel_rfl : _ = some (((Tryz.prog.info? 52).get (by kernel_rfl)).zero.get (by kernel_rfl))), by kernel_rfl⟩, rfl, ⟨_, Tryz.underlying52, by kernel_rfl, rfl⟩⟩
theorem tyF53 : TyF Tryz.prog 53 ⟨2, .st [(0, 1), (1, 1)], [.lit (.int .i64 0), .sl 180 4]⟩ :=
  ⟨⟨_, _, (by kernel_rfl : Tryz.prog.info? 53 = some ((Tryz.prog.info? 53).get (by kernel_rfl))), by kernel_rfl, (by kernel_rfl : _ = some (((Tryz.prog.info? 53).get (by kernel_rfl)).zero.get (by kernel_rfl))), by kernel_rfl⟩, rfl, ⟨_, Tryz.underlying53, by kernel_rfl, rfl⟩⟩
theorem tyF54 : TyF Tryz.prog 54 ⟨1, .sl 142 1 24, [.sl 142 1]⟩ :=
  ⟨⟨_, _, (by kernel_rfl : Tryz.prog.info? 54 = some ((Tryz.prog.info? 54).get (by kernel_rfl))), by kernel_rfl, (by kernel_rfl : _ = some (((Tryz.prog.info? 54).get (by kernel_rfl)).zero.get (by kernel_rfl))), by kernel_rfl⟩, rfl, ⟨Tryz.underlying54, _, _, (by kernel_rfl : Tryz.prog.info? 142 = some ((Tryz.prog.info? 142).get (by kernel_rfl))), by kernel_rfl, by kernel_rfl, (by kernel_rfl : _ = some (((Tryz.prog.info? 142).get (by kernel_rfl)).zero.get (by kernel_rfl))), by kernel_rfl, by decide⟩⟩
theorem tyF55 : TyF Tryz.prog 55 ⟨8, .st [(0, 4), (4, 2), (6, 1), (7, 1)], [.sl 3 1, .sl 3 1, .sl 169 1, .sl 169 1, .lit (.int .i64 0), .sl 180 4, .sl 142 1, .sl 3 1]⟩ :=
  ⟨⟨_, _, (by kernel_rfl : Tryz.prog.info? 55 = some ((Tryz.prog.info? 55).get (by kernel_rfl))), by kernel_rfl, (by kernel_rfl : _ = some (((Tryz.prog.info? 55).get (by kernel_rfl)).zero.get (by kernel_rfl))), by kernel_rfl⟩, rfl, ⟨_, Tryz.underlying55, by kernel_rfl, rfl⟩⟩
theorem tyF56 : TyF Tryz.prog 56 ⟨8, .st [(0, 4), (4, 2), (6, 1), (7, 1)], [.sl 3 1, .sl 3 1, .sl 169 1, .sl 169 1, .lit (.int .i64 0), .sl 180 4, .sl 142 1, .sl 3 1]⟩ :=
  ⟨⟨_, _, (by kernel_rfl : Tryz.prog.info? 56 = some ((Tryz.prog.info? 56).get (by kernel_rfl))), by kernel_rfl, (by kernel_rfl : _ = some (((Tryz.prog.info? 56).get (by kernel_rfl)).zero.get (by kernel_rfl))), by kernel_rfl⟩, rfl, ⟨_, Tryz.underlying56, by kernel_rfl, rfl⟩⟩
theorem tyF59 : TyF Tryz.prog 59 ⟨1, .sl 144 4 32, [.sl 144 4]⟩ :=
  ⟨⟨_, _, (by kernel_rfl : Tryz.prog.info? 59 = some ((Tryz.prog.info? 59).get (by kernel_rfl))), by kernel_rfl, (by kernel_rfl : _ = some (((Tryz.prog.info? 59).get (by kernel_rfl)).zero.get (by kernel_rfl))), by kernel_rfl⟩, rfl, ⟨Tryz.underlying59, _, _, (by kernel_rfl : Tryz.prog.info? 144 = some ((Tryz.prog.info? 144).get (by kernel_rfl))), by kernel_rfl, by kernel_rfl, (by kernel_rfl : _ = some (((Tryz.prog.info? 144).get (by kernel_rfl)).zero.get (by kernel_rfl))), by kernel_rfl, by decide⟩⟩
theorem tyF60 : TyF Tryz.prog 60 ⟨2, .st [(0, 1), (1, 1)], [.lit (.int .i64 0), .sl 144 4]⟩ :=
  ⟨⟨_, _, (by kernel_rfl : Tryz.prog.info? 60 = some ((Tryz.prog.info? 60).get (by kernel_rfl))), by kernel_rfl, (by kernel_rfl : _ = some (((Tryz.prog.info? 60).get (by kernel_rfl)).zero.get (by kernel_rfl))), by kernel_rfl⟩, rfl, ⟨_, Tryz.underlying60, by kernel_rfl, rfl⟩⟩
theorem tyF61 : TyF Tryz.prog 61 ⟨2, .st [(0, 1), (1, 1)], [.lit (.int .i64 0), .sl 144 4]⟩ :=
  ⟨⟨_, _, (by kernel_rfl : Tryz.prog.info? 61 = some ((Tryz.prog.info? 61).get (by kernel_rfl))), by kernel_rfl, (by kernel_rfl : _ = some (((Tryz.prog.info? 61).get (by kernel_rfl)).zero.get (by kernel_rfl))), by kernel_rfl⟩, rfl, ⟨_, Tryz.underlying61, by kernel_rfl, rfl⟩⟩
theorem tyF62 : TyF Tryz.prog 62 ⟨1, .sl 147 1 24, [.sl 147 1]⟩ :=
  ⟨⟨_, _, (by kernel_rfl : Tryz.prog.info? 62 = some ((Tryz.prog.info? 62).get (by kernel_rfl))), by kernel_rfl, (by kernel_rfl : _ = some (((Tryz.prog.info? 62).get (by kernel_rfl)).zero.get (by kernel_rfl))), by kernel_rfl⟩, rfl, ⟨Tryz.underlying62, _, _, (by kernel_rfl : Tryz.prog.info? 147 = some ((Tryz.prog.info? 147).get (by kernel_rfl))), by kernel_rfl, by kernel_rfl, (by kernel_rfl : _ = some (((Tryz.prog.info? 147).get (by kernel_rfl)).zero.get (by kernel_rfl))), by kernel_rfl, by decide⟩⟩
theorem tyF63 : TyF Tryz.prog 63 ⟨8, .st [(0, 4), (4, 2), (6, 1), (7, 1)], [.sl 3 1, .sl 3 1, .sl 136 1, .sl 136 1, .lit (.int .i64 0), .sl 144 4, .sl 147 1, .sl 3 1]⟩ :=
  ⟨⟨_, _, (by kernel_rfl : Tryz.prog.info? 63 = some ((Tryz.prog.info? 63).get (by kernel_rfl))), by kernel_rfl, (by kernel_rfl : _ = some (((Tryz.prog.info? 63).get (by kernel_rfl)).zero.get (by kernel_rfl))), by kernel_rfl⟩, rfl, ⟨_, Tryz.underlying63, by kernel_rfl, rfl⟩⟩
theorem tyF64 : TyF Tryz.prog 64 ⟨8, .st [(0, 4), (4, 2), (6, 1), (7, 1)], [.sl 3 1, .sl 3 1, .sl 136 1, .sl 136 1, .lit (.int .i64 0), .sl 144 4, .sl 147 1, .sl 3 1]⟩ :=
  ⟨⟨_, _, (by kernel_rfl : Tryz.prog.info? 64 = some ((Tryz.prog.info? 64).get (by kernel_rfl))), by kernel_rfl, (by kernel_rfl : _ = some (((Tryz.prog.info? 64).get (by kernel_rfl)).zero.get (by kernel_rfl))), by kernel_rfl⟩, rfl, ⟨_, Tryz.underlying64, by kernel_rfl, rfl⟩⟩
theorem tyF100 : TyF Tryz.prog 100 ⟨1, .sl 103 2 16, [.sl 103 2]⟩ :=
  ⟨⟨_, _, (by kernel_rfl : Tryz.prog.info? 100 = some ((Tryz.prog.info? 100).get (by kernel_rfl))), by kernel_rfl, (by kernel_rfl : _ = some (((Tryz.prog.info? 100).get (by kernel_rfl)).zero.get (by kernel_rfl))), by kernel_rfl⟩, rfl, ⟨Tryz.underlying100, _, _, (by kernel_rfl : Tryz.prog.info? 103 = some ((Tryz.prog.info? 103).get (by kernel_rfl))), by kernel_rfl, by kernel_rfl, (by kernel_rfl : _ = some (((Tryz.prog.info? 103).get (by kernel_rfl)).zero.get (by kernel_rfl))), by kernel_rfl, by decide⟩⟩
theorem tyF102 : TyF Tryz.prog 102 ⟨2, .st [(0, 1), (1, 1)], [.lit (.int .i64 0), .lit (.int .i64 0)]⟩ :=
  ⟨⟨_, _, (by kernel_rfl : Tryz.prog.info? 102 = some ((Tryz.prog.info? 102).get (by kernel_rfl))), by kernel_rfl, (by kernel_rfl : _ = some (((Tryz.prog.info? 102).get (by kernel_rfl)).zero.get (by kernel_rfl))), by kernel_rfl⟩, rfl, ⟨_, Tryz.underlying102, by kernel_rfl, rfl⟩⟩
theorem tyF103 : TyF Tryz.prog 103 ⟨2, .st [(0, 1), (1, 1)], [.lit (.int .i64 0), .lit (.int .i64 0)]⟩ :=
  ⟨⟨_, _, (by kernel_rfl : Tryz.prog.info? 103 = some ((Tryz.prog.info? 103).get (by kernel_rfl))), by kernel_rfl, (by kernel_rfl : _ = some (((Tryz.prog.info? 103).get (by kernel_rfl)).zero.get (by kernel_rfl))), by kernel_rfl⟩, rfl, ⟨_, Tryz.underlying103, by kernel_rfl, rfl⟩⟩
theorem tyF109 : TyF Tryz.prog 109 ⟨8, .st [(0, 8)], [.sl 3 1, .sl 3 1, .sl 136 1, .sl 136 1, .lit (.int .i64 0), .sl 144 4, .sl 147 1, .sl 3 1]⟩ :=
  ⟨⟨_, _, (by kernel_rfl : Tryz.prog.info? 109 = some ((Tryz.prog.info? 109).get (by kernel_rfl))), by kernel_rfl, (by kernel_rfl : _ = some (((Tryz.prog.info? 109).get (by kernel_rfl)).zero.get (by kernel_rfl))), by kernel_rfl⟩, rfl, ⟨_, Tryz.underlying109, by kernel_rfl, rfl⟩⟩
theorem tyF110 : TyF Tryz.prog 110 ⟨8, .st [(0, 8)], [.sl 3 1, .sl 3 1, .sl 136 1, .sl 136 1, .lit (.int .i64 0), .sl 144 4, .sl 147 1, .sl 3 1]⟩ :=
  ⟨⟨_, _, (by kernel_rfl : Tryz.prog.info? 110 = some ((Tryz.prog.info? 110).get (by kernel_rfl))), by kernel_rfl, (by kernel_rfl : _ = some (((Tryz.prog.info? 110).get (by kernel_rfl)).zero.get (by kernel_rfl))), by kernel_rfl⟩, rfl, ⟨_, Tryz.underlying110, by kernel_rfl, rfl⟩⟩
theorem tyF128 : TyF Tryz.prog 128 ⟨1, .sl 5 1 1, [.sl 5 1]⟩ :=
  ⟨⟨_, _, (by kernel_rfl : Tryz.prog.info? 128 = some ((Tryz.prog.info? 128).get (by kernel_rfl))), by kernel_rfl, (by kernel_rfl : _ = some (((Tryz.prog.info? 128).get (by kernel_rfl)).zero.get (by kernel_rfl))), by kernel_rfl⟩, rfl, ⟨Tryz.underlying128, _, _, (by kernel_rfl : Tryz.prog.info? 5 = some ((Tryz.prog.info? 5).get (by kernel_rfl))), by kernel_rfl, by kernel_rfl, (by kernel_rfl : _ = some (((Tryz.prog.info? 5).get (by kernel_rfl)).zero.get (by kernel_rfl))), by kernel_rfl, by decide⟩⟩
theorem tyF135 : TyF Tryz.prog 135 ⟨1, .st [(0, 1)], [.sl 3 1]⟩ :=
  ⟨⟨_, _, (by kernel_rfl : Tryz.prog.info? 135 = some ((Tryz.prog.info? 135).get (by kernel_rfl))), by kernel_rfl, (by kernel_rfl : _ = some (((Tryz.prog.info? 135).get (by kernel_rfl)).zero.get (by kernel_rfl))), by kernel_rfl⟩, rfl, ⟨_, Tryz.underlying135, by kernel_rfl, rfl⟩⟩
theorem tyF136 : TyF Tryz.prog 136 ⟨1, .st [(0, 1)], [.sl 3 1]⟩ :=
  ⟨⟨_, _, (by kernel_rfl : Tryz.prog.info? 136 = some ((Tryz.prog.info? 136).get (by kernel_rfl))), by kernel_rfl, (by kernel_rfl : _ = some (((Tryz.prog.info? 136).get (by kernel_rfl)).zero.get (by kernel_rfl))), by kernel_rfl⟩, rfl, ⟨_, Tryz.underlying136, by kernel_rfl, rfl⟩⟩
theorem tyF140 : TyF Tryz.prog 140 ⟨1, .sl 188 2 16, [.sl 188 2]⟩ :=
  ⟨⟨_, _, (by kernel_rfl : Tryz.prog.info? 140 = some ((Tryz.prog.info? 140).get (by kernel_rfl))), by kernel_rfl, (by kernel_rfl : _ = some (((Tryz.prog.info? 140).get (by kernel_rfl)).zero.get (by kernel_rfl))), by kernel_rfl⟩, rfl, ⟨Tryz.underlying140, _, _, (by kernel_rfl : Tryz.prog.info? 188 = some ((Tryz.prog.info? 188).get (by kernel_rfl))), by kernel_rfl, by kernel_rfl, (by kernel_rfl : _ = some (((Tryz.prog.info? 188).get (by kernel_rfl)).zero.get (by kernel_rfl))), by kernel_rfl, by decide⟩⟩
theorem tyF141 : TyF Tryz.prog 141 ⟨1, .st [(0, 1)], [.sl 188 2]⟩ :=
  ⟨⟨_, _, (by kernel_rfl : Tryz.prog.info? 141 = some ((Tryz.prog.info? 141).get (by kernel_rfl))), by kernel_rfl, (by kernel_rfl : _ = some (((Tryz.prog.info? 141).get (by kernel_rfl)).zero.get (by kernel_rfl))), by kernel_rfl⟩, rfl, ⟨_, Tryz.underlying141, by kernel_rfl, rfl⟩⟩
theorem tyF142 : TyF Tryz.prog 142 ⟨1, .st [(0, 1)], [.sl 188 2]⟩ :=
  ⟨⟨_, _, (by kernel_rfl : Tryz.prog.info? 142 = some ((Tryz.prog.info? 142).get (by kernel_rfl))), by kernel_rfl, (by kernel_rfl : _ = some (((Tryz.prog.info? 142).get (by kernel_rfl)).zero.get (by kernel_rfl))), by kernel_rfl⟩, rfl, ⟨_, Tryz.underlying142, by kernel_rfl, rfl⟩⟩
theorem tyF143 : TyF Tryz.prog 143 ⟨4, .st [(0, 1), (1, 1), (2, 1), (3, 1)], [.lit (.bool false), .lit (.int .i64 0), .lit (.bool false), .lit (.int .i64 0)]⟩ :=
  ⟨⟨_, _, (by kernel_rfl : Tryz.prog.info? 143 = some ((Tryz.prog.info? 143).get (by kernel_rfl))), by kernel_rfl, (by kernel_rfl : _ = some (((Tryz.prog.info? 143).get (by kernel_rfl)).zero.get (by kernel_rfl))), by kernel_rfl⟩, rfl, ⟨_, Tryz.underlying143, by kernel_rfl, rfl⟩⟩
theorem tyF144 : TyF Tryz.prog 144 ⟨4, .st [(0, 1), (1, 1), (2, 1), (3, 1)], [.lit (.bool false), .lit (.int .i64 0), .lit (.bool false), .lit (.int .i64 0)]⟩ :=
  ⟨⟨_, _, (by kernel_rfl : Tryz.prog.info? 144 = some ((Tryz.prog.info? 144).get (by kernel_rfl))), by kernel_rfl, (by kernel_rfl : _ = some (((Tryz.prog.info? 144).get (by kernel_rfl)).zero.get (by kernel_rfl))), by kernel_rfl⟩, rfl, ⟨_, Tryz.underlying144, by kernel_rfl, rfl⟩⟩
theorem tyF146 : TyF Tryz.prog 146 ⟨1, .st [(0, 1)], [.sl 103 2]⟩ :=
  ⟨⟨_, _, (by kernel_rfl : Tryz.prog.info? 146 = some ((Tryz.prog.info? 146).get (by kernel_rfl))), by kernel_rfl, (by kernel_rfl : _ = some (((Tryz.prog.info? 146).get (by kernel_rfl)).zero.get (by kernel_rfl))), by kernel_rfl⟩, rfl, ⟨_, Tryz.underlying146, by kernel_rfl, rfl⟩⟩
theorem tyF147 : TyF Tryz.prog 147 ⟨1, .st [(0, 1)], [.sl 103 2]⟩ :=
  ⟨⟨_, _, (by kernel_rfl : Tryz.prog.info? 147 = some ((Tryz.prog.info? 147).get (by kernel_rfl))), by kernel_rfl, (by kernel_rfl : _ = some (((Tryz.prog.info? 147).get (by kernel_rfl)).zero.get (by kernel_rfl))), by kernel_rfl⟩, rfl, ⟨_, Tryz.underlying147, by kernel_rfl, rfl⟩⟩
theorem tyF152 : TyF Tryz.prog 152 ⟨24, .arr 24 4 1, [.lit (.bool false), .lit (.bool false), .lit (.bool false), .lit (.bool false), .lit (.bool false), .lit (.bool false), .lit (.bool false), .lit (.bool false), .lit (.bool false), .lit (.bool false), .lit (.bool false), .lit (.bool false), .lit (.bool false), .lit (.bool false), .lit (.bool false), .lit (.bool false), .lit (.bool false), .lit (.bool false), .lit (.bool false), .lit (.bool false), .lit (.bool false), .lit (.bool false), .lit (.bool false), .lit (.bool false)]⟩ :=
  ⟨⟨_, _, (by kernel_rfl : Tryz.prog.info? 152 = some ((Tryz.prog.info? 152).get (by kernel_rfl))), by kernel_rfl, (by kernel_rfl : _ = some (((Tryz.prog.info? 152).get (by kernel_rfl)).zero.get (by kernel_rfl))), by kernel_rfl⟩, rfl, ⟨Tryz.underlying152, _, (by kernel_rfl : Tryz.prog.info? 4 = some ((Tryz.prog.info? 4).get (by kernel_rfl))), by kernel_rfl⟩⟩
theorem tyF165 : TyF Tryz.prog 165 ⟨3, .arr 3 3 1, [.lit (.int .i64 0), .lit (.int .i64 0), .lit (.int .i64 0)]⟩ :=
  ⟨⟨_, _, (by kernel_rfl : Tryz.prog.info? 165 = some ((Tryz.prog.info? 165).get (by kernel_rfl))), by kernel_rfl, (by kernel_rfl : _ = some (((Tryz.prog.info? 165).get (by kernel_rfl)).zero.get (by kernel_rfl))), by kernel_rfl⟩, rfl, ⟨Tryz.underlying165, _, (by kernel_rfl : Tryz.prog.info? 3 = some ((Tryz.prog.info? 3).get (by kernel_rfl))), by kernel_rfl⟩⟩
theorem tyF169 : TyF Tryz.prog 169 ⟨1, .st [(0, 1)], [.sl 3 1]⟩ :=
  ⟨⟨_, _, (by kernel_rfl : Tryz.prog.info? 169 = some ((Tryz.prog.info? 169).get (by kernel_rfl))), by kernel_rfl, (by kernel_rfl : _ = some (((Tryz.prog.info? 169).get (by kernel_rfl)).zero.get (by kernel_rfl))), by kernel_rfl⟩, rfl, ⟨_, Tryz.underlying169, by kernel_rfl, rfl⟩⟩
theorem tyF172 : TyF Tryz.prog 172 ⟨1, .sc, [.lit (.int .u64 0)]⟩ :=
  ⟨⟨_, _, (by kernel_rfl : Tryz.prog.info? 172 = some ((Tryz.prog.info? 172).get (by kernel_rfl))), by kernel_rfl, (by kernel_rfl : _ = some (((Tryz.prog.info? 172).get (by kernel_rfl)).zero.get (by kernel_rfl))), by kernel_rfl⟩, rfl, ⟨_, Tryz.underlying172, rfl⟩⟩
theorem tyF176 : TyF Tryz.prog 176 ⟨8, .arr 8 3 1, [.lit (.int .i64 0), .lit (.int .i64 0), .lit (.int .i64 0), .lit (.int .i64 0), .lit (.int .i64 0), .lit (.int .i64 0), .lit (.int .i64 0), .lit (.int .i64 0)]⟩ :=
  ⟨⟨_, _, (by kernel_rfl : Tryz.prog.info? 176 = some ((Tryz.prog.info? 176).get (by kernel_rfl))), by kernel_rfl, (by kernel_rfl : _ = some (((Tryz.prog.info? 176).get (by kernel_rfl)).zero.get (by kernel_rfl))), by kernel_rfl⟩, rfl, ⟨Tryz.underlying176, _, (by kernel_rfl : Tryz.prog.info? 3 = some ((Tryz.prog.info? 3).get (by kernel_rfl))), by kernel_rfl⟩⟩
theorem tyF180 : TyF Tryz.prog 180 ⟨4, .st [(0, 1), (1, 1), (2, 1), (3, 1)], [.lit (.bool false), .lit (.int .i64 0), .lit (.bool false), .lit (.int .i64 0)]⟩ :=
  ⟨⟨_, _, (by kernel_rfl : Tryz.prog.info? 180 = some ((Tryz.prog.info? 180).get (by kernel_rfl))), by kernel_rfl, (by kernel_rfl : _ = some (((Tryz.prog.info? 180).get (by kernel_rfl)).zero.get (by kernel_rfl))), by kernel_rfl⟩, rfl, ⟨_, Tryz.underlying180, by kernel_rfl, rfl⟩⟩
theorem tyF188 : TyF Tryz.prog 188 ⟨2, .st [(0, 1), (1, 1)], [.lit (.int .i64 0), .lit (.int .i64 0)]⟩ :=
  ⟨⟨_, _, (by kernel_rfl : Tryz.prog.info? 188 = some ((Tryz.prog.info? 188).get (by kernel_rfl))), by kernel_rfl, (by kernel_rfl : _ = some (((Tryz.prog.info? 188).get (by kernel_rfl)).zero.get (by kernel_rfl))), by kernel_rfl⟩, rfl, ⟨_, Tryz.underlying188, by kernel_rfl, rfl⟩⟩
theorem tyF191 : TyF Tryz.prog 191 ⟨1, .sl 32 1 24, [.sl 32 1]⟩ :=
  ⟨⟨_, _, (by kernel_rfl : Tryz.prog.info? 191 = some ((Tryz.prog.info? 191).get (by kernel_rfl))), by kernel_rfl, (by kernel_rfl : _ = some (((Tryz.prog.info? 191).get (by kernel_rfl)).zero.get (by kernel_rfl))), by kernel_rfl⟩, rfl, ⟨Tryz.underlying191, _, _, (by kernel_rfl : Tryz.prog.info? 32 = some ((Tryz.prog.info? 32).get (by kernel_rfl))), by kernel_rfl, by kernel_rfl, (by kernel_rfl : _ = some (((Tryz.prog.info? 32).get (by kernel_rfl)).zero.get (by kernel_rfl))), by kernel_rfl, by decide⟩⟩
theorem tyF200 : TyF Tryz.prog 200 ⟨1, .sc, [.lit (.int .u32 0)]⟩ :=
  ⟨⟨_, _, (by kernel_rfl : Tryz.prog.info? 200 = some ((Tryz.prog.info? 200).get (by kernel_rfl))), by kernel_rfl, (by kernel_rfl : _ = some (((Tryz.prog.info? 200).get (by kernel_rfl)).zero.get (by kernel_rfl))), by kernel_rfl⟩, rfl, ⟨_, Tryz.underlying200, rfl⟩⟩
theorem tyF201 : TyF Tryz.prog 201 ⟨1, .sc, [.lit (.int .u8 0)]⟩ :=
  ⟨⟨_, _, (by kernel_rfl : Tryz.prog.info? 201 = some ((Tryz.prog.info? 201).get (by kernel_rfl))), by kernel_rfl, (by kernel_rfl : _ = some (((Tryz.prog.info? 201).get (by kernel_rfl)).zero.get (by kernel_rfl))), by kernel_rfl⟩, rfl, ⟨_, Tryz.underlying201, rfl⟩⟩
theorem tyF202 : TyF Tryz.prog 202 ⟨1, .sc, [.lit (.int .u8 0)]⟩ :=
  ⟨⟨_, _, (by kernel_rfl : Tryz.prog.info? 202 = some ((Tryz.prog.info? 202).get (by kernel_rfl))), by kernel_rfl, (by kernel_rfl : _ = some (((Tryz.prog.info? 202).get (by kernel_rfl)).zero.get (by kernel_rfl))), by kernel_rfl⟩, rfl, ⟨_, Tryz.underlying202, rfl⟩⟩
theorem tyF205 : TyF Tryz.prog 205 ⟨1, .sc, [.lit (.int .i32 0)]⟩ :=
  ⟨⟨_, _, (by kernel_rfl : Tryz.prog.info? 205 = some ((Tryz.prog.info? 205).get (by kernel_rfl))), by kernel_rfl, (by kernel_rfl : _ = some (((Tryz.prog.info? 205).get (by kernel_rfl)).zero.get (by kernel_rfl))), by kernel_rfl⟩, rfl, ⟨_, Tryz.underlying205, rfl⟩⟩
theorem tyF206 : TyF Tryz.prog 206 ⟨1, .sc, [.lit (.int .i32 0)]⟩ :=
  ⟨⟨_, _, (by kernel_rfl : Tryz.prog.info? 206 = some ((Tryz.prog.info? 206).get (by kernel_rfl))), by kernel_rfl, (by kernel_rfl : _ = some (((Tryz.prog.info? 206).get (by kernel_rfl)).zero.get (by kernel_rfl))), by kernel_rfl⟩, rfl, ⟨_, Tryz.underlying206, rfl⟩⟩
theorem tyOk : TOk Tryz.prog tyT := by
  intro t i h
  unfold tyT at h
  split at h
  · injection h with h; subst h; exact tyF2
  · injection h with h; subst h; exact tyF3
  · injection h with h; subst h; exact tyF4
  · injection h with h; subst h; exact tyF5
  · injection h with h; subst h; exact tyF6
  · injection h with h; subst h; exact tyF7
  · injection h with h; subst h; exact tyF8
  · injection h with h; subst h; exact tyF12
  · injection h with h; subst h; exact tyF21
  · injection h with h; subst h; exact tyF22
  · injection h with h; subst h; exact tyF23
  · injection h with h; subst h; exact tyF24
  · injection h with h; subst h; exact tyF25
  · injection h with h; subst h; exact tyF26
  · injection h with h; subst h; exact tyF27
  · injection h with h; subst h; exact tyF28
  · injection h with h; subst h; exact tyF29
  · injection h with h; subst h; exact tyF31
  · injection h with h; subst h; exact tyF32
  · injection h with h; subst h; exact tyF33
  · injection h with h; subst h; exact tyF34
  · injection h with h; subst h; exact tyF35
  · injection h with h; subst h; exact tyF36
  · injection h with h; subst h; exact tyF43
  · injection h with h; subst h; exact tyF44
  · injection h with h; subst h; exact tyF46
  · injection h with h; subst h; exact tyF51
  · injection h with h; subst h; exact tyF52
  · injection h with h; subst h; exact tyF53
  · injection h with h; subst h; exact tyF54
  · injection h with h; subst h; exact tyF55
  · injection h with h; subst h; exact tyF56
  · injection h with h; subst h; exact tyF59
  · injection h with h; subst h; exact tyF60
  · injection h with h; subst h; exact tyF61
  · injection h with h; subst h; exact tyF62
  · injection h with h; subst h; exact tyF63
  · injection h with h; subst h; exact tyF64
  · injection h with h; subst h; exact tyF100
  · injection h with h; subst h; exact tyF102
  · injection h with h; subst h; exact tyF103
  · injection h with h; subst h; exact tyF109
  · injection h with h; subst h; exact tyF110
  · injection h with h; subst h; exact tyF128
  · injection h with h; subst h; exact tyF135
  · injection h with h; subst h; exact tyF136
  · injection h with h; subst h; exact tyF140
  · injection h with h; subst h; exact tyF141
  · injection h with h; subst h; exact tyF142
  · injection h with h; subst h; exact tyF143
  · injection h with h; subst h; exact tyF144
  · injection h with h; subst h; exact tyF146
  · injection h with h; subst h; exact tyF147
  · injection h with h; subst h; exact tyF152
  · injection h with h; subst h; exact tyF165
  · injection h with h; subst h; exact tyF169
  · injection h with h; subst h; exact tyF172
  · injection h with h; subst h; exact tyF176
  · injection h with h; subst h; exact tyF180
  · injection h with h; subst h; exact tyF188
  · injection h with h; subst h; exact tyF191
  · injection h with h; subst h; exact tyF200
  · injection h with h; subst h; exact tyF201
  · injection h with h; subst h; exact tyF202
  · injection h with h; subst h; exact tyF205
  · injection h with h; subst h; exact tyF206
  · cases h
end Go.Proofs.YtpmhkpmkmbkjbaaGreatDoor

