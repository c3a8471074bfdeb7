/- The types of the program that the proofs speak of. -/
import Derived.Test.YtfdbjiaghbeedaaGreatDoorProg
import Derived.Test.YtfdbjiaghbeedaaGreatDoorTrc
import Derived.KernelRfl
namespace Go.Proofs.YtfdbjiaghbeedaaGreatDoor
open Go Go.Tr
set_option linter.unusedVariables false
set_option linter.unusedSimpArgs false
set_option maxRecDepth 100000
def tyT : Nat → Option TyI
  | 2 => some ⟨1, .sc, [.lit (.int .i64 0)]⟩
  | 3 => some ⟨1, .sc, [.lit (.int .i64 0)]⟩
  | 4 => some ⟨1, .sc, [.lit (.bool false)]⟩
  | 5 => some ⟨1, .sc, [.lit (.int .u8 0)]⟩
  | 6 => some ⟨1, .sc, [.lit (.int .u8 0)]⟩
  | 7 => some ⟨4, .st [(0, 1), (1, 1), (2, 1), (3, 1)], [.lit (.int .i64 0), .lit (.int .i64 0), .lit (.bool false), .lit (.int .u8 0)]⟩
  | 8 => some ⟨4, .st [(0, 1), (1, 1), (2, 1), (3, 1)], [.lit (.int .i64 0), .lit (.int .i64 0), .lit (.bool false), .lit (.int .u8 0)]⟩
  | 12 => some ⟨1, .sc, [.lit (.int .u64 0)]⟩
  | 21 => some ⟨1, .sc, [.lit (.int .i32 0)]⟩
  | 22 => some ⟨1, .sl 3 1 8, [.sl 3 1]⟩
  | 23 => some ⟨2, .st [(0, 1), (1, 1)], [.sl 3 1, .sl 3 1]⟩
  | 24 => some ⟨2, .st [(0, 1), (1, 1)], [.sl 3 1, .sl 3 1]⟩
  | 25 => some ⟨1, .sl 176 1 24, [.sl 176 1]⟩
  | 26 => some ⟨2, .st [(0, 1), (1, 1)], [.sl 176 1, .sl 176 1]⟩
  | 27 => some ⟨2, .st [(0, 1), (1, 1)], [.sl 176 1, .sl 176 1]⟩
  | 28 => some ⟨4, .st [(0, 2), (2, 2)], [.sl 3 1, .sl 3 1, .sl 176 1, .sl 176 1]⟩
  | 29 => some ⟨4, .st [(0, 2), (2, 2)], [.sl 3 1, .sl 3 1, .sl 176 1, .sl 176 1]⟩
  | 33 => some ⟨2, .st [(0, 1), (1, 1)], [.sl 3 1, .sl 3 1]⟩
  | 34 => some ⟨1, .sl 135 1 24, [.sl 135 1]⟩
  | 35 => some ⟨2, .st [(0, 1), (1, 1)], [.sl 135 1, .sl 135 1]⟩
  | 36 => some ⟨2, .st [(0, 1), (1, 1)], [.sl 135 1, .sl 135 1]⟩
  | 37 => some ⟨4, .st [(0, 2), (2, 2)], [.sl 3 1, .sl 3 1, .sl 135 1, .sl 135 1]⟩
  | 38 => some ⟨4, .st [(0, 2), (2, 2)], [.sl 3 1, .sl 3 1, .sl 135 1, .sl 135 1]⟩
  | 48 => some ⟨1, .sl 98 2 16, [.sl 98 2]⟩
  | 52 => some ⟨3, .st [(0, 1), (1, 1), (2, 1)], [.lit (.int .i64 0), .lit (.int .i64 0), .lit (.int .i64 0)]⟩
  | 53 => some ⟨3, .st [(0, 1), (1, 1), (2, 1)], [.lit (.int .i64 0), .lit (.int .i64 0), .lit (.int .i64 0)]⟩
  | 54 => some ⟨3, .st [(0, 1), (1, 1), (2, 1)], [.lit (.int .i64 0), .lit (.int .i64 0), .lit (.int .i64 0)]⟩
  | 62 => some ⟨1, .sl 191 4 32, [.sl 191 4]⟩
  | 63 => some ⟨2, .st [(0, 1), (1, 1)], [.lit (.int .i64 0), .sl 191 4]⟩
  | 64 => some ⟨2, .st [(0, 1), (1, 1)], [.lit (.int .i64 0), .sl 191 4]⟩
  | 65 => some ⟨1, .sl 158 1 24, [.sl 158 1]⟩
  | 66 => some ⟨8, .st [(0, 4), (4, 2), (6, 1), (7, 1)], [.sl 3 1, .sl 3 1, .sl 176 1, .sl 176 1, .lit (.int .i64 0), .sl 191 4, .sl 158 1, .sl 3 1]⟩
  | 67 => some ⟨8, .st [(0, 4), (4, 2), (6, 1), (7, 1)], [.sl 3 1, .sl 3 1, .sl 176 1, .sl 176 1, .lit (.int .i64 0), .sl 191 4, .sl 158 1, .sl 3 1]⟩
  | 69 => some ⟨1, .sl 118 2 16, [.sl 118 2]⟩
  | 71 => some ⟨1, .sl 188 4 32, [.sl 188 4]⟩
  | 72 => some ⟨2, .st [(0, 1), (1, 1)], [.lit (.int .i64 0), .sl 188 4]⟩
  | 73 => some ⟨2, .st [(0, 1), (1, 1)], [.lit (.int .i64 0), .sl 188 4]⟩
  | 74 => some ⟨1, .sl 169 1 24, [.sl 169 1]⟩
  | 75 => some ⟨8, .st [(0, 4), (4, 2), (6, 1), (7, 1)], [.sl 3 1, .sl 3 1, .sl 135 1, .sl 135 1, .lit (.int .i64 0), .sl 188 4, .sl 169 1, .sl 3 1]⟩
  | 76 => some ⟨8, .st [(0, 4), (4, 2), (6, 1), (7, 1)], [.sl 3 1, .sl 3 1, .sl 135 1, .sl 135 1, .lit (.int .i64 0), .sl 188 4, .sl 169 1, .sl 3 1]⟩
  | 92 => some ⟨3, .st [(0, 1), (1, 1), (2, 1)], [.lit (.int .i64 0), .lit (.int .i64 0), .lit (.int .i64 0)]⟩
  | 93 => some ⟨3, .st [(0, 1), (1, 1), (2, 1)], [.lit (.int .i64 0), .lit (.int .i64 0), .lit (.int .i64 0)]⟩
  | 97 => some ⟨2, .st [(0, 1), (1, 1)], [.lit (.int .i64 0), .lit (.int .i64 0)]⟩
  | 98 => some ⟨2, .st [(0, 1), (1, 1)], [.lit (.int .i64 0), .lit (.int .i64 0)]⟩
  | 117 => some ⟨2, .st [(0, 1), (1, 1)], [.lit (.int .i64 0), .lit (.int .i64 0)]⟩
  | 118 => some ⟨2, .st [(0, 1), (1, 1)], [.lit (.int .i64 0), .lit (.int .i64 0)]⟩
  | 123 => some ⟨8, .st [(0, 8)], [.sl 3 1, .sl 3 1, .sl 135 1, .sl 135 1, .lit (.int .i64 0), .sl 188 4, .sl 169 1, .sl 3 1]⟩
  | 124 => some ⟨8, .st [(0, 8)], [.sl 3 1, .sl 3 1, .sl 135 1, .sl 135 1, .lit (.int .i64 0), .sl 188 4, .sl 169 1, .sl 3 1]⟩
  | 134 => some ⟨1, .st [(0, 1)], [.sl 3 1]⟩
  | 135 => some ⟨1, .st [(0, 1)], [.sl 3 1]⟩
  | 151 => some ⟨3, .arr 3 3 1, [.lit (.int .i64 0), .lit (.int .i64 0), .lit (.int .i64 0)]⟩
  | 156 => some ⟨1, .sl 203 2 16, [.sl 203 2]⟩
  | 157 => some ⟨1, .st [(0, 1)], [.sl 203 2]⟩
  | 158 => some ⟨1, .st [(0, 1)], [.sl 203 2]⟩
  | 162 => some ⟨1, .sl 165 2 16, [.sl 165 2]⟩
  | 164 => some ⟨2, .st [(0, 1), (1, 1)], [.lit (.int .i64 0), .lit (.int .i64 0)]⟩
  | 165 => some ⟨2, .st [(0, 1), (1, 1)], [.lit (.int .i64 0), .lit (.int .i64 0)]⟩
  | 168 => some ⟨1, .st [(0, 1)], [.sl 165 2]⟩
  | 169 => some ⟨1, .st [(0, 1)], [.sl 165 2]⟩
  | 176 => some ⟨1, .st [(0, 1)], [.sl 3 1]⟩
  | 180 => some ⟨8, .arr 8 3 1, [.lit (.int .i64 0), .lit (.int .i64 0), .lit (.int .i64 0), .lit (.int .i64 0), .lit (.int .i64 0), .lit (.int .i64 0), .lit (.int .i64 0), .lit (.int .i64 0)]⟩
  | 183 => some ⟨1, .sc, [.lit (.int .u64 0)]⟩
  | 187 => some ⟨4, .st [(0, 1), (1, 1), (2, 1), (3, 1)], [.lit (.bool false), .lit (.int .i64 0), .lit (.bool false), .lit (.int .i64 0)]⟩
  | 188 => some ⟨4, .st [(0, 1), (1, 1), (2, 1), (3, 1)], [.lit (.bool false), .lit (.int .i64 0), .lit (.bool false), .lit (.int .i64 0)]⟩
  | 191 => some ⟨4, .st [(0, 1), (1, 1), (2, 1), (3, 1)], [.lit (.bool false), .lit (.int .i64 0), .lit (.bool false), .lit (.int .i64 0)]⟩
  | 195 => some ⟨24, .arr 24 4 1, [.lit (.bool false), .lit (.bool false), .lit (.bool false), .lit (.bool false), .lit (.bool false), .lit (.bool false), .lit (.bool false), .lit (.bool false), .lit (.bool false), .lit (.bool false), .lit (.bool false), .lit (.bool false), .lit (.bool false), .lit (.bool false), .lit (.bool false), .lit (.bool false), .lit (.bool false), .lit (.bool false), .lit (.bool false), .lit (.bool false), .lit (.bool false), .lit (.bool false), .lit (.bool false), .lit (.bool false)]⟩
  | 201 => some ⟨1, .sl 5 1 1, [.sl 5 1]⟩
  | 203 => some ⟨2, .st [(0, 1), (1, 1)], [.lit (.int .i64 0), .lit (.int .i64 0)]⟩
  | 206 => some ⟨1, .sl 34 1 24, [.sl 34 1]⟩
  | 215 => some ⟨1, .sc, [.lit (.int .u32 0)]⟩
  | 216 => some ⟨1, .sc, [.lit (.int .u8 0)]⟩
  | 217 => some ⟨1, .sc, [.lit (.int .u8 0)]⟩
  | 220 => some ⟨1, .sc, [.lit (.int .i32 0)]⟩
  | 221 => some ⟨1, .sc, [.lit (.int .i32 0)]⟩
  | _ => none
theorem tyF2 : TyF Tryz.prog 2 ⟨1, .sc, [.lit (.int .i64 0)]⟩ :=
  ⟨⟨_, _, (by kernel_rfl : Tryz.prog.info? 2 = some ((Tryz.prog.info? 2).get (by kernel_rfl))), by kernel_rfl, (by kernel_rfl : _ = some (((Tryz.prog.info? 2).get (by kernel_rfl)).zero.get (by kernel_rfl))), by kernel_rfl⟩, rfl, ⟨_, Tryz.underlying2, rfl⟩⟩
theorem tyF3 : TyF Tryz.prog 3 ⟨1, .sc, [.lit (.int .i64 0)]⟩ :=
  ⟨⟨_, _, (by kernel_rfl : Tryz.prog.info? 3 = some ((Tryz.prog.info? 3).get (by kernel_rfl))), by kernel_rfl, (by kernel_rfl : _ = some (((Tryz.prog.info? 3).get (by kernel_rfl)).zero.get (by kernel_rfl))), by kernel_rfl⟩, rfl, ⟨_, Tryz.underlying3, rfl⟩⟩
theorem tyF4 : TyF Tryz.prog 4 ⟨1, .sc, [.lit (.bool false)]⟩ :=
  ⟨⟨_, _, (by kernel_rfl : Tryz.prog.info? 4 = some ((Tryz.prog.info? 4).get (by kernel_rfl))), by kernel_rfl, (by kernel_rfl : _ = some (((Tryz.prog.info? 4).get (by kernel_rfl)).zero.get (by kernel_rfl))), by kernel_rfl⟩, rfl, ⟨_, Tryz.underlying4, rfl⟩⟩
theorem tyF5 : TyF Tryz.prog 5 ⟨1, .sc, [.lit (.int .u8 0)]⟩ :=
  ⟨⟨_, _, (by kernel_rfl : Tryz.prog.info? 5 = some ((Tryz.prog.info? 5).get (by kernel_rfl))), by kernel_rfl, (by kernel_rfl : _ = some (((Tryz.prog.info? 5).get (by kernel_rfl)).zero.get (by kernel_rfl))), by kernel_rfl⟩, rfl, ⟨_, Tryz.underlying5, rfl⟩⟩
theorem tyF6 : TyF Tryz.prog 6 ⟨1, .sc, [.lit (.int .u8 0)]⟩ :=
  ⟨⟨_, _, (by kernel_rfl : Tryz.prog.info? 6 = some ((Tryz.prog.info? 6).get (by kernel_rfl))), by kernel_rfl, (by kernel_rfl : _ = some (((Tryz.prog.info? 6).get (by kernel_rfl)).zero.get (by kernel_rfl))), by kernel_rfl⟩, rfl, ⟨_, Tryz.underlying6, rfl⟩⟩
theorem tyF7 : TyF Tryz.prog 7 ⟨4, .st [(0, 1), (1, 1), (2, 1), (3, 1)], [.lit (.int .i64 0), .lit (.int .i64 0), .lit (.bool false), .lit (.int .u8 0)]⟩ :=
  ⟨⟨_, _, (by kernel_rfl : Tryz.prog.info? 7 = some ((Tryz.prog.info? 7).get (by kernel_rfl))), by kernel_rfl, (by kernel_rfl : _ = some (((Tryz.prog.info? 7).get (by kernel_rfl)).zero.get (by kernel_rfl))), by kernel_rfl⟩, rfl, ⟨_, Tryz.underlying7, by kernel_rfl, rfl⟩⟩
theorem tyF8 : TyF Tryz.prog 8 ⟨4, .st [(0, 1), (1, 1), (2, 1), (3, 1)], [.lit (.int .i64 0), .lit (.int .i64 0), .lit (.bool false), .lit (.int .u8 0)]⟩ :=
  ⟨⟨_, _, (by kernel_rfl : Tryz.prog.info? 8 = some ((Tryz.prog.info? 8).get (by kernel_rfl))), by kernel_rfl, (by kernel_rfl : _ = some (((Tryz.prog.info? 8).get (by kernel_rfl)).zero.get (by kernel_rfl))), by kernel_rfl⟩, rfl, ⟨_, Tryz.underlying8, by kernel_rfl, rfl⟩⟩
theorem tyF12 : TyF Tryz.prog 12 ⟨1, .sc, [.lit (.int .u64 0)]⟩ :=
  ⟨⟨_, _, (by kernel_rfl : Tryz.prog.info? 12 = some ((Tryz.prog.info? 12).get (by kernel_rfl))), by kernel_rfl, (by kernel_rfl : _ = some (((Tryz.prog.info? 12).get (by kernel_rfl)).zero.get (by kernel_rfl))), by kernel_rfl⟩, rfl, ⟨_, Tryz.underlying12, rfl⟩⟩
theorem tyF21 : TyF Tryz.prog 21 ⟨1, .sc, [.lit (.int .i32 0)]⟩ :=
  ⟨⟨_, _, (by kernel_rfl : Tryz.prog.info? 21 = some ((Tryz.prog.info? 21).get (by kernel_rfl))), by kernel_rfl, (by kernel_rfl : _ = some (((Tryz.prog.info? 21).get (by kernel_rfl)).zero.get (by kernel_rfl))), by kernel_rfl⟩, rfl, ⟨_, Tryz.underlying21, rfl⟩⟩
theorem tyF22 : TyF Tryz.prog 22 ⟨1, .sl 3 1 8, [.sl 3 1]⟩ :=
  ⟨⟨_, _, (by kernel_rfl : Tryz.prog.info? 22 = some ((Tryz.prog.info? 22).get (by kernel_rfl))), by kernel_rfl, (by kernel_rfl : _ = some (((Tryz.prog.info? 22).get (by kernel_rfl)).zero.get (by kernel_rfl))), by kernel_rfl⟩, rfl, ⟨Tryz.underlying22, _, _, (by kernel_rfl : Tryz.prog.info? 3 = some ((Tryz.prog.info? 3).get (by kernel_rfl))), by kernel_rfl, by kernel_rfl, (by kernel_rfl : _ = some (((Tryz.prog.info? 3).get (by kernel_rfl)).zero.get (by kernel_rfl))), by kernel_rfl, by decide, by kernel_rfl⟩⟩
theorem tyF23 : TyF Tryz.prog 23 ⟨2, .st [(0, 1), (1, 1)], [.sl 3 1, .sl 3 1]⟩ :=
  ⟨⟨_, _, (by kernel_rfl : Tryz.prog.info? 23 = some ((Tryz.prog.info? 23).get (by kernel_rfl))), by kernel_rfl, (by kernel_rfl : _ = some (((Tryz.prog.info? 23).get (by kernel_rfl)).zero.get (by kernel_rfl))), by kernel_rfl⟩, rfl, ⟨_, Tryz.underlying23, by kernel_rfl, rfl⟩⟩
theorem tyF24 : TyF Tryz.prog 24 ⟨2, .st [(0, 1), (1, 1)], [.sl 3 1, .sl 3 1]⟩ :=
  ⟨⟨_, _, (by kernel_rfl : Tryz.prog.info? 24 = some ((Tryz.prog.info? 24).get (by kernel_rfl))), by kernel_rfl, (by kernel_rfl : _ = some (((Tryz.prog.info? 24).get (by kernel_rfl)).zero.get (by kernel_rfl))), by kernel_rfl⟩, rfl, ⟨_, Tryz.underlying24, by kernel_rfl, rfl⟩⟩
theorem tyF25 : TyF Tryz.prog 25 ⟨1, .sl 176 1 24, [.sl 176 1]⟩ :=
  ⟨⟨_, _, (by kernel_rfl : Tryz.prog.info? 25 = some ((Tryz.prog.info? 25).get (by kernel_rfl))), by kernel_rfl, (by kernel_rfl : _ = some (((Tryz.prog.info? 25).get (by kernel_rfl)).zero.get (by kernel_rfl))), by kernel_rfl⟩, rfl, ⟨Tryz.underlying25, _, _, (by kernel_rfl : Tryz.prog.info? 176 = some ((Tryz.prog.info? 176).get (by kernel_rfl))), by kernel_rfl, by kernel_rfl, (by kernel_rfl : _ = some (((Tryz.prog.info? 176).get (by kernel_rfl)).zero.get (by kernel_rfl))), by kernel_rfl, by decide, by kernel_rfl⟩⟩
theorem tyF26 : TyF Tryz.prog 26 ⟨2, .st [(0, 1), (1, 1)], [.sl 176 1, .sl 176 1]⟩ :=
  ⟨⟨_, _, (by kernel_rfl : Tryz.prog.info? 26 = some ((Tryz.prog.info? 26).get (by kernel_rfl))), by kernel_rfl, (by kernel_rfl : _ = some (((Tryz.prog.info? 26).get (by kernel_rfl)).zero.get (by kernel_rfl))), by kernel_rfl⟩, rfl, ⟨_, Tryz.underlying26, by kernel_rfl, rfl⟩⟩
theorem tyF27 : TyF Tryz.prog 27 ⟨2, .st [(0, 1), (1, 1)], [.sl 176 1, .sl 176 1]⟩ :=
  ⟨⟨_, _, (by kernel_rfl : Tryz.prog.info? 27 = some ((Tryz.prog.info? 27).get (by kernel_rfl))), by kernel_rfl, (by kernel_rfl : _ = some (((Tryz.prog.info? 27).get (by kernel_rfl)).zero.get (by kernel_rfl))), by kernel_rfl⟩, rfl, ⟨_, Tryz.underlying27, by kernel_rfl, rfl⟩⟩
theorem tyF28 : TyF Tryz.prog 28 ⟨4, .st [(0, 2), (2, 2)], [.sl 3 1, .sl 3 1, .sl 176 1, .sl 176 1]⟩ :=
  ⟨⟨_, _, (by kernel_rfl : Tryz.prog.info? 28 = some ((Tryz.prog.info? 28).get (by kernel_rfl))), by kernel_rfl, (by kernel_rfl : _ = some (((Tryz.prog.info? 28).get (by kernel_rfl)).zero.get (by kernel_rfl))), by kernel_rfl⟩, rfl, ⟨_, Tryz.underlying28, by kernel_rfl, rfl⟩⟩
theorem tyF29 : TyF Tryz.prog 29 ⟨4, .st [(0, 2), (2, 2)], [.sl 3 1, .sl 3 1, .sl 176 1, .sl 176 1]⟩ :=
  ⟨⟨_, _, (by kernel_rfl : Tryz.prog.info? 29 = some ((Tryz.prog.info? 29).get (by kernel_rfl))), by kernel_rfl, (by kernel_rfl : _ = some (((Tryz.prog.info? 29).get (by kernel_rfl)).zero.get (by kernel_rfl))), by kernel_rfl⟩, rfl, ⟨_, Tryz.underlying29, by kernel_rfl, rfl⟩⟩
theorem tyF33 : TyF Tryz.prog 33 ⟨2, .st [(0, 1), (1, 1)], [.sl 3 1, .sl 3 1]⟩ :=
  ⟨⟨_, _, (by kernel_rfl : Tryz.prog.info? 33 = some ((Tryz.prog.info? 33).get (by kernel_rfl))), by kernel_rfl, (by kernel_rfl : _ = some (((Tryz.prog.info? 33).get (by kernel_rfl)).zero.get (by kernel_rfl))), by kernel_rfl⟩, rfl, ⟨_, Tryz.underlying33, by kernel_rfl, rfl⟩⟩
theorem tyF34 : TyF Tryz.prog 34 ⟨1, .sl 135 1 24, [.sl 135 1]⟩ :=
  ⟨⟨_, _, (by kernel_rfl : Tryz.prog.info? 34 = some ((Tryz.prog.info? 34).get (by kernel_rfl))), by kernel_rfl, (by kernel_rfl : _ = some (((Tryz.prog.info? 34).get (by kernel_rfl)).zero.get (by kernel_rfl))), by kernel_rfl⟩, rfl, ⟨Tryz.underlying34, _, _, (by kernel_rfl : Tryz.prog.info? 135 = some ((Tryz.prog.info? 135).get (by kernel_rfl))), by kernel_rfl, by kernel_rfl, (by kernel_rfl : _ = some (((Tryz.prog.info? 135).get (by kernel_rfl)).zero.get (by kernel_rfl))), by kernel_rfl, by decide, by kernel_rfl⟩⟩
theorem tyF35 : TyF Tryz.prog 35 ⟨2, .st [(0, 1), (1, 1)], [.sl 135 1, .sl 135 1]⟩ :=
  ⟨⟨_, _, (by kernel_rfl : Tryz.prog.info? 35 = some ((Tryz.prog.info? 35).get (by kernel_rfl))), by kernel_rfl, (by kernel_rfl : _ = some (((Tryz.prog.info? 35).get (by kernel_rfl)).zero.get (by kernel_rfl))), by kernel_rfl⟩, rfl, ⟨_, Tryz.underlying35, by kernel_rfl, rfl⟩⟩
theorem tyF36 : TyF Tryz.prog 36 ⟨2, .st [(0, 1), (1, 1)], [.sl 135 1, .sl 135 1]⟩ :=
  ⟨⟨_, _, (by kernel_rfl : Tryz.prog.info? 36 = some ((Tryz.prog.info? 36).get (by kernel_rfl))), by kernel_rfl, (by kernel_rfl : _ = some (((Tryz.prog.info? 36).get (by kernel_rfl)).zero.get (by kernel_rfl))), by kernel_rfl⟩, rfl, ⟨_, Tryz.underlying36, by kernel_rfl, rfl⟩⟩
theorem tyF37 : TyF Tryz.prog 37 ⟨4, .st [(0, 2), (2, 2)], [.sl 3 1, .sl 3 1, .sl 135 1, .sl 135 1]⟩ :=
  ⟨⟨_, _, (by kernel_rfl : Tryz.prog.info? 37 = some ((Tryz.prog.info? 37).get (by kernel_rfl))), by kernel_rfl, (by kernel_rfl : _ = some (((Tryz.prog.info? 37).get (by kernel_rfl)).zero.get (by kernel_rfl))), by kernel_rfl⟩, rfl, ⟨_, Tryz.underlying37, by kernel_rfl, rfl⟩⟩
theorem tyF38 : TyF Tryz.prog 38 ⟨4, .st [(0, 2), (2, 2)], [.sl 3 1, .sl 3 1, .sl 135 1, .sl 135 1]⟩ :=
  ⟨⟨_, _, (by kernel_rfl : Tryz.prog.info? 38 = some ((Tryz.prog.info? 38).get (by kernel_rfl))), by kernel_rfl, (by kernel_rfl : _ = some (((Tryz.prog.info? 38).get (by kernel_rfl)).zero.get (by kernel_rfl))), by kernel_rfl⟩, rfl, ⟨_, Tryz.underlying38, by kernel_rfl, rfl⟩⟩
theorem tyF48 : TyF Tryz.prog 48 ⟨1, .sl 98 2 16, [.sl 98 2]⟩ :=
  ⟨⟨_, _, (by kernel_rfl : Tryz.prog.info? 48 = some ((Tryz.prog.info? 48).get (by kernel_rfl))), by kernel_rfl, (by kernel_rfl : _ = some (((Tryz.prog.info? 48).get (by kernel_rfl)).zero.get (by kernel_rfl))), by kernel_rfl⟩, rfl, ⟨Tryz.underlying48, _, _, (by kernel_rfl : Tryz.prog.info? 98 = some ((Tryz.prog.info? 98).get (by kernel_rfl))), by kernel_rfl, by kernel_rfl, (by kernel_rfl : _ = some (((Tryz.prog.info? 98).get (by kernel_rfl)).zero.get (by kernel_rfl))), by kernel_rfl, by decide, by kernel_rfl⟩⟩
theorem tyF52 : TyF Tryz.prog 52 ⟨3, .st [(0, 1), (1, 1), (2, 1)], [.lit (.int .i64 0), .lit (.int .i64 0), .lit (.int .i64 0)]⟩ :=
  ⟨⟨_, _, (by kernel_rfl : Tryz.prog.info? 52 = some ((Tryz.prog.info? 52).get (by kernel_rfl))), by kernel_rfl, (by kernel_rfl : _ = some (((Tryz.prog.info? 52).get (by kernel_rfl)).zero.get (by kernel_rfl))), by kernel_rfl⟩, rfl, ⟨_, Tryz.underlying52, by kernel_rfl, rfl⟩⟩
theorem tyF53 : TyF Tryz.prog 53 ⟨3, .st [(0, 1), (1, 1), (2, 1)], [.lit (.int .i64 0), .lit (.int .i64 0), .lit (.int .i64 0)]⟩ :=
  ⟨⟨_, _, (by kernel_rfl : Tryz.prog.info? 53 = some ((Tryz.prog.info? 53).get (by kernel_rfl))), by kernel_rfl, (by kernel_rfl : _ = some (((Tryz.prog.info? 53).get (by kernel_rfl)).zero.get (by kernel_rfl))), by kernel_rfl⟩, rfl, ⟨_, Tryz.underlying53, by kernel_rfl, rfl⟩⟩
theorem tyF54 : TyF Tryz.prog 54 ⟨3, .st [(0, 1), (1, 1), (2, 1)], [.lit (.int .i64 0), .lit (.int .i64 0), .lit (.int .i64 0)]⟩ :=
  ⟨⟨_, _, (by kernel_rfl : Tryz.prog.info? 54 = some ((Tryz.prog.info? 54).get (by kernel_rfl))), by kernel_rfl, (by kernel_rfl : _ = some (((Tryz.prog.info? 54).get (by kernel_rfl)).zero.get (by kernel_rfl))), by kernel_rfl⟩, rfl, ⟨_, Tryz.underlying54, by kernel_rfl, rfl⟩⟩
theorem tyF62 : TyF Tryz.prog 62 ⟨1, .sl 191 4 32, [.sl 191 4]⟩ :=
  ⟨⟨_, _, (by kernel_rfl : Tryz.prog.info? 62 = some ((Tryz.prog.info? 62).get (by kernel_rfl))), by kernel_rfl, (by kernel_rfl : _ = some (((Tryz.prog.info? 62).get (by kernel_rfl)).zero.get (by kernel_rfl))), by kernel_rfl⟩, rfl, ⟨Tryz.underlying62, _, _, (by kernel_rfl : Tryz.prog.info? 191 = some ((Tryz.prog.info? 191).get (by kernel_rfl))), by kernel_rfl, by kernel_rfl, (by kernel_rfl : _ = some (((Tryz.prog.info? 191).get (by kernel_rfl)).zero.get (by kernel_rfl))), by kernel_rfl, by decide, by kernel_rfl⟩⟩
theorem tyF63 : TyF Tryz.prog 63 ⟨2, .st [(0, 1), (1, 1)], [.lit (.int .i64 0), .sl 191 4]⟩ :=
  ⟨⟨_, _, (by kernel_rfl : Tryz.prog.info? 63 = some ((Tryz.prog.info? 63).get (by kernel_rfl))), by kernel_rfl, (by kernel_rfl : _ = some (((Tryz.prog.info? 63).get (by kernel_rfl)).zero.get (by kernel_rfl))), by kernel_rfl⟩, rfl, ⟨_, Tryz.underlying63, by kernel_rfl, rfl⟩⟩
theorem tyF64 : TyF Tryz.prog 64 ⟨2, .st [(0, 1), (1, 1)], [.lit (.int .i64 0), .sl 191 4]⟩ :=
  ⟨⟨_, _, (by kernel_rfl : Tryz.prog.info? 64 = some ((Tryz.prog.info? 64).get (by kernel_rfl))), by kernel_rfl, (by kernel_rfl : _ = some (((Tryz.prog.info? 64).get (by kernel_rfl)).zero.get (by kernel_rfl))), by kernel_rfl⟩, rfl, ⟨_, Tryz.underlying64, by kernel_rfl, rfl⟩⟩
theorem tyF65 : TyF Tryz.prog 65 ⟨1, .sl 158 1 24, [.sl 158 1]⟩ :=
  ⟨⟨_, _, (by kernel_rfl : Tryz.prog.info? 65 = some ((Tryz.prog.info? 65).get (by kernel_rfl))), by kernel_rfl, (by kernel_rfl : _ = some (((Tryz.prog.info? 65).get (by kernel_rfl)).zero.get (by kernel_rfl))), by kernel_rfl⟩, rfl, ⟨Tryz.underlying65, _, _, (by kernel_rfl : Tryz.prog.info? 158 = some ((Tryz.prog.info? 158).get (by kernel_rfl))), by kernel_rfl, by kernel_rfl, (by kernel_rfl : _ = some (((Tryz.prog.info? 158).get (by kernel_rfl)).zero.get (by kernel_rfl))), by kernel_rfl, by decide, by kernel_rfl⟩⟩
theorem tyF66 : TyF Tryz.prog 66 ⟨8, .st [(0, 4), (4, 2), (6, 1), (7, 1)], [.sl 3 1, .sl 3 1, .sl 176 1, .sl 176 1, .lit (.int .i64 0), .sl 191 4, .sl 158 1, .sl 3 1]⟩ :=
  ⟨⟨_, _, (by kernel_rfl : Tryz.prog.info? 66 = some ((Tryz.prog.info? 66).get (by kernel_rfl))), by kernel_rfl, (by kernel_rfl : _ = some (((Tryz.prog.info? 66).get (by kernel_rfl)).zero.get (by kernel_rfl))), by kernel_rfl⟩, rfl, ⟨_, Tryz.underlying66, by kernel_rfl, rfl⟩⟩
theorem tyF67 : TyF Tryz.prog 67 ⟨8, .st [(0, 4), (4, 2), (6, 1), (7, 1)], [.sl 3 1, .sl 3 1, .sl 176 1, .sl 176 1, .lit (.int .i64 0), .sl 191 4, .sl 158 1, .sl 3 1]⟩ :=
  ⟨⟨_, _, (by kernel_rfl : Tryz.prog.info? 67 = some ((Tryz.prog.info? 67).get (by kernel_rfl))), by kernel_rfl, (by kernel_rfl : _ = some (((Tryz.prog.info? 67).get (by kernel_rfl)).zero.get (by kernel_rfl))), by kernel_rfl⟩, rfl, ⟨_, Tryz.underlying67, by kernel_rfl, rfl⟩⟩
theorem tyF69 : TyF Tryz.prog 69 ⟨1, .sl 118 2 16, [.sl 118 2]⟩ :=
  ⟨⟨_, _, (by kernel_rfl : Tryz.prog.info? 69 = some ((Tryz.prog.info? 69).get (by kernel_rfl))), by kernel_rfl, (by kernel_rfl : _ = some (((Tryz.prog.info? 69).get (by kernel_rfl)).zero.get (by kernel_rfl))), by kernel_rfl⟩, rfl, ⟨Tryz.underlying69, _, _, (by kernel_rfl : Tryz.prog.info? 118 = some ((Tryz.prog.info? 118).get (by kernel_rfl))), by kernel_rfl, by kernel_rfl, (by kernel_rfl : _ = some (((Tryz.prog.info? 118).get (by kernel_rfl)).zero.get (by kernel_rfl))), by kernel_rfl, by decide, by kernel_rfl⟩⟩
theorem tyF71 : TyF Tryz.prog 71 ⟨1, .sl 188 4 32, [.sl 188 4]⟩ :=
  ⟨⟨_, _, (by kernel_rfl : Tryz.prog.info? 71 = some ((Tryz.prog.info? 71).get (by kernel_rfl))), by kernel_rfl, (by kernel_rfl : _ = some (((Tryz.prog.info? 71).get (by kernel_rfl)).zero.get (by kernel_rfl))), by kernel_rfl⟩, rfl, ⟨Tryz.underlying71, _, _, (by kernel_rfl : Tryz.prog.info? 188 = some ((Tryz.prog.info? 188).get (by kernel_rfl))), by kernel_rfl, by kernel_rfl, (by kernel_rfl : _ = some (((Tryz.prog.info? 188).get (by kernel_rfl)).zero.get (by kernel_rfl))), by kernel_rfl, by decide, by kernel_rfl⟩⟩
theorem tyF72 : TyF Tryz.prog 72 ⟨2, .st [(0, 1), (1, 1)], [.lit (.int .i64 0), .sl 188 4]⟩ :=
  ⟨⟨_, _, (by kernel_rfl : Tryz.prog.info? 72 = some ((Tryz.prog.info? 72).get (by kernel_rfl))), by kernel_rfl, (by kernel_rfl : _ = some (((Tryz.prog.info? 72).get (by kernel_rfl)).zero.get (by kernel_rfl))), by kernel_rfl⟩, rfl, ⟨_, Tryz.underlying72, by kernel_rfl, rfl⟩⟩
theorem tyF73 : TyF Tryz.prog 73 ⟨2, .st [(0, 1), (1, 1)], [.lit (.int .i64 0), .sl 188 4]⟩ :=
  ⟨⟨_, _, (by kernel_rfl : Tryz.prog.info? 73 = some ((Tryz.prog.info? 73).get (by kernel_rfl))), by kernel_rfl, (by kernel_rfl : _ = some (((Tryz.prog.info? 73).get (by kernel_rfl)).zero.get (by kernel_rfl))), by kernel_rfl⟩, rfl, ⟨_, Tryz.underlying73, by kernel_rfl, rfl⟩⟩
theorem tyF74 : TyF Tryz.prog 74 ⟨1, .sl 169 1 24, [.sl 169 1]⟩ :=
  ⟨⟨_, _, (by kernel_rfl : Tryz.prog.info? 74 = some ((Tryz.prog.info? 74).get (by kernel_rfl))), by kernel_rfl, (by kernel_rfl : _ = some (((Tryz.prog.info? 74).get (by kernel_rfl)).zero.get (by kernel_rfl))), by kernel_rfl⟩, rfl, ⟨Tryz.underlying74, _, _, (by kernel_rfl : Tryz.prog.info? 169 = some ((Tryz.prog.info? 169).get (by kernel_rfl))), by kernel_rfl, by kernel_rfl, (by kernel_rfl : _ = some (((Tryz.prog.info? 169).get (by kernel_rfl)).zero.get (by kernel_rfl))), by kernel_rfl, by decide, by kernel_rfl⟩⟩
theorem tyF75 : TyF Tryz.prog 75 ⟨8, .st [(0, 4), (4, 2), (6, 1), (7, 1)], [.sl 3 1, .sl 3 1, .sl 135 1, .sl 135 1, .lit (.int .i64 0), .sl 188 4, .sl 169 1, .sl 3 1]⟩ :=
  ⟨⟨_, _, (by kernel_rfl : Tryz.prog.info? 75 = some ((Tryz.prog.info? 75).get (by kernel_rfl))), by kernel_rfl, (by kernel_rfl : _ = some (((Tryz.prog.info? 75).get (by kernel_rfl)).zero.get (by kernel_rfl))), by kernel_rfl⟩, rfl, ⟨_, Tryz.underlying75, by kernel_rfl, rfl⟩⟩
theorem tyF76 : TyF Tryz.prog 76 ⟨8, .st [(0, 4), (4, 2), (6, 1), (7, 1)], [.sl 3 1, .sl 3 1, .sl 135 1, .sl 135 1, .lit (.int .i64 0), .sl 188 4, .sl 169 1, .sl 3 1]⟩ :=
  ⟨⟨_, _, (by kernel_rfl : Tryz.prog.info? 76 = some ((Tryz.prog.info? 76).get (by kernel_rfl))), by kernel_rfl, (by kernel_rfl : _ = some (((Tryz.prog.info? 76).get (by kernel_rfl)).zero.get (by kernel_rfl))), by kernel_rfl⟩, rfl, ⟨_, Tryz.underlying76, by kernel_rfl, rfl⟩⟩
theorem tyF92 : TyF Tryz.prog 92 ⟨3, .st [(0, 1), (1, 1), (2, 1)], [.lit (.int .i64 0), .lit (.int .i64 0), .lit (.int .i64 0)]⟩ :=
  ⟨⟨_, _, (by kernel_rfl : Tryz.prog.info? 92 = some ((Tryz.prog.info? 92).get (by kernel_rfl))), by kernel_rfl, (by kernel_rfl : _ = some (((Tryz.prog.info? 92).get (by kernel_rfl)).zero.get (by kernel_rfl))), by kernel_rfl⟩, rfl, ⟨_, Tryz.underlying92, by kernel_rfl, rfl⟩⟩
theorem tyF93 : TyF Tryz.prog 93 ⟨3, .st [(0, 1), (1, 1), (2, 1)], [.lit (.int .i64 0), .lit (.int .i64 0), .lit (.int .i64 0)]⟩ :=
  ⟨⟨_, _, (by kernel_rfl : Tryz.prog.info? 93 = some ((Tryz.prog.info? 93).get (by kernel_rfl))), by kernel_rfl, (by kernel_rfl : _ = some (((Tryz.prog.info? 93).get (by kernel_rfl)).zero.get (by kernel_rfl))), by kernel_rfl⟩, rfl, ⟨_, Tryz.underlying93, by kernel_rfl, rfl⟩⟩
theorem tyF97 : TyF Tryz.prog 97 ⟨2, .st [(0, 1), (1, 1)], [.lit (.int .i64 0), .lit (.int .i64 0)]⟩ :=
  ⟨⟨_, _, (by kernel_rfl : Tryz.prog.info? 97 = some ((Tryz.prog.info? 97).get (by kernel_rfl))), by kernel_rfl, (by kernel_rfl : _ = some (((Tryz.prog.info? 97).get (by kernel_rfl)).zero.get (by kernel_rfl))), by kernel_rfl⟩, rfl, ⟨_, Tryz.underlying97, by kernel_rfl, rfl⟩⟩
theorem tyF98 : TyF Tryz.prog 98 ⟨2, .st [(0, 1), (1, 1)], [.lit (.int .i64 0), .lit (.int .i64 0)]⟩ :=
  ⟨⟨_, _, (by kernel_rfl : Tryz.prog.info? 98 = some ((Tryz.prog.info? 98).get (by kernel_rfl))), by kernel_rfl, (by kernel_rfl : _ = some (((Tryz.prog.info? 98).get (by kernel_rfl)).zero.get (by kernel_rfl))), by kernel_rfl⟩, rfl, ⟨_, Tryz.underlying98, by kernel_rfl, rfl⟩⟩
theorem tyF117 : TyF Tryz.prog 117 ⟨2, .st [(0, 1), (1, 1)], [.lit (.int .i64 0), .lit (.int .i64 0)]⟩ :=
  ⟨⟨_, _, (by kernel_rfl : Tryz.prog.info? 117 = some ((Tryz.prog.info? 117).get (by kernel_rfl))), by kernel_rfl, (by kernel_rfl : _ = some (((Tryz.prog.info? 117).get (by kernel_rfl)).zero.get (by kernel_rfl))), by kernel_rfl⟩, rfl, ⟨_, Tryz.underlying117, by kernel_rfl, rfl⟩⟩
theorem tyF118 : TyF Tryz.prog 118 ⟨2, .st [(0, 1), (1, 1)], [.lit (.int .i64 0), .lit (.int .i64 0)]⟩ :=
  ⟨⟨_, _, (by kernel_rfl : Tryz.prog.info? 118 = some ((Tryz.prog.info? 118).get (by kernel_rfl))), by kernel_rfl, (by kernel_rfl : _ = some (((Tryz.prog.info? 118).get (by kernel_rfl)).zero.get (by kernel_rfl))), by kernel_rfl⟩, rfl, ⟨_, Tryz.underlying118, by kernel_rfl, rfl⟩⟩
theorem tyF123 : TyF Tryz.prog 123 ⟨8, .st [(0, 8)], [.sl 3 1, .sl 3 1, .sl 135 1, .sl 135 1, .lit (.int .i64 0), .sl 188 4, .sl 169 1, .sl 3 1]⟩ :=
  ⟨⟨_, _, (by kernel_rfl : Tryz.prog.info? 123 = some ((Tryz.prog.info? 123).get (by kernel_rfl))), by kernel_rfl, (by kernel_rfl : _ = some (((Tryz.prog.info? 123).get (by kernel_rfl)).zero.get (by kernel_rfl))), by kernel_rfl⟩, rfl, ⟨_, Tryz.underlying123, by kernel_rfl, rfl⟩⟩
theorem tyF124 : TyF Tryz.prog 124 ⟨8, .st [(0, 8)], [.sl 3 1, .sl 3 1, .sl 135 1, .sl 135 1, .lit (.int .i64 0), .sl 188 4, .sl 169 1, .sl 3 1]⟩ :=
  ⟨⟨_, _, (by kernel_rfl : Tryz.prog.info? 124 = some ((Tryz.prog.info? 124).get (by kernel_rfl))), by kernel_rfl, (by kernel_rfl : _ = some (((Tryz.prog.info? 124).get (by kernel_rfl)).zero.get (by kernel_rfl))), by kernel_rfl⟩, rfl, ⟨_, Tryz.underlying124, by kernel_rfl, rfl⟩⟩
theorem tyF134 : TyF Tryz.prog 134 ⟨1, .st [(0, 1)], [.sl 3 1]⟩ :=
  ⟨⟨_, _, (by kernel_rfl : Tryz.prog.info? 134 = some ((Tryz.prog.info? 134).get (by kernel_rfl))), by kernel_rfl, (by kernel_rfl : _ = some (((Tryz.prog.info? 134).get (by kernel_rfl)).zero.get (by kernel_rfl))), by kernel_rfl⟩, rfl, ⟨_, Tryz.underlying134, by kernel_rfl, rfl⟩⟩
theorem tyF135 : TyF Tryz.prog 135 ⟨1, .st [(0, 1)], [.sl 3 1]⟩ :=
  ⟨⟨_, _, (by kernel_rfl : Tryz.prog.info? 135 = some ((Tryz.prog.info? 135).get (by kernel_rfl))), by kernel_rfl, (by kernel_rfl : _ = some (((Tryz.prog.info? 135).get (by kernel_rfl)).zero.get (by kernel_rfl))), by kernel_rfl⟩, rfl, ⟨_, Tryz.underlying135, by kernel_rfl, rfl⟩⟩
theorem tyF151 : TyF Tryz.prog 151 ⟨3, .arr 3 3 1, [.lit (.int .i64 0), .lit (.int .i64 0), .lit (.int .i64 0)]⟩ :=
  ⟨⟨_, _, (by kernel_rfl : Tryz.prog.info? 151 = some ((Tryz.prog.info? 151).get (by kernel_rfl))), by kernel_rfl, (by kernel_rfl : _ = some (((Tryz.prog.info? 151).get (by kernel_rfl)).zero.get (by kernel_rfl))), by kernel_rfl⟩, rfl, ⟨Tryz.underlying151, _, (by kernel_rfl : Tryz.prog.info? 3 = some ((Tryz.prog.info? 3).get (by kernel_rfl))), by kernel_rfl⟩⟩
theorem tyF156 : TyF Tryz.prog 156 ⟨1, .sl 203 2 16, [.sl 203 2]⟩ :=
  ⟨⟨_, _, (by kernel_rfl : Tryz.prog.info? 156 = some ((Tryz.prog.info? 156).get (by kernel_rfl))), by kernel_rfl, (by kernel_rfl : _ = some (((Tryz.prog.info? 156).get (by kernel_rfl)).zero.get (by kernel_rfl))), by kernel_rfl⟩, rfl, ⟨Tryz.underlying156, _, _, (by kernel_rfl : Tryz.prog.info? 203 = some ((Tryz.prog.info? 203).get (by kernel_rfl))), by kernel_rfl, by kernel_rfl, (by kernel_rfl : _ = some (((Tryz.prog.info? 203).get (by kernel_rfl)).zero.get (by kernel_rfl))), by kernel_rfl, by decide, by kernel_rfl⟩⟩
theorem tyF157 : TyF Tryz.prog 157 ⟨1, .st [(0, 1)], [.sl 203 2]⟩ :=
  ⟨⟨_, _, (by kernel_rfl : Tryz.prog.info? 157 = some ((Tryz.prog.info? 157).get (by kernel_rfl))), by kernel_rfl, (by kernel_rfl : _ = some (((Tryz.prog.info? 157).get (by kernel_rfl)).zero.get (by kernel_rfl))), by kernel_rfl⟩, rfl, ⟨_, Tryz.underlying157, by kernel_rfl, rfl⟩⟩
theorem tyF158 : TyF Tryz.prog 158 ⟨1, .st [(0, 1)], [.sl 203 2]⟩ :=
  ⟨⟨_, _, (by kernel_rfl : Tryz.prog.info? 158 = some ((Tryz.prog.info? 158).get (by kernel_rfl))), by kernel_rfl, (by kernel_rfl : _ = some (((Tryz.prog.info? 158).get (by kernel_rfl)).zero.get (by kernel_rfl))), by kernel_rfl⟩, rfl, ⟨_, Tryz.underlying158, by kernel_rfl, rfl⟩⟩
theorem tyF162 : TyF Tryz.prog 162 ⟨1, .sl 165 2 16, [.sl 165 2]⟩ :=
  ⟨⟨_, _, (by kernel_rfl : Tryz.prog.info? 162 = some ((Tryz.prog.info? 162).get (by kernel_rfl))), by kernel_rfl, (by kernel_rfl : _ = some (((Tryz.prog.info? 162).get (by kernel_rfl)).zero.get (by kernel_rfl))), by kernel_rfl⟩, rfl, ⟨Tryz.underlying162, _, _, (by kernel_rfl : Tryz.prog.info? 165 = some ((Tryz.prog.info? 165).get (by kernel_rfl))), by kernel_rfl, by kernel_rfl, (by kernel_rfl : _ = some (((Tryz.prog.info? 165).get (by kernel_rfl)).zero.get (by kernel_rfl))), by kernel_rfl, by decide, by kernel_rfl⟩⟩
theorem tyF164 : TyF Tryz.prog 164 ⟨2, .st [(0, 1), (1, 1)], [.lit (.int .i64 0), .lit (.int .i64 0)]⟩ :=
  ⟨⟨_, _, (by kernel_rfl : Tryz.prog.info? 164 = some ((Tryz.prog.info? 164).get (by kernel_rfl))), by kernel_rfl, (by kernel_rfl : _ = some (((Tryz.prog.info? 164).get (by kernel_rfl)).zero.get (by kernel_rfl))), by kernel_rfl⟩, rfl, ⟨_, Tryz.underlying164, by kernel_rfl, rfl⟩⟩
theorem tyF165 : TyF Tryz.prog 165 ⟨2, .st [(0, 1), (1, 1)], [.lit (.int .i64 0), .lit (.int .i64 0)]⟩ :=
  ⟨⟨_, _, (by kernel_rfl : Tryz.prog.info? 165 = some ((Tryz.prog.info? 165).get (by kernel_rfl))), by kernel_rfl, (by kernel_rfl : _ = some (((Tryz.prog.info? 165).get (by kernel_rfl)).zero.get (by kernel_rfl))), by kernel_rfl⟩, rfl, ⟨_, Tryz.underlying165, by kernel_rfl, rfl⟩⟩
theorem tyF168 : TyF Tryz.prog 168 ⟨1, .st [(0, 1)], [.sl 165 2]⟩ :=
  ⟨⟨_, _, (by kernel_rfl : Tryz.prog.info? 168 = some ((Tryz.prog.info? 168).get (by kernel_rfl))), by kernel_rfl, (by kernel_rfl : _ = some (((Tryz.prog.info? 168).get (by kernel_rfl)).zero.get (by kernel_rfl))), by kernel_rfl⟩, rfl, ⟨_, Tryz.underlying168, by kernel_rfl, rfl⟩⟩
theorem tyF169 : TyF Tryz.prog 169 ⟨1, .st [(0, 1)], [.sl 165 2]⟩ :=
  ⟨⟨_, _, (by kernel_rfl : Tryz.prog.info? 169 = some ((Tryz.prog.info? 169).get (by kernel_rfl))), by kernel_rfl, (by kernel_rfl : _ = some (((Tryz.prog.info? 169).get (by kernel_rfl)).zero.get (by kernel_rfl))), by kernel_rfl⟩, rfl, ⟨_, Tryz.underlying169, by kernel_rfl, rfl⟩⟩
theorem tyF176 : TyF Tryz.prog 176 ⟨1, .st [(0, 1)], [.sl 3 1]⟩ :=
  ⟨⟨_, _, (by kernel_rfl : Tryz.prog.info? 176 = some ((Tryz.prog.info? 176).get (by kernel_rfl))), by kernel_rfl, (by kernel_rfl : _ = some (((Tryz.prog.info? 176).get (by kernel_rfl)).zero.get (by kernel_rfl))), by kernel_rfl⟩, rfl, ⟨_, Tryz.underlying176, by kernel_rfl, rfl⟩⟩
theorem tyF180 : TyF Tryz.prog 180 ⟨8, .arr 8 3 1, [.lit (.int .i64 0), .lit (.int .i64 0), .lit (.int .i64 0), .lit (.int .i64 0), .lit (.int .i64 0), .lit (.int .i64 0), .lit (.int .i64 0), .lit (.int .i64 0)]⟩ :=
  ⟨⟨_, _, (by kernel_rfl : Tryz.prog.info? 180 = some ((Tryz.prog.info? 180).get (by kernel_rfl))), by kernel_rfl, (by kernel_rfl : _ = some (((Tryz.prog.info? 180).get (by kernel_rfl)).zero.get (by kernel_rfl))), by kernel_rfl⟩, rfl, ⟨Tryz.underlying180, _, (by kernel_rfl : Tryz.prog.info? 3 = some ((Tryz.prog.info? 3).get (by kernel_rfl))), by kernel_rfl⟩⟩
theorem tyF183 : TyF Tryz.prog 183 ⟨1, .sc, [.lit (.int .u64 0)]⟩ :=
  ⟨⟨_, _, (by kernel_rfl : Tryz.prog.info? 183 = some ((Tryz.prog.info? 183).get (by kernel_rfl))), by kernel_rfl, (by kernel_rfl : _ = some (((Tryz.prog.info? 183).get (by kernel_rfl)).zero.get (by kernel_rfl))), by kernel_rfl⟩, rfl, ⟨_, Tryz.underlying183, rfl⟩⟩
theorem tyF187 : TyF Tryz.prog 187 ⟨4, .st [(0, 1), (1, 1), (2, 1), (3, 1)], [.lit (.bool false), .lit (.int .i64 0), .lit (.bool false), .lit (.int .i64 0)]⟩ :=
  ⟨⟨_, _, (by kernel_rfl : Tryz.prog.info? 187 = some ((Tryz.prog.info? 187).get (by kernel_rfl))), by kernel_rfl, (by kernel_rfl : _ = some (((Tryz.prog.info? 187).get (by kernel_rfl)).zero.get (by kernel_rfl))), by kernel_rfl⟩, rfl, ⟨_, Tryz.underlying187, by kernel_rfl, rfl⟩⟩
theorem tyF188 : TyF Tryz.prog 188 ⟨4, .st [(0, 1), (1, 1), (2, 1), (3, 1)], [.lit (.bool false), .lit (.int .i64 0), .lit (.bool false), .lit (.int .i64 0)]⟩ :=
  ⟨⟨_, _, (by kernel_rfl : Tryz.prog.info? 188 = some ((Tryz.prog.info? 188).get (by kernel_rfl))), by kernel_rfl, (by kernel_rfl : _ = some (((Tryz.prog.info? 188).get (by kernel_rfl)).zero.get (by kernel_rfl))), by kernel_rfl⟩, rfl, ⟨_, Tryz.underlying188, by kernel_rfl, rfl⟩⟩
theorem tyF191 : TyF Tryz.prog 191 ⟨4, .st [(0, 1), (1, 1), (2, 1), (3, 1)], [.lit (.bool false), .lit (.int .i64 0), .lit (.bool false), .lit (.int .i64 0)]⟩ :=
  ⟨⟨_, _, (by kernel_rfl : Tryz.prog.info? 191 = some ((Tryz.prog.info? 191).get (by kernel_rfl))), by kernel_rfl, (by kernel_rfl : _ = some (((Tryz.prog.info? 191).get (by kernel_rfl)).zero.get (by kernel_rfl))), by kernel_rfl⟩, rfl, ⟨_, Tryz.underlying191, by kernel_rfl, rfl⟩⟩
theorem tyF195 : TyF Tryz.prog 195 ⟨24, .arr 24 4 1, [.lit (.bool false), .lit (.bool false), .lit (.bool false), .lit (.bool false), .lit (.bool false), .lit (.bool false), .lit (.bool false), .lit (.bool false), .lit (.bool false), .lit (.bool false), .lit (.bool false), .lit (.bool false), .lit (.bool false), .lit (.bool false), .lit (.bool false), .lit (.bool false), .lit (.bool false), .lit (.bool false), .lit (.bool false), .lit (.bool false), .lit (.bool false), .lit (.bool false), .lit (.bool false), .lit (.bool false)]⟩ :=
  ⟨⟨_, _, (by kernel_rfl : Tryz.prog.info? 195 = some ((Tryz.prog.info? 195).get (by kernel_rfl))), by kernel_rfl, (by kernel_rfl : _ = some (((Tryz.prog.info? 195).get (by kernel_rfl)).zero.get (by kernel_rfl))), by kernel_rfl⟩, rfl, ⟨Tryz.underlying195, _, (by kernel_rfl : Tryz.prog.info? 4 = some ((Tryz.prog.info? 4).get (by kernel_rfl))), by kernel_rfl⟩⟩
theorem tyF201 : TyF Tryz.prog 201 ⟨1, .sl 5 1 1, [.sl 5 1]⟩ :=
  ⟨⟨_, _, (by kernel_rfl : Tryz.prog.info? 201 = some ((Tryz.prog.info? 201).get (by kernel_rfl))), by kernel_rfl, (by kernel_rfl : _ = some (((Tryz.prog.info? 201).get (by kernel_rfl)).zero.get (by kernel_rfl))), by kernel_rfl⟩, rfl, ⟨Tryz.underlying201, _, _, (by kernel_rfl : Tryz.prog.info? 5 = some ((Tryz.prog.info? 5).get (by kernel_rfl))), by kernel_rfl, by kernel_rfl, (by kernel_rfl : _ = some (((Tryz.prog.info? 5).get (by kernel_rfl)).zero.get (by kernel_rfl))), by kernel_rfl, by decide, by kernel_rfl⟩⟩
theorem tyF203 : TyF Tryz.prog 203 ⟨2, .st [(0, 1), (1, 1)], [.lit (.int .i64 0), .lit (.int .i64 0)]⟩ :=
  ⟨⟨_, _, (by kernel_rfl : Tryz.prog.info? 203 = some ((Tryz.prog.info? 203).get (by kernel_rfl))), by kernel_rfl, (by kernel_rfl : _ = some (((Tryz.prog.info? 203).get (by kernel_rfl)).zero.get (by kernel_rfl))), by kernel_rfl⟩, rfl, ⟨_, Tryz.underlying203, by kernel_rfl, rfl⟩⟩
theorem tyF206 : TyF Tryz.prog 206 ⟨1, .sl 34 1 24, [.sl 34 1]⟩ :=
  ⟨⟨_, _, (by kernel_rfl : Tryz.prog.info? 206 = some ((Tryz.prog.info? 206).get (by kernel_rfl))), by kernel_rfl, (by kernel_rfl : _ = some (((Tryz.prog.info? 206).get (by kernel_rfl)).zero.get (by kernel_rfl))), by kernel_rfl⟩, rfl, ⟨Tryz.underlying206, _, _, (by kernel_rfl : Tryz.prog.info? 34 = some ((Tryz.prog.info? 34).get (by kernel_rfl))), by kernel_rfl, by kernel_rfl, (by kernel_rfl : _ = some (((Tryz.prog.info? 34).get (by kernel_rfl)).zero.get (by kernel_rfl))), by kernel_rfl, by decide, by kernel_rfl⟩⟩
theorem tyF215 : TyF Tryz.prog 215 ⟨1, .sc, [.lit (.int .u32 0)]⟩ :=
  ⟨⟨_, _, (by kernel_rfl : Tryz.prog.info? 215 = some ((Tryz.prog.info? 215).get (by kernel_rfl))), by kernel_rfl, (by kernel_rfl : _ = some (((Tryz.prog.info? 215).get (by kernel_rfl)).zero.get (by kernel_rfl))), by kernel_rfl⟩, rfl, ⟨_, Tryz.underlying215, rfl⟩⟩
theorem tyF216 : TyF Tryz.prog 216 ⟨1, .sc, [.lit (.int .u8 0)]⟩ :=
  ⟨⟨_, _, (by kernel_rfl : Tryz.prog.info? 216 = some ((Tryz.prog.info? 216).get (by kernel_rfl))), by kernel_rfl, (by kernel_rfl : _ = some (((Tryz.prog.info? 216).get (by kernel_rfl)).zero.get (by kernel_rfl))), by kernel_rfl⟩, rfl, ⟨_, Tryz.underlying216, rfl⟩⟩
theorem tyF217 : TyF Tryz.prog 217 ⟨1, .sc, [.lit (.int .u8 0)]⟩ :=
  ⟨⟨_, _, (by kernel_rfl : Tryz.prog.info? 217 = some ((Tryz.prog.info? 217).get (by kernel_rfl))), by kernel_rfl, (by kernel_rfl : _ = some (((Tryz.prog.info? 217).get (by kernel_rfl)).zero.get (by kernel_rfl))), by kernel_rfl⟩, rfl, ⟨_, Tryz.underlying217, rfl⟩⟩
theorem tyF220 : TyF Tryz.prog 220 ⟨1, .sc, [.lit (.int .i32 0)]⟩ :=
  ⟨⟨_, _, (by kernel_rfl : Tryz.prog.info? 220 = some ((Tryz.prog.info? 220).get (by kernel_rfl))), by kernel_rfl, (by kernel_rfl : _ = some (((Tryz.prog.info? 220).get (by kernel_rfl)).zero.get (by kernel_rfl))), by kernel_rfl⟩, rfl, ⟨_, Tryz.underlying220, rfl⟩⟩
theorem tyF221 : TyF Tryz.prog 221 ⟨1, .sc, [.lit (.int .i32 0)]⟩ :=
  ⟨⟨_, _, (by kernel_rfl : Tryz.prog.info? 221 = some ((Tryz.prog.info? 221).get (by kernel_rfl))), by kernel_rfl, (by kernel_rfl : _ = some (((Tryz.prog.info? 221).get (by kernel_rfl)).zero.get (by kernel_rfl))), by kernel_rfl⟩, rfl, ⟨_, Tryz.underlying221, rfl⟩⟩
theorem tyOk : TOk Tryz.prog tyT := by
  intro t i h
  unfold tyT at h
  split at h
  · injection h with h; subst h; exact tyF2
  · injection h with h; subst h; exact tyF3
  · injection h with h; subst h; exact tyF4
  · injection h with h; subst h; exact tyF5
  · injection h with h; subst h; exact tyF6
  · injection h with h; subst h; exact tyF7
  · injection h with h; subst h; exact tyF8
  · injection h with h; subst h; exact tyF12
  · injection h with h; subst h; exact tyF21
  · injection h with h; subst h; exact tyF22
  · injection h with h; subst h; exact tyF23
  · injection h with h; subst h; exact tyF24
  · injection h with h; subst h; exact tyF25
  · injection h with h; subst h; exact tyF26
  · injection h with h; subst h; exact tyF27
  · injection h with h; subst h; exact tyF28
  · injection h with h; subst h; exact tyF29
  · injection h with h; subst h; exact tyF33
  · injection h with h; subst h; exact tyF34
  · injection h with h; subst h; exact tyF35
  · injection h with h; subst h; exact tyF36
  · injection h with h; subst h; exact tyF37
  · injection h with h; subst h; exact tyF38
  · injection h with h; subst h; exact tyF48
  · injection h with h; subst h; exact tyF52
  · injection h with h; subst h; exact tyF53
  · injection h with h; subst h; exact tyF54
  · injection h with h; subst h; exact tyF62
  · injection h with h; subst h; exact tyF63
  · injection h with h; subst h; exact tyF64
  · injection h with h; subst h; exact tyF65
  · injection h with h; subst h; exact tyF66
  · injection h with h; subst h; exact tyF67
  · injection h with h; subst h; exact tyF69
  · injection h with h; subst h; exact tyF71
  · injection h with h; subst h; exact tyF72
  · injection h with h; subst h; exact tyF73
  · injection h with h; subst h; exact tyF74
  · injection h with h; subst h; exact tyF75
  · injection h with h; subst h; exact tyF76
  · injection h with h; subst h; exact tyF92
  · injection h with h; subst h; exact tyF93
  · injection h with h; subst h; exact tyF97
  · injection h with h; subst h; exact tyF98
  · injection h with h; subst h; exact tyF117
  · injection h with h; subst h; exact tyF118
  · injection h with h; subst h; exact tyF123
  · injection h with h; subst h; exact tyF124
  · injection h with h; subst h; exact tyF134
  · injection h with h; subst h; exact tyF135
  · injection h with h; subst h; exact tyF151
  · injection h with h; subst h; exact tyF156
  · injection h with h; subst h; exact tyF157
  · injection h with h; subst h; exact tyF158
  · injection h with h; subst h; exact tyF162
  · injection h with h; subst h; exact tyF164
  · injection h with h; subst h; exact tyF165
  · injection h with h; subst h; exact tyF168
  · injection h with h; subst h; exact tyF169
  · injection h with h; subst h; exact tyF176
  · injection h with h; subst h; exact tyF180
  · injection h with h; subst h; exact tyF183
  · injection h with h; subst h; exact tyF187
  · injection h with h; subst h; exact tyF188
  · injection h with h; subst h; exact tyF191
  · injection h with h; subst h; exact tyF195
  · injection h with h; subst h; exact tyF201
  · injection h with h; subst h; exact tyF203
  · injection h with h; subst h; exact tyF206
  · injection h with h; subst h; exact tyF215
  · injection h with h; subst h; exact tyF216
  · injection h with h; subst h; exact tyF217
  · injection h with h; subst h; exact tyF220
  · injection h with h; subst h; exact tyF221
  · cases h
end Go.Proofs.YtfdbjiaghbeedaaGreatDoor

