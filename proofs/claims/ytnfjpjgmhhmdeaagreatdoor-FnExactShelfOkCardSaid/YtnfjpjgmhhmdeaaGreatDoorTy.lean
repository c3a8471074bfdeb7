/- The types of the program that the proofs speak of. -/
import Derived.Test.YtnfjpjgmhhmdeaaGreatDoorProg
import Derived.Test.YtnfjpjgmhhmdeaaGreatDoorTrc
import Derived.KernelRfl
namespace Go.Proofs.YtnfjpjgmhhmdeaaGreatDoor
open Go Go.Tr
set_option linter.unusedVariables false
set_option linter.unusedSimpArgs false
set_option maxRecDepth 100000
def tyT : Nat → Option TyI
  | 2 => some ⟨1, .sc, [.lit (.int .i64 0)]⟩
  | 3 => some ⟨1, .sc, [.lit (.int .i64 0)]⟩
  | 4 => some ⟨1, .sc, [.lit (.bool false)]⟩
  | 5 => some ⟨1, .sc, [.lit (.int .u8 0)]⟩
  | 6 => some ⟨1, .sc, [.lit (.int .u8 0)]⟩
  | 7 => some ⟨4, .st [(0, 1), (1, 1), (2, 1), (3, 1)], [.lit (.int .i64 0), .lit (.int .i64 0), .lit (.bool false), .lit (.int .u8 0)]⟩
  | 8 => some ⟨4, .st [(0, 1), (1, 1), (2, 1), (3, 1)], [.lit (.int .i64 0), .lit (.int .i64 0), .lit (.bool false), .lit (.int .u8 0)]⟩
  | 12 => some ⟨1, .sc, [.lit (.int .u64 0)]⟩
  | 21 => some ⟨1, .sc, [.lit (.int .i32 0)]⟩
  | 22 => some ⟨1, .sl 3 1 8, [.sl 3 1]⟩
  | 23 => some ⟨2, .st [(0, 1), (1, 1)], [.sl 3 1, .sl 3 1]⟩
  | 24 => some ⟨2, .st [(0, 1), (1, 1)], [.sl 3 1, .sl 3 1]⟩
  | 25 => some ⟨1, .sl 250 1 24, [.sl 250 1]⟩
  | 26 => some ⟨2, .st [(0, 1), (1, 1)], [.sl 250 1, .sl 250 1]⟩
  | 27 => some ⟨2, .st [(0, 1), (1, 1)], [.sl 250 1, .sl 250 1]⟩
  | 28 => some ⟨4, .st [(0, 2), (2, 2)], [.sl 3 1, .sl 3 1, .sl 250 1, .sl 250 1]⟩
  | 29 => some ⟨4, .st [(0, 2), (2, 2)], [.sl 3 1, .sl 3 1, .sl 250 1, .sl 250 1]⟩
  | 30 => some ⟨1, .sl 226 4 32, [.sl 226 4]⟩
  | 31 => some ⟨2, .st [(0, 1), (1, 1)], [.lit (.int .i64 0), .sl 226 4]⟩
  | 32 => some ⟨2, .st [(0, 1), (1, 1)], [.lit (.int .i64 0), .sl 226 4]⟩
  | 33 => some ⟨1, .sl 172 1 24, [.sl 172 1]⟩
  | 34 => some ⟨8, .st [(0, 4), (4, 2), (6, 1), (7, 1)], [.sl 3 1, .sl 3 1, .sl 250 1, .sl 250 1, .lit (.int .i64 0), .sl 226 4, .sl 172 1, .sl 3 1]⟩
  | 35 => some ⟨8, .st [(0, 4), (4, 2), (6, 1), (7, 1)], [.sl 3 1, .sl 3 1, .sl 250 1, .sl 250 1, .lit (.int .i64 0), .sl 226 4, .sl 172 1, .sl 3 1]⟩
  | 36 => some ⟨1, .sl 135 21 168, [.sl 135 21]⟩
  | 37 => some ⟨1, .sl 120 1 24, [.sl 120 1]⟩
  | 38 => some ⟨1, .sl 140 7 56, [.sl 140 7]⟩
  | 39 => some ⟨13, .st [(0, 8), (8, 1), (9, 1), (10, 1), (11, 1), (12, 1)], [.sl 3 1, .sl 3 1, .sl 250 1, .sl 250 1, .lit (.int .i64 0), .sl 226 4, .sl 172 1, .sl 3 1, .sl 3 1, .sl 135 21, .sl 120 1, .sl 140 7, .lit (.int .i64 0)]⟩
  | 40 => some ⟨13, .st [(0, 8), (8, 1), (9, 1), (10, 1), (11, 1), (12, 1)], [.sl 3 1, .sl 3 1, .sl 250 1, .sl 250 1, .lit (.int .i64 0), .sl 226 4, .sl 172 1, .sl 3 1, .sl 3 1, .sl 135 21, .sl 120 1, .sl 140 7, .lit (.int .i64 0)]⟩
  | 43 => some ⟨2, .st [(0, 1), (1, 1)], [.sl 3 1, .sl 3 1]⟩
  | 44 => some ⟨1, .sl 178 1 24, [.sl 178 1]⟩
  | 45 => some ⟨2, .st [(0, 1), (1, 1)], [.sl 178 1, .sl 178 1]⟩
  | 46 => some ⟨2, .st [(0, 1), (1, 1)], [.sl 178 1, .sl 178 1]⟩
  | 47 => some ⟨4, .st [(0, 2), (2, 2)], [.sl 3 1, .sl 3 1, .sl 178 1, .sl 178 1]⟩
  | 48 => some ⟨4, .st [(0, 2), (2, 2)], [.sl 3 1, .sl 3 1, .sl 178 1, .sl 178 1]⟩
  | 49 => some ⟨1, .sl 99 4 32, [.sl 99 4]⟩
  | 50 => some ⟨2, .st [(0, 1), (1, 1)], [.lit (.int .i64 0), .sl 99 4]⟩
  | 51 => some ⟨2, .st [(0, 1), (1, 1)], [.lit (.int .i64 0), .sl 99 4]⟩
  | 52 => some ⟨1, .sl 182 1 24, [.sl 182 1]⟩
  | 53 => some ⟨8, .st [(0, 4), (4, 2), (6, 1), (7, 1)], [.sl 3 1, .sl 3 1, .sl 178 1, .sl 178 1, .lit (.int .i64 0), .sl 99 4, .sl 182 1, .sl 3 1]⟩
  | 54 => some ⟨8, .st [(0, 4), (4, 2), (6, 1), (7, 1)], [.sl 3 1, .sl 3 1, .sl 178 1, .sl 178 1, .lit (.int .i64 0), .sl 99 4, .sl 182 1, .sl 3 1]⟩
  | 55 => some ⟨1, .sl 82 21 168, [.sl 82 21]⟩
  | 56 => some ⟨1, .sl 112 1 24, [.sl 112 1]⟩
  | 57 => some ⟨1, .sl 138 7 56, [.sl 138 7]⟩
  | 58 => some ⟨13, .st [(0, 8), (8, 1), (9, 1), (10, 1), (11, 1), (12, 1)], [.sl 3 1, .sl 3 1, .sl 178 1, .sl 178 1, .lit (.int .i64 0), .sl 99 4, .sl 182 1, .sl 3 1, .sl 3 1, .sl 82 21, .sl 112 1, .sl 138 7, .lit (.int .i64 0)]⟩
  | 59 => some ⟨13, .st [(0, 8), (8, 1), (9, 1), (10, 1), (11, 1), (12, 1)], [.sl 3 1, .sl 3 1, .sl 178 1, .sl 178 1, .lit (.int .i64 0), .sl 99 4, .sl 182 1, .sl 3 1, .sl 3 1, .sl 82 21, .sl 112 1, .sl 138 7, .lit (.int .i64 0)]⟩
  | 77 => some ⟨4, .st [(0, 1), (1, 1), (2, 1), (3, 1)], [.lit (.int .i64 0), .lit (.int .i64 0), .lit (.int .i64 0), .lit (.int .i64 0)]⟩
  | 78 => some ⟨4, .st [(0, 1), (1, 1), (2, 1), (3, 1)], [.lit (.int .i64 0), .lit (.int .i64 0), .lit (.int .i64 0), .lit (.int .i64 0)]⟩
  | 79 => some ⟨10, .st [(0, 1), (1, 1), (2, 1), (3, 1), (4, 1), (5, 1), (6, 1), (7, 1), (8, 1), (9, 1)], [.lit (.int .i64 0), .lit (.int .i64 0), .lit (.int .i64 0), .lit (.int .i64 0), .lit (.int .i64 0), .lit (.int .i64 0), .lit (.int .i64 0), .lit (.int .i64 0), .lit (.int .i64 0), .lit (.bool false)]⟩
  | 80 => some ⟨10, .st [(0, 1), (1, 1), (2, 1), (3, 1), (4, 1), (5, 1), (6, 1), (7, 1), (8, 1), (9, 1)], [.lit (.int .i64 0), .lit (.int .i64 0), .lit (.int .i64 0), .lit (.int .i64 0), .lit (.int .i64 0), .lit (.int .i64 0), .lit (.int .i64 0), .lit (.int .i64 0), .lit (.int .i64 0), .lit (.bool false)]⟩
  | 81 => some ⟨21, .st [(0, 1), (1, 4), (5, 1), (6, 1), (7, 10), (17, 1), (18, 1), (19, 1), (20, 1)], [.lit (.bool false), .lit (.int .i64 0), .lit (.int .i64 0), .lit (.int .i64 0), .lit (.int .i64 0), .lit (.int .i64 0), .lit (.int .i64 0), .lit (.int .i64 0), .lit (.int .i64 0), .lit (.int .i64 0), .lit (.int .i64 0), .lit (.int .i64 0), .lit (.int .i64 0), .lit (.int .i64 0), .lit (.int .i64 0), .lit (.int .i64 0), .lit (.bool false), .lit (.int .i64 0), .lit (.int .i64 0), .lit (.int .i64 0), .lit (.int .i64 0)]⟩
  | 82 => some ⟨21, .st [(0, 1), (1, 4), (5, 1), (6, 1), (7, 10), (17, 1), (18, 1), (19, 1), (20, 1)], [.lit (.bool false), .lit (.int .i64 0), .lit (.int .i64 0), .lit (.int .i64 0), .lit (.int .i64 0), .lit (.int .i64 0), .lit (.int .i64 0), .lit (.int .i64 0), .lit (.int .i64 0), .lit (.int .i64 0), .lit (.int .i64 0), .lit (.int .i64 0), .lit (.int .i64 0), .lit (.int .i64 0), .lit (.int .i64 0), .lit (.int .i64 0), .lit (.bool false), .lit (.int .i64 0), .lit (.int .i64 0), .lit (.int .i64 0), .lit (.int .i64 0)]⟩
  | 98 => some ⟨4, .st [(0, 1), (1, 1), (2, 1), (3, 1)], [.lit (.bool false), .lit (.int .i64 0), .lit (.bool false), .lit (.int .i64 0)]⟩
  | 99 => some ⟨4, .st [(0, 1), (1, 1), (2, 1), (3, 1)], [.lit (.bool false), .lit (.int .i64 0), .lit (.bool false), .lit (.int .i64 0)]⟩
  | 110 => some ⟨1, .sl 78 4 32, [.sl 78 4]⟩
  | 111 => some ⟨1, .st [(0, 1)], [.sl 78 4]⟩
  | 112 => some ⟨1, .st [(0, 1)], [.sl 78 4]⟩
  | 118 => some ⟨1, .sl 132 4 32, [.sl 132 4]⟩
  | 119 => some ⟨1, .st [(0, 1)], [.sl 132 4]⟩
  | 120 => some ⟨1, .st [(0, 1)], [.sl 132 4]⟩
  | 124 => some ⟨1, .sl 127 2 16, [.sl 127 2]⟩
  | 126 => some ⟨2, .st [(0, 1), (1, 1)], [.lit (.int .i64 0), .lit (.int .i64 0)]⟩
  | 127 => some ⟨2, .st [(0, 1), (1, 1)], [.lit (.int .i64 0), .lit (.int .i64 0)]⟩
  | 132 => some ⟨4, .st [(0, 1), (1, 1), (2, 1), (3, 1)], [.lit (.int .i64 0), .lit (.int .i64 0), .lit (.int .i64 0), .lit (.int .i64 0)]⟩
  | 133 => some ⟨10, .st [(0, 1), (1, 1), (2, 1), (3, 1), (4, 1), (5, 1), (6, 1), (7, 1), (8, 1), (9, 1)], [.lit (.int .i64 0), .lit (.int .i64 0), .lit (.int .i64 0), .lit (.int .i64 0), .lit (.int .i64 0), .lit (.int .i64 0), .lit (.int .i64 0), .lit (.int .i64 0), .lit (.int .i64 0), .lit (.bool false)]⟩
  | 134 => some ⟨21, .st [(0, 1), (1, 4), (5, 1), (6, 1), (7, 10), (17, 1), (18, 1), (19, 1), (20, 1)], [.lit (.bool false), .lit (.int .i64 0), .lit (.int .i64 0), .lit (.int .i64 0), .lit (.int .i64 0), .lit (.int .i64 0), .lit (.int .i64 0), .lit (.int .i64 0), .lit (.int .i64 0), .lit (.int .i64 0), .lit (.int .i64 0), .lit (.int .i64 0), .lit (.int .i64 0), .lit (.int .i64 0), .lit (.int .i64 0), .lit (.int .i64 0), .lit (.bool false), .lit (.int .i64 0), .lit (.int .i64 0), .lit (.int .i64 0), .lit (.int .i64 0)]⟩
  | 135 => some ⟨21, .st [(0, 1), (1, 4), (5, 1), (6, 1), (7, 10), (17, 1), (18, 1), (19, 1), (20, 1)], [.lit (.bool false), .lit (.int .i64 0), .lit (.int .i64 0), .lit (.int .i64 0), .lit (.int .i64 0), .lit (.int .i64 0), .lit (.int .i64 0), .lit (.int .i64 0), .lit (.int .i64 0), .lit (.int .i64 0), .lit (.int .i64 0), .lit (.int .i64 0), .lit (.int .i64 0), .lit (.int .i64 0), .lit (.int .i64 0), .lit (.int .i64 0), .lit (.bool false), .lit (.int .i64 0), .lit (.int .i64 0), .lit (.int .i64 0), .lit (.int .i64 0)]⟩
  | 137 => some ⟨7, .st [(0, 1), (1, 1), (2, 1), (3, 1), (4, 1), (5, 1), (6, 1)], [.lit (.int .i64 0), .lit (.int .i64 0), .lit (.int .i64 0), .lit (.int .i64 0), .lit (.int .i64 0), .lit (.int .i64 0), .lit (.int .i64 0)]⟩
  | 138 => some ⟨7, .st [(0, 1), (1, 1), (2, 1), (3, 1), (4, 1), (5, 1), (6, 1)], [.lit (.int .i64 0), .lit (.int .i64 0), .lit (.int .i64 0), .lit (.int .i64 0), .lit (.int .i64 0), .lit (.int .i64 0), .lit (.int .i64 0)]⟩
  | 140 => some ⟨7, .st [(0, 1), (1, 1), (2, 1), (3, 1), (4, 1), (5, 1), (6, 1)], [.lit (.int .i64 0), .lit (.int .i64 0), .lit (.int .i64 0), .lit (.int .i64 0), .lit (.int .i64 0), .lit (.int .i64 0), .lit (.int .i64 0)]⟩
  | 157 => some ⟨8, .st [(0, 8)], [.sl 3 1, .sl 3 1, .sl 178 1, .sl 178 1, .lit (.int .i64 0), .sl 99 4, .sl 182 1, .sl 3 1]⟩
  | 158 => some ⟨8, .st [(0, 8)], [.sl 3 1, .sl 3 1, .sl 178 1, .sl 178 1, .lit (.int .i64 0), .sl 99 4, .sl 182 1, .sl 3 1]⟩
  | 163 => some ⟨1, .sc, [.lit (.int .u64 0)]⟩
  | 170 => some ⟨1, .sl 253 2 16, [.sl 253 2]⟩
  | 171 => some ⟨1, .st [(0, 1)], [.sl 253 2]⟩
  | 172 => some ⟨1, .st [(0, 1)], [.sl 253 2]⟩
  | 177 => some ⟨1, .st [(0, 1)], [.sl 3 1]⟩
  | 178 => some ⟨1, .st [(0, 1)], [.sl 3 1]⟩
  | 181 => some ⟨1, .st [(0, 1)], [.sl 127 2]⟩
  | 182 => some ⟨1, .st [(0, 1)], [.sl 127 2]⟩
  | 193 => some ⟨24, .arr 24 4 1, [.lit (.bool false), .lit (.bool false), .lit (.bool false), .lit (.bool false), .lit (.bool false), .lit (.bool false), .lit (.bool false), .lit (.bool false), .lit (.bool false), .lit (.bool false), .lit (.bool false), .lit (.bool false), .lit (.bool false), .lit (.bool false), .lit (.bool false), .lit (.bool false), .lit (.bool false), .lit (.bool false), .lit (.bool false), .lit (.bool false), .lit (.bool false), .lit (.bool false), .lit (.bool false), .lit (.bool false)]⟩
  | 214 => some ⟨1, .sc, [.lit (.int .u32 0)]⟩
  | 217 => some ⟨1, .sc, [.lit (.int .u64 0)]⟩
  | 226 => some ⟨4, .st [(0, 1), (1, 1), (2, 1), (3, 1)], [.lit (.bool false), .lit (.int .i64 0), .lit (.bool false), .lit (.int .i64 0)]⟩
  | 228 => some ⟨8, .arr 8 3 1, [.lit (.int .i64 0), .lit (.int .i64 0), .lit (.int .i64 0), .lit (.int .i64 0), .lit (.int .i64 0), .lit (.int .i64 0), .lit (.int .i64 0), .lit (.int .i64 0)]⟩
  | 234 => some ⟨1, .sc, [.lit (.int .i64 0)]⟩
  | 250 => some ⟨1, .st [(0, 1)], [.sl 3 1]⟩
  | 253 => some ⟨2, .st [(0, 1), (1, 1)], [.lit (.int .i64 0), .lit (.int .i64 0)]⟩
  | 256 => some ⟨1, .sc, [.lit (.int .u64 0)]⟩
  | 262 => some ⟨1, .sl 44 1 24, [.sl 44 1]⟩
  | 268 => some ⟨3, .arr 3 3 1, [.lit (.int .i64 0), .lit (.int .i64 0), .lit (.int .i64 0)]⟩
  | 276 => some ⟨1, .sc, [.lit (.int .u8 0)]⟩
  | 277 => some ⟨1, .sc, [.lit (.int .u8 0)]⟩
  | 280 => some ⟨1, .sc, [.lit (.int .i32 0)]⟩
  | 281 => some ⟨1, .sc, [.lit (.int .i32 0)]⟩
  | _ => none
theorem tyF2 : TyF Tryz.prog 2 ⟨1, .sc, [.lit (.int .i64 0)]⟩ :=
  ⟨⟨_, _, (by kernel_rfl : Tryz.prog.info? 2 = some ((Tryz.prog.info? 2).get (by kernel_rfl))), by kernel_rfl, (by kernel_rfl : _ = some (((Tryz.prog.info? 2).get (by kernel_rfl)).zero.get (by kernel_rfl))), by kernel_rfl⟩, rfl, ⟨_, Tryz.underlying2, rfl⟩⟩
theorem tyF3 : TyF Tryz.prog 3 ⟨1, .sc, [.lit (.int .i64 0)]⟩ :=
  ⟨⟨_, _, (by kernel_rfl : Tryz.prog.info? 3 = some ((Tryz.prog.info? 3).get (by kernel_rfl))), by kernel_rfl, (by kernel_rfl : _ = some (((Tryz.prog.info? 3).get (by kernel_rfl)).zero.get (by kernel_rfl))), by kernel_rfl⟩, rfl, ⟨_, Tryz.underlying3, rfl⟩⟩
theorem tyF4 : TyF Tryz.prog 4 ⟨1, .sc, [.lit (.bool false)]⟩ :=
  ⟨⟨_, _, (by kernel_rfl : Tryz.prog.info? 4 = some ((Tryz.prog.info? 4).get (by kernel_rfl))), by kernel_rfl, (by kernel_rfl : _ = some (((Tryz.prog.info? 4).get (by kernel_rfl)).zero.get (by kernel_rfl))), by kernel_rfl⟩, rfl, ⟨_, Tryz.underlying4, rfl⟩⟩
theorem tyF5 : TyF Tryz.prog 5 ⟨1, .sc, [.lit (.int .u8 0)]⟩ :=
  ⟨⟨_, _, (by kernel_rfl : Tryz.prog.info? 5 = some ((Tryz.prog.info? 5).get (by kernel_rfl))), by kernel_rfl, (by kernel_rfl : _ = some (((Tryz.prog.info? 5).get (by kernel_rfl)).zero.get (by kernel_rfl))), by kernel_rfl⟩, rfl, ⟨_, Tryz.underlying5, rfl⟩⟩
theorem tyF6 : TyF Tryz.prog 6 ⟨1, .sc, [.lit (.int .u8 0)]⟩ :=
  ⟨⟨_, _, (by kernel_rfl : Tryz.prog.info? 6 = some ((Tryz.prog.info? 6).get (by kernel_rfl))), by kernel_rfl, (by kernel_rfl : _ = some (((Tryz.prog.info? 6).get (by kernel_rfl)).zero.get (by kernel_rfl))), by kernel_rfl⟩, rfl, ⟨_, Tryz.underlying6, rfl⟩⟩
theorem tyF7 : TyF Tryz.prog 7 ⟨4, .st [(0, 1), (1, 1), (2, 1), (3, 1)], [.lit (.int .i64 0), .lit (.int .i64 0), .lit (.bool false), .lit (.int .u8 0)]⟩ :=
  ⟨⟨_, _, (by kernel_rfl : Tryz.prog.info? 7 = some ((Tryz.prog.info? 7).get (by kernel_rfl))), by kernel_rfl, (by kernel_rfl : _ = some (((Tryz.prog.info? 7).get (by kernel_rfl)).zero.get (by kernel_rfl))), by kernel_rfl⟩, rfl, ⟨_, Tryz.underlying7, by kernel_rfl, rfl⟩⟩
theorem tyF8 : TyF Tryz.prog 8 ⟨4, .st [(0, 1), (1, 1), (2, 1), (3, 1)], [.lit (.int .i64 0), .lit (.int .i64 0), .lit (.bool false), .lit (.int .u8 0)]⟩ :=
  ⟨⟨_, _, (by kernel_rfl : Tryz.prog.info? 8 = some ((Tryz.prog.info? 8).get (by kernel_rfl))), by kernel_rfl, (by kernel_rfl : _ = some (((Tryz.prog.info? 8).get (by kernel_rfl)).zero.get (by kernel_rfl))), by kernel_rfl⟩, rfl, ⟨_, Tryz.underlying8, by kernel_rfl, rfl⟩⟩
theorem tyF12 : TyF Tryz.prog 12 ⟨1, .sc, [.lit (.int .u64 0)]⟩ :=
  ⟨⟨_, _, (by kernel_rfl : Tryz.prog.info? 12 = some ((Tryz.prog.info? 12).get (by kernel_rfl))), by kernel_rfl, (by kernel_rfl : _ = some (((Tryz.prog.info? 12).get (by kernel_rfl)).zero.get (by kernel_rfl))), by kernel_rfl⟩, rfl, ⟨_, Tryz.underlying12, rfl⟩⟩
theorem tyF21 : TyF Tryz.prog 21 ⟨1, .sc, [.lit (.int .i32 0)]⟩ :=
  ⟨⟨_, _, (by kernel_rfl : Tryz.prog.info? 21 = some ((Tryz.prog.info? 21).get (by kernel_rfl))), by kernel_rfl, (by kernel_rfl : _ = some (((Tryz.prog.info? 21).get (by kernel_rfl)).zero.get (by kernel_rfl))), by kernel_rfl⟩, rfl, ⟨_, Tryz.underlying21, rfl⟩⟩
theorem tyF22 : TyF Tryz.prog 22 ⟨1, .sl 3 1 8, [.sl 3 1]⟩ :=
  ⟨⟨_, _, (by kernel_rfl : Tryz.prog.info? 22 = some ((Tryz.prog.info? 22).get (by kernel_rfl))), by kernel_rfl, (by kernel_rfl : _ = some (((Tryz.prog.info? 22).get (by kernel_rfl)).zero.get (by kernel_rfl))), by kernel_rfl⟩, rfl, ⟨Tryz.underlying22, _, _, (by kernel_rfl : Tryz.prog.info? 3 = some ((Tryz.prog.info? 3).get (by kernel_rfl))), by kernel_rfl, by kernel_rfl, (by kernel_rfl : _ = some (((Tryz.prog.info? 3).get (by kernel_rfl)).zero.get (by kernel_rfl))), by kernel_rfl, by decide, by kernel_rfl⟩⟩
theorem tyF23 : TyF Tryz.prog 23 ⟨2, .st [(0, 1), (1, 1)], [.sl 3 1, .sl 3 1]⟩ :=
  ⟨⟨_, _, (by kernel_rfl : Tryz.prog.info? 23 = some ((Tryz.prog.info? 23).get (by kernel_rfl))), by kernel_rfl, (by kernel_rfl : _ = some (((Tryz.prog.info? 23).get (by kernel_rfl)).zero.get (by kernel_rfl))), by kernel_rfl⟩, rfl, ⟨_, Tryz.underlying23, by kernel_rfl, rfl⟩⟩
theorem tyF24 : TyF Tryz.prog 24 ⟨2, .st [(0, 1), (1, 1)], [.sl 3 1, .sl 3 1]⟩ :=
  ⟨⟨_, _, (by kernel_rfl : Tryz.prog.info? 24 = some ((Tryz.prog.info? 24).get (by kernel_rfl))), by kernel_rfl, (by kernel_rfl : _ = some (((Tryz.prog.info? 24).get (by kernel_rfl)).zero.get (by kernel_rfl))), by kernel_rfl⟩, rfl, ⟨_, Tryz.underlying24, by kernel_rfl, rfl⟩⟩
theorem tyF25 : TyF Tryz.prog 25 ⟨1, .sl 250 1 24, [.sl 250 1]⟩ :=
  ⟨⟨_, _, (by kernel_rfl : Tryz.prog.info? 25 = some ((Tryz.prog.info? 25).get (by kernel_rfl))), by kernel_rfl, (by kernel_rfl : _ = some (((Tryz.prog.info? 25).get (by kernel_rfl)).zero.get (by kernel_rfl))), by kernel_rfl⟩, rfl, ⟨Tryz.underlying25, _, _, (by kernel_rfl : Tryz.prog.info? 250 = some ((Tryz.prog.info? 250).get (by kernel_rfl))), by kernel_rfl, by kernel_rfl, (by kernel_rfl : _ = some (((Tryz.prog.info? 250).get (by kernel_rfl)).zero.get (by kernel_rfl))), by kernel_rfl, by decide, by kernel_rfl⟩⟩
theorem tyF26 : TyF Tryz.prog 26 ⟨2, .st [(0, 1), (1, 1)], [.sl 250 1, .sl 250 1]⟩ :=
  ⟨⟨_, _, (by kernel_rfl : Tryz.prog.info? 26 = some ((Tryz.prog.info? 26).get (by kernel_rfl))), by kernel_rfl, (by kernel_rfl : _ = some (((Tryz.prog.info? 26).get (by kernel_rfl)).zero.get (by kernel_rfl))), by kernel_rfl⟩, rfl, ⟨_, Tryz.underlying26, by kernel_rfl, rfl⟩⟩
theorem tyF27 : TyF Tryz.prog 27 ⟨2, .st [(0, 1), (1, 1)], [.sl 250 1, .sl 250 1]⟩ :=
  ⟨⟨_, _, (by kernel_rfl : Tryz.prog.info? 27 = some ((Tryz.prog.info? 27).get (by kernel_rfl))), by kernel_rfl, (by kernel_rfl : _ = some (((Tryz.prog.info? 27).get (by kernel_rfl)).zero.get (by kernel_rfl))), by kernel_rfl⟩, rfl, ⟨_, Tryz.underlying27, by kernel_rfl, rfl⟩⟩
theorem tyF28 : TyF Tryz.prog 28 ⟨4, .st [(0, 2), (2, 2)], [.sl 3 1, .sl 3 1, .sl 250 1, .sl 250 1]⟩ :=
  ⟨⟨_, _, (by kernel_rfl : Tryz.prog.info? 28 = some ((Tryz.prog.info? 28).get (by kernel_rfl))), by kernel_rfl, (by kernel_rfl : _ = some (((Tryz.prog.info? 28).get (by kernel_rfl)).zero.get (by kernel_rfl))), by kernel_rfl⟩, rfl, ⟨_, Tryz.underlying28, by kernel_rfl, rfl⟩⟩
theorem tyF29 : TyF Tryz.prog 29 ⟨4, .st [(0, 2), (2, 2)], [.sl 3 1, .sl 3 1, .sl 250 1, .sl 250 1]⟩ :=
  ⟨⟨_, _, (by kernel_rfl : Tryz.prog.info? 29 = some ((Tryz.prog.info? 29).get (by kernel_rfl))), by kernel_rfl, (by kernel_rfl : _ = some (((Tryz.prog.info? 29).get (by kernel_rfl)).zero.get (by kernel_rfl))), by kernel_rfl⟩, rfl, ⟨_, Tryz.underlying29, by kernel_rfl, rfl⟩⟩
theorem tyF30 : TyF Tryz.prog 30 ⟨1, .sl 226 4 32, [.sl 226 4]⟩ :=
  ⟨⟨_, _, (by kernel_rfl : Tryz.prog.info? 30 = some ((Tryz.prog.info? 30).get (by kernel_rfl))), by kernel_rfl, (by kernel_rfl : _ = some (((Tryz.prog.info? 30).get (by kernel_rfl)).zero.get (by kernel_rfl))), by kernel_rfl⟩, rfl, ⟨Tryz.underlying30, _, _, (by kernel_rfl : Tryz.prog.info? 226 = some ((Tryz.prog.info? 226).get (by kernel_rfl))), by kernel_rfl, by kernel_rfl, (by kernel_rfl : _ = some (((Tryz.prog.info? 226).get (by kernel_rfl)).zero.get (by kernel_rfl))), by kernel_rfl, by decide, by kernel_rfl⟩⟩
theorem tyF31 : TyF Tryz.prog 31 ⟨2, .st [(0, 1), (1, 1)], [.lit (.int .i64 0), .sl 226 4]⟩ :=
  ⟨⟨_, _, (by kernel_rfl : Tryz.prog.info? 31 = some ((Tryz.prog.info? 31).get (by kernel_rfl))), by kernel_rfl, (by kernel_rfl : _ = some (((Tryz.prog.info? 31).get (by kernel_rfl)).zero.get (by kernel_rfl))), by kernel_rfl⟩, rfl, ⟨_, Tryz.underlying31, by kernel_rfl, rfl⟩⟩
theorem tyF32 : TyF Tryz.prog 32 ⟨2, .st [(0, 1), (1, 1)], [.lit (.int .i64 0), .sl 226 4]⟩ :=
  ⟨⟨_, _, (by kernel_rfl : Tryz.prog.info? 32 = some ((Tryz.prog.info? 32).get (by kernel_rfl))), by kernel_rfl, (by kernel_rfl : _ = some (((Tryz.prog.info? 32).get (by kernel_rfl)).zero.get (by kernel_rfl))), by kernel_rfl⟩, rfl, ⟨_, Tryz.underlying32, by kernel_rfl, rfl⟩⟩
theorem tyF33 : TyF Tryz.prog 33 ⟨1, .sl 172 1 24, [.sl 172 1]⟩ :=
  ⟨⟨_, _, (by kernel_rfl : Tryz.prog.info? 33 = some ((Tryz.prog.info? 33).get (by kernel_rfl))), by kernel_rfl, (by kernel_rfl : _ = some (((Tryz.prog.info? 33).get (by kernel_rfl)).zero.get (by kernel_rfl))), by kernel_rfl⟩, rfl, ⟨Tryz.underlying33, _, _, (by kernel_rfl : Tryz.prog.info? 172 = some ((Tryz.prog.info? 172).get (by kernel_rfl))), by kernel_rfl, by kernel_rfl, (by kernel_rfl : _ = some (((Tryz.prog.info? 172).get (by kernel_rfl)).zero.get (by kernel_rfl))), by kernel_rfl, by decide, by kernel_rfl⟩⟩
theorem tyF34 : TyF Tryz.prog 34 ⟨8, .st [(0, 4), (4, 2), (6, 1), (7, 1)], [.sl 3 1, .sl 3 1, .sl 250 1, .sl 250 1, .lit (.int .i64 0), .sl 226 4, .sl 172 1, .sl 3 1]⟩ :=
  ⟨⟨_, _, (by kernel_rfl : Tryz.prog.info? 34 = some ((Tryz.prog.info? 34).get (by kernel_rfl))), by kernel_rfl, (by kernel_rfl : _ = some (((Tryz.prog.info? 34).get (by kernel_rfl)).zero.get (by kernel_rfl))), by kernel_rfl⟩, rfl, ⟨_, Tryz.underlying34, by kernel_rfl, rfl⟩⟩
theorem tyF35 : TyF Tryz.prog 35 ⟨8, .st [(0, 4), (4, 2), (6, 1), (7, 1)], [.sl 3 1, .sl 3 1, .sl 250 1, .sl 250 1, .lit (.int .i64 0), .sl 226 4, .sl 172 1, .sl 3 1]⟩ :=
  ⟨⟨_, _, (by kernel_rfl : Tryz.prog.info? 35 = some ((Tryz.prog.info? 35).get (by kernel_rfl))), by kernel_rfl, (by kernel_rfl : _ = some (((Tryz.prog.info? 35).get (by kernel_rfl)).zero.get (by kernel_rfl))), by kernel_rfl⟩, rfl, ⟨_, Tryz.underlying35, by kernel_rfl, rfl⟩⟩
theorem tyF36 : TyF Tryz.prog 36 ⟨1, .sl 135 21 168, [.sl 135 21]⟩ :=
  ⟨⟨_, _, (by kernel_rfl : Tryz.prog.info? 36 = some ((Tryz.prog.info? 36).get (by kernel_rfl))), by kernel_rfl, (by kernel_rfl : _ = some (((Tryz.prog.info? 36).get (by kernel_rfl)).zero.get (by kernel_rfl))), by kernel_rfl⟩, rfl, ⟨Tryz.underlying36, _, _, (by kernel_rfl : Tryz.prog.info? 135 = some ((Tryz.prog.info? 135).get (by kernel_rfl))), by kernel_rfl, by kernel_rfl, (by kernel_rfl : _ = some (((Tryz.prog.info? 135).get (by kernel_rfl)).zero.get (by kernel_rfl))), by kernel_rfl, by decide, by kernel_rfl⟩⟩
theorem tyF37 : TyF Tryz.prog 37 ⟨1, .sl 120 1 24, [.sl 120 1]⟩ :=
  ⟨⟨_, _, (by kernel_rfl : Tryz.prog.info? 37 = some ((Tryz.prog.info? 37).get (by kernel_rfl))), by kernel_rfl, (by kernel_rfl : _ = some (((Tryz.prog.info? 37).get (by kernel_rfl)).zero.get (by kernel_rfl))), by kernel_rfl⟩, rfl, ⟨Tryz.underlying37, _, _, (by kernel_rfl : Tryz.prog.info? 120 = some ((Tryz.prog.info? 120).get (by kernel_rfl))), by kernel_rfl, by kernel_rfl, (by kernel_rfl : _ = some (((Tryz.prog.info? 120).get (by kernel_rfl)).zero.get (by kernel_rfl))), by kernel_rfl, by decide, by kernel_rfl⟩⟩
theorem tyF38 : TyF Tryz.prog 38 ⟨1, .sl 140 7 56, [.sl 140 7]⟩ :=
  ⟨⟨_, _, (by kernel_rfl : Tryz.prog.info? 38 = some ((Tryz.prog.info? 38).get (by kernel_rfl))), by kernel_rfl, (by kernel_rfl : _ = some (((Tryz.prog.info? 38).get (by kernel_rfl)).zero.get (by kernel_rfl))), by kernel_rfl⟩, rfl, ⟨Tryz.underlying38, _, _, (by kernel_rfl : Tryz.prog.info? 140 = some ((Tryz.prog.info? 140).get (by kernel_rfl))), by kernel_rfl, by kernel_rfl, (by kernel_rfl : _ = some (((Tryz.prog.info? 140).get (by kernel_rfl)).zero.get (by kernel_rfl))), by kernel_rfl, by decide, by kernel_rfl⟩⟩
theorem tyF39 : TyF Tryz.prog 39 ⟨13, .st [(0, 8), (8, 1), (9, 1), (10, 1), (11, 1), (12, 1)], [.sl 3 1, .sl 3 1, .sl 250 1, .sl 250 1, .lit (.int .i64 0), .sl 226 4, .sl 172 1, .sl 3 1, .sl 3 1, .sl 135 21, .sl 120 1, .sl 140 7, .lit (.int .i64 0)]⟩ :=
  ⟨⟨_, _, (by kernel_rfl : Tryz.prog.info? 39 = some ((Tryz.prog.info? 39).get (by kernel_rfl))), by kernel_rfl, (by kernel_rfl : _ = some (((Tryz.prog.info? 39).get (by kernel_rfl)).zero.get (by kernel_rfl))), by kernel_rfl⟩, rfl, ⟨_, Tryz.underlying39, by kernel_rfl, rfl⟩⟩
theorem tyF40 : TyF Tryz.prog 40 ⟨13, .st [(0, 8), (8, 1), (9, 1), (10, 1), (11, 1), (12, 1)], [.sl 3 1, .sl 3 1, .sl 250 1, .sl 250 1, .lit (.int .i64 0), .sl 226 4, .sl 172 1, .sl 3 1, .sl 3 1, .sl 135 21, .sl 120 1, .sl 140 7, .lit (.int .i64 0)]⟩ :=
  ⟨⟨_, _, (by kernel_rfl : Tryz.prog.info? 40 = some ((Tryz.prog.info? 40).get (by kernel_rfl))), by kernel_rfl, (by kernel_rfl : _ = some (((Tryz.prog.info? 40).get (by kernel_rfl)).zero.get (by kernel_rfl))), by kernel_rfl⟩, rfl, ⟨_, Tryz.underlying40, by kernel_rfl, rfl⟩⟩
theorem tyF43 : TyF Tryz.prog 43 ⟨2, .st [(0, 1), (1, 1)], [.sl 3 1, .sl 3 1]⟩ :=
  ⟨⟨_, _, (by kernel_rfl : Tryz.prog.info? 43 = some ((Tryz.prog.info? 43).get (by kernel_rfl))), by kernel_rfl, (by kernel_rfl : _ = some (((Tryz.prog.info? 43).get (by kernel_rfl)).zero.get (by kernel_rfl))), by kernel_rfl⟩, rfl, ⟨_, Tryz.underlying43, by kernel_rfl, rfl⟩⟩
theorem tyF44 : TyF Tryz.prog 44 ⟨1, .sl 178 1 24, [.sl 178 1]⟩ :=
  ⟨⟨_, _, (by kernel_rfl : Tryz.prog.info? 44 = some ((Tryz.prog.info? 44).get (by kernel_rfl))), by kernel_rfl, (by kernel_rfl : _ = some (((Tryz.prog.info? 44).get (by kernel_rfl)).zero.get (by kernel_rfl))), by kernel_rfl⟩, rfl, ⟨Tryz.underlying44, _, _, (by kernel_rfl : Tryz.prog.info? 178 = some ((Tryz.prog.info? 178).get (by kernel_rfl))), by kernel_rfl, by kernel_rfl, (by kernel_rfl : _ = some (((Tryz.prog.info? 178).get (by kernel_rfl)).zero.get (by kernel_rfl))), by kernel_rfl, by decide, by kernel_rfl⟩⟩
theorem tyF45 : TyF Tryz.prog 45 ⟨2, .st [(0, 1), (1, 1)], [.sl 178 1, .sl 178 1]⟩ :=
  ⟨⟨_, _, (by kernel_rfl : Tryz.prog.info? 45 = some ((Tryz.prog.info? 45).get (by kernel_rfl))), by kernel_rfl, (by kernel_rfl : _ = some (((Tryz.prog.info? 45).get (by kernel_rfl)).zero.get (by kernel_rfl))), by kernel_rfl⟩, rfl, ⟨_, Tryz.underlying45, by kernel_rfl, rfl⟩⟩
theorem tyF46 : TyF Tryz.prog 46 ⟨2, .st [(0, 1), (1, 1)], [.sl 178 1, .sl 178 1]⟩ :=
  ⟨⟨_, _, (by kernel_rfl : Tryz.prog.info? 46 = some ((Tryz.prog.info? 46).get (by kernel_rfl))), by kernel_rfl, (by kernel_rfl : _ = some (((Tryz.prog.info? 46).get (by kernel_rfl)).zero.get (by kernel_rfl))), by kernel_rfl⟩, rfl, ⟨_, Tryz.underlying46, by kernel_rfl, rfl⟩⟩
theorem tyF47 : TyF Tryz.prog 47 ⟨4, .st [(0, 2), (2, 2)], [.sl 3 1, .sl 3 1, .sl 178 1, .sl 178 1]⟩ :=
  ⟨⟨_, _, (by kernel_rfl : Tryz.prog.info? 47 = some ((Tryz.prog.info? 47).get (by kernel_rfl))), by kernel_rfl, (by kernel_rfl : _ = some (((Tryz.prog.info? 47).get (by kernel_rfl)).zero.get (by kernel_rfl))), by kernel_rfl⟩, rfl, ⟨_, Tryz.underlying47, by kernel_rfl, rfl⟩⟩
theorem tyF48 : TyF Tryz.prog 48 ⟨4, .st [(0, 2), (2, 2)], [.sl 3 1, .sl 3 1, .sl 178 1, .sl 178 1]⟩ :=
  ⟨⟨_, _, (by kernel_rfl : Tryz.prog.info? 48 = some ((Tryz.prog.info? 48).get (by kernel_rfl))), by kernel_rfl, (by kernel_rfl : _ = some (((Tryz.prog.info? 48).get (by kernel_rfl)).zero.get (by kernel_rfl))), by kernel_rfl⟩, rfl, ⟨_, Tryz.underlying48, by kernel_rfl, rfl⟩⟩
theorem tyF49 : TyF Tryz.prog 49 ⟨1, .sl 99 4 32, [.sl 99 4]⟩ :=
  ⟨⟨_, _, (by kernel_rfl : Tryz.prog.info? 49 = some ((Tryz.prog.info? 49).get (by kernel_rfl))), by kernel_rfl, (by kernel_rfl : _ = some (((Tryz.prog.info? 49).get (by kernel_rfl)).zero.get (by kernel_rfl))), by kernel_rfl⟩, rfl, ⟨Tryz.underlying49, _, _, (by kernel_rfl : Tryz.prog.info? 99 = some ((Tryz.prog.info? 99).get (by kernel_rfl))), by kernel_rfl, by kernel_rfl, (by kernel_rfl : _ = some (((Tryz.prog.info? 99).get (by kernel_rfl)).zero.get (by kernel_rfl))), by kernel_rfl, by decide, by kernel_rfl⟩⟩
theorem tyF50 : TyF Tryz.prog 50 ⟨2, .st [(0, 1), (1, 1)], [.lit (.int .i64 0), .sl 99 4]⟩ :=
  ⟨⟨_, _, (by kernel_rfl : Tryz.prog.info? 50 = some ((Tryz.prog.info? 50).get (by kernel_rfl))), by kernel_rfl, (by kernel_rfl : _ = some (((Tryz.prog.info? 50).get (by kernel_rfl)).zero.get (by kernel_rfl))), by kernel_rfl⟩, rfl, ⟨_, Tryz.underlying50, by kernel_rfl, rfl⟩⟩
theorem tyF51 : TyF Tryz.prog 51 ⟨2, .st [(0, 1), (1, 1)], [.lit (.int .i64 0), .sl 99 4]⟩ :=
  ⟨⟨_, _, (by kernel_rfl : Tryz.prog.info? 51 = some ((Tryz.prog.info? 51).get (by kernel_rfl))), by kernel_rfl, (by kernel_rfl : _ = some (((Tryz.prog.info? 51).get (by kernel_rfl)).zero.get (by kernel_rfl))), by kernel_rfl⟩, rfl, ⟨_, Tryz.underlying51, by kernel_rfl, rfl⟩⟩
theorem tyF52 : TyF Tryz.prog 52 ⟨1, .sl 182 1 24, [.sl 182 1]⟩ :=
  ⟨⟨_, _, (by kernel_rfl : Tryz.prog.info? 52 = some ((Tryz.prog.info? 52).get (by kernel_rfl))), by kernel_rfl, (by kernel_rfl : _ = some (((Tryz.prog.info? 52).get (by kernel_rfl)).zero.get (by kernel_rfl))), by kernel_rfl⟩, rfl, ⟨Tryz.underlying52, _, _, (by kernel_rfl : Tryz.prog.info? 182 = some ((Tryz.prog.info? 182).get (by kernel_rfl))), by kernel_rfl, by kernel_rfl, (by kernel_rfl : _ = some (((Tryz.prog.info? 182).get (by kernel_rfl)).zero.get (by kernel_rfl))), by kernel_rfl, by decide, by kernel_rfl⟩⟩
theorem tyF53 : TyF Tryz.prog 53 ⟨8, .st [(0, 4), (4, 2), (6, 1), (7, 1)], [.sl 3 1, .sl 3 1, .sl 178 1, .sl 178 1, .lit (.int .i64 0), .sl 99 4, .sl 182 1, .sl 3 1]⟩ :=
  ⟨⟨_, _, (by kernel_rfl : Tryz.prog.info? 53 = some ((Tryz.prog.info? 53).get (by kernel_rfl))), by kernel_rfl, (by kernel_rfl : _ = some (((Tryz.prog.info? 53).get (by kernel_rfl)).zero.get (by kernel_rfl))), by kernel_rfl⟩, rfl, ⟨_, Tryz.underlying53, by kernel_rfl, rfl⟩⟩
theorem tyF54 : TyF Tryz.prog 54 ⟨8, .st [(0, 4), (4, 2), (6, 1), (7, 1)], [.sl 3 1, .sl 3 1, .sl 178 1, .sl 178 1, .lit (.int .i64 0), .sl 99 4, .sl 182 1, .sl 3 1]⟩ :=
  ⟨⟨_, _, (by kernel_rfl : Tryz.prog.info? 54 = some ((Tryz.prog.info? 54).get (by kernel_rfl))), by kernel_rfl, (by kernel_rfl : _ = some (((Tryz.prog.info? 54).get (by kernel_rfl)).zero.get (by kernel_rfl))), by kernel_rfl⟩, rfl, ⟨_, Tryz.underlying54, by kernel_rfl, rfl⟩⟩
theorem tyF55 : TyF Tryz.prog 55 ⟨1, .sl 82 21 168, [.sl 82 21]⟩ :=
  ⟨⟨_, _, (by kernel_rfl : Tryz.prog.info? 55 = some ((Tryz.prog.info? 55).get (by kernel_rfl))), by kernel_rfl, (by kernel_rfl : _ = some (((Tryz.prog.info? 55).get (by kernel_rfl)).zero.get (by kernel_rfl))), by kernel_rfl⟩, rfl, ⟨Tryz.underlying55, _, _, (by kernel_rfl : Tryz.prog.info? 82 = some ((Tryz.prog.info? 82).get (by kernel_rfl))), by kernel_rfl, by kernel_rfl, (by kernel_rfl : _ = some (((Tryz.prog.info? 82).get (by kernel_rfl)).zero.get (by kernel_rfl))), by kernel_rfl, by decide, by kernel_rfl⟩⟩
theorem tyF56 : TyF Tryz.prog 56 ⟨1, .sl 112 1 24, [.sl 112 1]⟩ :=
  ⟨⟨_, _, (by kernel_rfl : Tryz.prog.info? 56 = some ((Tryz.prog.info? 56).get (by kernel_rfl))), by kernel_rfl, (by kernel_rfl : _ = some (((Tryz.prog.info? 56).get (by kernel_rfl)).zero.get (by kernel_rfl))), by kernel_rfl⟩, rfl, ⟨Tryz.underlying56, _, _, (by kernel_rfl : Tryz.prog.info? 112 = some ((Tryz.prog.info? 112).get (by kernel_rfl))), by kernel_rfl, by kernel_rfl, (by kernel_rfl : _ = some (((Tryz.prog.info? 112).get (by kernel_rfl)).zero.get (by kernel_rfl))), by kernel_rfl, by decide, by kernel_rfl⟩⟩
theorem tyF57 : TyF Tryz.prog 57 ⟨1, .sl 138 7 56, [.sl 138 7]⟩ :=
  ⟨⟨_, _, (by kernel_rfl : Tryz.prog.info? 57 = some ((Tryz.prog.info? 57).get (by kernel_rfl))), by kernel_rfl, (by kernel_rfl : _ = some (((Tryz.prog.info? 57).get (by kernel_rfl)).zero.get (by kernel_rfl))), by kernel_rfl⟩, rfl, ⟨Tryz.underlying57, _, _, (by kernel_rfl : Tryz.prog.info? 138 = some ((Tryz.prog.info? 138).get (by kernel_rfl))), by kernel_rfl, by kernel_rfl, (by kernel_rfl : _ = some (((Tryz.prog.info? 138).get (by kernel_rfl)).zero.get (by kernel_rfl))), by kernel_rfl, by decide, by kernel_rfl⟩⟩
theorem tyF58 : TyF Tryz.prog 58 ⟨13, .st [(0, 8), (8, 1), (9, 1), (10, 1), (11, 1), (12, 1)], [.sl 3 1, .sl 3 1, .sl 178 1, .sl 178 1, .lit (.int .i64 0), .sl 99 4, .sl 182 1, .sl 3 1, .sl 3 1, .sl 82 21, .sl 112 1, .sl 138 7, .lit (.int .i64 0)]⟩ :=
  ⟨⟨_, _, (by kernel_rfl : Tryz.prog.info? 58 = some ((Tryz.prog.info? 58).get (by kernel_rfl))), by kernel_rfl, (by kernel_rfl : _ = some (((Tryz.prog.info? 58).get (by kernel_rfl)).zero.get (by kernel_rfl))), by kernel_rfl⟩, rfl, ⟨_, Tryz.underlying58, by kernel_rfl, rfl⟩⟩
theorem tyF59 : TyF Tryz.prog 59 ⟨13, .st [(0, 8), (8, 1), (9, 1), (10, 1), (11, 1), (12, 1)], [.sl 3 1, .sl 3 1, .sl 178 1, .sl 178 1, .lit (.int .i64 0), .sl 99 4, .sl 182 1, .sl 3 1, .sl 3 1, .sl 82 21, .sl 112 1, .sl 138 7, .lit (.int .i64 0)]⟩ :=
  ⟨⟨_, _, (by kernel_rfl : Tryz.prog.info? 59 = some ((Tryz.prog.info? 59).get (by kernel_rfl))), by kernel_rfl, (by kernel_rfl : _ = some (((Tryz.prog.info? 59).get (by kernel_rfl)).zero.get (by kernel_rfl))), by kernel_rfl⟩, rfl, ⟨_, Tryz.underlying59, by kernel_rfl, rfl⟩⟩
theorem tyF77 : TyF Tryz.prog 77 ⟨4, .st [(0, 1), (1, 1), (2, 1), (3, 1)], [.lit (.int .i64 0), .lit (.int .i64 0), .lit (.int .i64 0), .lit (.int .i64 0)]⟩ :=
  ⟨⟨_, _, (by kernel_rfl : Tryz.prog.info? 77 = some ((Tryz.prog.info? 77).get (by kernel_rfl))), by kernel_rfl, (by kernel_rfl : _ = some (((Tryz.prog.info? 77).get (by kernel_rfl)).zero.get (by kernel_rfl))), by kernel_rfl⟩, rfl, ⟨_, Tryz.underlying77, by kernel_rfl, rfl⟩⟩
theorem tyF78 : TyF Tryz.prog 78 ⟨4, .st [(0, 1), (1, 1), (2, 1), (3, 1)], [.lit (.int .i64 0), .lit (.int .i64 0), .lit (.int .i64 0), .lit (.int .i64 0)]⟩ :=
  ⟨⟨_, _, (by kernel_rfl : Tryz.prog.info? 78 = some ((Tryz.prog.info? 78).get (by kernel_rfl))), by kernel_rfl, (by kernel_rfl : _ = some (((Tryz.prog.info? 78).get (by kernel_rfl)).zero.get (by kernel_rfl))), by kernel_rfl⟩, rfl, ⟨_, Tryz.underlying78, by kernel_rfl, rfl⟩⟩
theorem tyF79 : TyF Tryz.prog 79 ⟨10, .st [(0, 1), (1, 1), (2, 1), (3, 1), (4, 1), (5, 1), (6, 1), (7, 1), (8, 1), (9, 1)], [.lit (.int .i64 0), .lit (.int .i64 0), .lit (.int .i64 0), .lit (.int .i64 0), .lit (.int .i64 0), .lit (.int .i64 0), .lit (.int .i64 0), .lit (.int .i64 0), .lit (.int .i64 0), .lit (.bool false)]⟩ :=
  ⟨⟨_, _, (by kernel_rfl : Tryz.prog.info? 79 = some ((Tryz.prog.info? 79).get (by kernel_rfl))), by kernel_rfl, (by kernel_rfl : _ = some (((Tryz.prog.info? 79).get (by kernel_rfl)).zero.get (by kernel_rfl))), by kernel_rfl⟩, rfl, ⟨_, Tryz.underlying79, by kernel_rfl, rfl⟩⟩
theorem tyF80 : TyF Tryz.prog 80 ⟨10, .st [(0, 1), (1, 1), (2, 1), (3, 1), (4, 1), (5, 1), (6, 1), (7, 1), (8, 1), (9, 1)], [.lit (.int .i64 0), .lit (.int .i64 0), .lit (.int .i64 0), .lit (.int .i64 0), .lit (.int .i64 0), .lit (.int .i64 0), .lit (.int .i64 0), .lit (.int .i64 0), .lit (.int .i64 0), .lit (.bool false)]⟩ :=
  ⟨⟨_, _, (by kernel_rfl : Tryz.prog.info? 80 = some ((Tryz.prog.info? 80).get (by kernel_rfl))), by kernel_rfl, (by kernel_rfl : _ = some (((Tryz.prog.info? 80).get (by kernel_rfl)).zero.get (by kernel_rfl))), by kernel_rfl⟩, rfl, ⟨_, Tryz.underlying80, by kernel_rfl, rfl⟩⟩
theorem tyF81 : TyF Tryz.prog 81 ⟨21, .st [(0, 1), (1, 4), (5, 1), (6, 1), (7, 10), (17, 1), (18, 1), (19, 1), (20, 1)], [.lit (.bool false), .lit (.int .i64 0), .lit (.int .i64 0), .lit (.int .i64 0), .lit (.int .i64 0), .lit (.int .i64 0), .lit (.int .i64 0), .lit (.int .i64 0), .lit (.int .i64 0), .lit (.int .i64 0), .lit (.int .i64 0), .lit (.int .i64 0), .lit (.int .i64 0), .lit (.int .i64 0), .lit (.int .i64 0), .lit (.int .i64 0), .lit (.bool false), .lit (.int .i64 0), .lit (.int .i64 0), .lit (.int .i64 0), .lit (.int .i64 0)]⟩ :=
  ⟨⟨_, _, (by kernel_rfl : Tryz.prog.info? 81 = some ((Tryz.prog.info? 81).get (by kernel_rfl))), by kernel_rfl, (by kernel_rfl : _ = some (((Tryz.prog.info? 81).get (by kernel_rfl)).zero.get (by kernel_rfl))), by kernel_rfl⟩, rfl, ⟨_, Tryz.underlying81, by kernel_rfl, rfl⟩⟩
theorem tyF82 : TyF Tryz.prog 82 ⟨21, .st [(0, 1), (1, 4), (5, 1), (6, 1), (7, 10), (17, 1), (18, 1), (19, 1), (20, 1)], [.lit (.bool false), .lit (.int .i64 0), .lit (.int .i64 0), .lit (.int .i64 0), .lit (.int .i64 0), .lit (.int .i64 0), .lit (.int .i64 0), .lit (.int .i64 0), .lit (.int .i64 0), .lit (.int .i64 0), .lit (.int .i64 0), .lit (.int .i64 0), .lit (.int .i64 0), .lit (.int .i64 0), .lit (.int .i64 0), .lit (.int .i64 0), .lit (.bool false), .lit (.int .i64 0), .lit (.int .i64 0), .lit (.int .i64 0), .lit (.int .i64 0)]⟩ :=
  ⟨⟨_, _, (by kernel_rfl : Tryz.prog.info? 82 = some ((Tryz.prog.info? 82).get (by kernel_rfl))), by kernel_rfl, (by kernel_rfl : _ = some (((Tryz.prog.info? 82).get (by kernel_rfl)).zero.get (by kernel_rfl))), by kernel_rfl⟩, rfl, ⟨_, Tryz.underlying82, by kernel_rfl, rfl⟩⟩
theorem tyF98 : TyF Tryz.prog 98 ⟨4, .st [(0, 1), (1, 1), (2, 1), (3, 1)], [.lit (.bool false), .lit (.int .i64 0), .lit (.bool false), .lit (.int .i64 0)]⟩ :=
  ⟨⟨_, _, (by kernel_rfl : Tryz.prog.info? 98 = some ((Tryz.prog.info? 98).get (by kernel_rfl))), by kernel_rfl, (by kernel_rfl : _ = some (((Tryz.prog.info? 98).get (by kernel_rfl)).zero.get (by kernel_rfl))), by kernel_rfl⟩, rfl, ⟨_, Tryz.underlying98, by kernel_rfl, rfl⟩⟩
theorem tyF99 : TyF Tryz.prog 99 ⟨4, .st [(0, 1), (1, 1), (2, 1), (3, 1)], [.lit (.bool false), .lit (.int .i64 0), .lit (.bool false), .lit (.int .i64 0)]⟩ :=
  ⟨⟨_, _, (by kernel_rfl : Tryz.prog.info? 99 = some ((Tryz.prog.info? 99).get (by kernel_rfl))), by kernel_rfl, (by kernel_rfl : _ = some (((Tryz.prog.info? 99).get (by kernel_rfl)).zero.get (by kernel_rfl))), by kernel_rfl⟩, rfl, ⟨_, Tryz.underlying99, by kernel_rfl, rfl⟩⟩
theorem tyF110 : TyF Tryz.prog 110 ⟨1, .sl 78 4 32, [.sl 78 4]⟩ :=
  ⟨⟨_, _, (by kernel_rfl : Tryz.prog.info? 110 = some ((Tryz.prog.info? 110).get (by kernel_rfl))), by kernel_rfl, (by kernel_rfl : _ = some (((Tryz.prog.info? 110).get (by kernel_rfl)).zero.get (by kernel_rfl))), by kernel_rfl⟩, rfl, ⟨Tryz.underlying110, _, _, (by kernel_rfl : Tryz.prog.info? 78 = some ((Tryz.prog.info? 78).get (by kernel_rfl))), by kernel_rfl, by kernel_rfl, (by kernel_rfl : _ = some (((Tryz.prog.info? 78).get (by kernel_rfl)).zero.get (by kernel_rfl))), by kernel_rfl, by decide, by kernel_rfl⟩⟩
theorem tyF111 : TyF Tryz.prog 111 ⟨1, .st [(0, 1)], [.sl 78 4]⟩ :=
  ⟨⟨_, _, (by kernel_rfl : Tryz.prog.info? 111 = some ((Tryz.prog.info? 111).get (by kernel_rfl))), by kernel_rfl, (by kernel_rfl : _ = some (((Tryz.prog.info? 111).get (by kernel_rfl)).zero.get (by kernel_rfl))), by kernel_rfl⟩, rfl, ⟨_, Tryz.underlying111, by kernel_rfl, rfl⟩⟩
theorem tyF112 : TyF Tryz.prog 112 ⟨1, .st [(0, 1)], [.sl 78 4]⟩ :=
  ⟨⟨_, _, (by kernel_rfl : Tryz.prog.info? 112 = some ((Tryz.prog.info? 112).get (by kernel_rfl))), by kernel_rfl, (by kernel_rfl : _ = some (((Tryz.prog.info? 112).get (by kernel_rfl)).zero.get (by kernel_rfl))), by kernel_rfl⟩, rfl, ⟨_, Tryz.underlying112, by kernel_rfl, rfl⟩⟩
theorem tyF118 : TyF Tryz.prog 118 ⟨1, .sl 132 4 32, [.sl 132 4]⟩ :=
  ⟨⟨_, _, (by kernel_rfl : Tryz.prog.info? 118 = some ((Tryz.prog.info? 118).get (by kernel_rfl))), by kernel_rfl, (by kernel_rfl : _ = some (((Tryz.prog.info? 118).get (by kernel_rfl)).zero.get (by kernel_rfl))), by kernel_rfl⟩, rfl, ⟨Tryz.underlying118, _, _, (by kernel_rfl : Tryz.prog.info? 132 = some ((Tryz.prog.info? 132).get (by kernel_rfl))), by kernel_rfl, by kernel_rfl, (by kernel_rfl : _ = some (((Tryz.prog.info? 132).get (by kernel_rfl)).zero.get (by kernel_rfl))), by kernel_rfl, by decide, by kernel_rfl⟩⟩
theorem tyF119 : TyF Tryz.prog 119 ⟨1, .st [(0, 1)], [.sl 132 4]⟩ :=
  ⟨⟨_, _, (by kernel_rfl : Tryz.prog.info? 119 = some ((Tryz.prog.info? 119).get (by kernel_rfl))), by kernel_rfl, (by kernel_rfl : _ = some (((Tryz.prog.info? 119).get (by kernel_rfl)).zero.get (by kernel_rfl))), by kernel_rfl⟩, rfl, ⟨_, Tryz.underlying119, by kernel_rfl, rfl⟩⟩
theorem tyF120 : TyF Tryz.prog 120 ⟨1, .st [(0, 1)], [.sl 132 4]⟩ :=
  ⟨⟨_, _, (by kernel_rfl : Tryz.prog.info? 120 = some ((Tryz.prog.info? 120).get (by kernel_rfl))), by kernel_rfl, (by kernel_rfl : _ = some (((Tryz.prog.info? 120).get (by kernel_rfl)).zero.get (by kernel_rfl))), by kernel_rfl⟩, rfl, ⟨_, Tryz.underlying120, by kernel_rfl, rfl⟩⟩
theorem tyF124 : TyF Tryz.prog 124 ⟨1, .sl 127 2 16, [.sl 127 2]⟩ :=
  ⟨⟨_, _, (by kernel_rfl : Tryz.prog.info? 124 = some ((Tryz.prog.info? 124).get (by kernel_rfl))), by kernel_rfl, (by kernel_rfl : _ = some (((Tryz.prog.info? 124).get (by kernel_rfl)).zero.get (by kernel_rfl))), by kernel_rfl⟩, rfl, ⟨Tryz.underlying124, _, _, (by kernel_rfl : Tryz.prog.info? 127 = some ((Tryz.prog.info? 127).get (by kernel_rfl))), by kernel_rfl, by kernel_rfl, (by kernel_rfl : _ = some (((Tryz.prog.info? 127).get (by kernel_rfl)).zero.get (by kernel_rfl))), by kernel_rfl, by decide, by kernel_rfl⟩⟩
theorem tyF126 : TyF Tryz.prog 126 ⟨2, .st [(0, 1), (1, 1)], [.lit (.int .i64 0), .lit (.int .i64 0)]⟩ :=
  ⟨⟨_, _, (by kernel_rfl : Tryz.prog.info? 126 = some ((Tryz.prog.info? 126).get (by kernel_rfl))), by kernel_rfl, (by kernel_rfl : _ = some (((Tryz.prog.info? 126).get (by kernel_rfl)).zero.get (by kernel_rfl))), by kernel_rfl⟩, rfl, ⟨_, Tryz.underlying126, by kernel_rfl, rfl⟩⟩
theorem tyF127 : TyF Tryz.prog 127 ⟨2, .st [(0, 1), (1, 1)], [.lit (.int .i64 0), .lit (.int .i64 0)]⟩ :=
  ⟨⟨_, _, (by kernel_rfl : Tryz.prog.info? 127 = some ((Tryz.prog.info? 127).get (by kernel_rfl))), by kernel_rfl, (by kernel_rfl : _ = some (((Tryz.prog.info? 127).get (by kernel_rfl)).zero.get (by kernel_rfl))), by kernel_rfl⟩, rfl, ⟨_, Tryz.underlying127, by kernel_rfl, rfl⟩⟩
theorem tyF132 : TyF Tryz.prog 132 ⟨4, .st [(0, 1), (1, 1), (2, 1), (3, 1)], [.lit (.int .i64 0), .lit (.int .i64 0), .lit (.int .i64 0), .lit (.int .i64 0)]⟩ :=
  ⟨⟨_, _, (by kernel_rfl : Tryz.prog.info? 132 = some ((Tryz.prog.info? 132).get (by kernel_rfl))), by kernel_rfl, (by kernel_rfl : _ = some (((Tryz.prog.info? 132).get (by kernel_rfl)).zero.get (by kernel_rfl))), by kernel_rfl⟩, rfl, ⟨_, Tryz.underlying132, by kernel_rfl, rfl⟩⟩
theorem tyF133 : TyF Tryz.prog 133 ⟨10, .st [(0, 1), (1, 1), (2, 1), (3, 1), (4, 1), (5, 1), (6, 1), (7, 1), (8, 1), (9, 1)], [.lit (.int .i64 0), .lit (.int .i64 0), .lit (.int .i64 0), .lit (.int .i64 0), .lit (.int .i64 0), .lit (.int .i64 0), .lit (.int .i64 0), .lit (.int .i64 0), .lit (.int .i64 0), .lit (.bool false)]⟩ :=
  ⟨⟨_, _, (by kernel_rfl : Tryz.prog.info? 133 = some ((Tryz.prog.info? 133).get (by kernel_rfl))), by kernel_rfl, (by kernel_rfl : _ = some (((Tryz.prog.info? 133).get (by kernel_rfl)).zero.get (by kernel_rfl))), by kernel_rfl⟩, rfl, ⟨_, Tryz.underlying133, by kernel_rfl, rfl⟩⟩
theorem tyF134 : TyF Tryz.prog 134 ⟨21, .st [(0, 1), (1, 4), (5, 1), (6, 1), (7, 10), (17, 1), (18, 1), (19, 1), (20, 1)], [.lit (.bool false), .lit (.int .i64 0), .lit (.int .i64 0), .lit (.int .i64 0), .lit (.int .i64 0), .lit (.int .i64 0), .lit (.int .i64 0), .lit (.int .i64 0), .lit (.int .i64 0), .lit (.int .i64 0), .lit (.int .i64 0), .lit (.int .i64 0), .lit (.int .i64 0), .lit (.int .i64 0), .lit (.int .i64 0), .lit (.int .i64 0), .lit (.bool false), .lit (.int .i64 0), .lit (.int .i64 0), .lit (.int .i64 0), .lit (.int .i64 0)]⟩ :=
  ⟨⟨_, _, (by kernel_rfl : Tryz.prog.info? 134 = some ((Tryz.prog.info? 134).get (by kernel_rfl))), by kernel_rfl, (by kernel_rfl : _ = some (((Tryz.prog.info? 134).get (by kernel_rfl)).zero.get (by kernel_rfl))), by kernel_rfl⟩, rfl, ⟨_, Tryz.underlying134, by kernel_rfl, rfl⟩⟩
theorem tyF135 : TyF Tryz.prog 135 ⟨21, .st [(0, 1), (1, 4), (5, 1), (6, 1), (7, 10), (17, 1), (18, 1), (19, 1), (20, 1)], [.lit (.bool false), .lit (.int .i64 0), .lit (.int .i64 0), .lit (.int .i64 0), .lit (.int .i64 0), .lit (.int .i64 0), .lit (.int .i64 0), .lit (.int .i64 0), .lit (.int .i64 0), .lit (.int .i64 0), .lit (.int .i64 0), .lit (.int .i64 0), .lit (.int .i64 0), .lit (.int .i64 0), .lit (.int .i64 0), .lit (.int .i64 0), .lit (.bool false), .lit (.int .i64 0), .lit (.int .i64 0), .lit (.int .i64 0), .lit (.int .i64 0)]⟩ :=
  ⟨⟨_, _, (by kernel_rfl : Tryz.prog.info? 135 = some ((Tryz.prog.info? 135).get (by kernel_rfl))), by kernel_rfl, (by kernel_rfl : _ = some (((Tryz.prog.info? 135).get (by kernel_rfl)).zero.get (by kernel_rfl))), by kernel_rfl⟩, rfl, ⟨_, Tryz.underlying135, by kernel_rfl, rfl⟩⟩
theorem tyF137 : TyF Tryz.prog 137 ⟨7, .st [(0, 1), (1, 1), (2, 1), (3, 1), (4, 1), (5, 1), (6, 1)], [.lit (.int .i64 0), .lit (.int .i64 0), .lit (.int .i64 0), .lit (.int .i64 0), .lit (.int .i64 0), .lit (.int .i64 0), .lit (.int .i64 0)]⟩ :=
  ⟨⟨_, _, (by kernel_rfl : Tryz.prog.info? 137 = some ((Tryz.prog.info? 137).get (by kernel_rfl))), by kernel_rfl, (by kernel_rfl : _ = some (((Tryz.prog.info? 137).get (by kernel_rfl)).zero.get (by kernel_rfl))), by kernel_rfl⟩, rfl, ⟨_, Tryz.underlying137, by kernel_rfl, rfl⟩⟩
theorem tyF138 : TyF Tryz.prog 138 ⟨7, .st [(0, 1), (1, 1), (2, 1), (3, 1), (4, 1), (5, 1), (6, 1)], [.lit (.int .i64 0), .lit (.int .i64 0), .lit (.int .i64 0), .lit (.int .i64 0), .lit (.int .i64 0), .lit (.int .i64 0), .lit (.int .i64 0)]⟩ :=
  ⟨⟨_, _, (by kernel_rfl : Tryz.prog.info? 138 = some ((Tryz.prog.info? 138).get (by kernel_rfl))), by kernel_rfl, (by kernel_rfl : _ = some (((Tryz.prog.info? 138).get (by kernel_rfl)).zero.get (by kernel_rfl))), by kernel_rfl⟩, rfl, ⟨_, Tryz.underlying138, by kernel_rfl, rfl⟩⟩
theorem tyF140 : TyF Tryz.prog 140 ⟨7, .st [(0, 1), (1, 1), (2, 1), (3, 1), (4, 1), (5, 1), (6, 1)], [.lit (.int .i64 0), .lit (.int .i64 0), .lit (.int .i64 0), .lit (.int .i64 0), .lit (.int .i64 0), .lit (.int .i64 0), .lit (.int .i64 0)]⟩ :=
  ⟨⟨_, _, (by kernel_rfl : Tryz.prog.info? 140 = some ((Tryz.prog.info? 140).get (by kernel_rfl))), by kernel_rfl, (by kernel_rfl : _ = some (((Tryz.prog.info? 140).get (by kernel_rfl)).zero.get (by kernel_rfl))), by kernel_rfl⟩, rfl, ⟨_, Tryz.underlying140, by kernel_rfl, rfl⟩⟩
theorem tyF157 : TyF Tryz.prog 157 ⟨8, .st [(0, 8)], [.sl 3 1, .sl 3 1, .sl 178 1, .sl 178 1, .lit (.int .i64 0), .sl 99 4, .sl 182 1, .sl 3 1]⟩ :=
  ⟨⟨_, _, (by kernel_rfl : Tryz.prog.info? 157 = some ((Tryz.prog.info? 157).get (by kernel_rfl))), by kernel_rfl, (by kernel_rfl : _ = some (((Tryz.prog.info? 157).get (by kernel_rfl)).zero.get (by kernel_rfl))), by kernel_rfl⟩, rfl, ⟨_, Tryz.underlying157, by kernel_rfl, rfl⟩⟩
theorem tyF158 : TyF Tryz.prog 158 ⟨8, .st [(0, 8)], [.sl 3 1, .sl 3 1, .sl 178 1, .sl 178 1, .lit (.int .i64 0), .sl 99 4, .sl 182 1, .sl 3 1]⟩ :=
  ⟨⟨_, _, (by kernel_rfl : Tryz.prog.info? 158 = some ((Tryz.prog.info? 158).get (by kernel_rfl))), by kernel_rfl, (by kernel_rfl : _ = some (((Tryz.prog.info? 158).get (by kernel_rfl)).zero.get (by kernel_rfl))), by kernel_rfl⟩, rfl, ⟨_, Tryz.underlying158, by kernel_rfl, rfl⟩⟩
theorem tyF163 : TyF Tryz.prog 163 ⟨1, .sc, [.lit (.int .u64 0)]⟩ :=
  ⟨⟨_, _, (by kernel_rfl : Tryz.prog.info? 163 = some ((Tryz.prog.info? 163).get (by kernel_rfl))), by kernel_rfl, (by kernel_rfl : _ = some (((Tryz.prog.info? 163).get (by kernel_rfl)).zero.get (by kernel_rfl))), by kernel_rfl⟩, rfl, ⟨_, Tryz.underlying163, rfl⟩⟩
theorem tyF170 : TyF Tryz.prog 170 ⟨1, .sl 253 2 16, [.sl 253 2]⟩ :=
  ⟨⟨_, _, (by kernel_rfl : Tryz.prog.info? 170 = some ((Tryz.prog.info? 170).get (by kernel_rfl))), by kernel_rfl, (by kernel_rfl : _ = some (((Tryz.prog.info? 170).get (by kernel_rfl)).zero.get (by kernel_rfl))), by kernel_rfl⟩, rfl, ⟨Tryz.underlying170, _, _, (by kernel_rfl : Tryz.prog.info? 253 = some ((Tryz.prog.info? 253).get (by kernel_rfl))), by kernel_rfl, by kernel_rfl, (by kernel_rfl : _ = some (((Tryz.prog.info? 253).get (by kernel_rfl)).zero.get (by kernel_rfl))), by kernel_rfl, by decide, by kernel_rfl⟩⟩
theorem tyF171 : TyF Tryz.prog 171 ⟨1, .st [(0, 1)], [.sl 253 2]⟩ :=
  ⟨⟨_, _, (by kernel_rfl : Tryz.prog.info? 171 = some ((Tryz.prog.info? 171).get (by kernel_rfl))), by kernel_rfl, (by kernel_rfl : _ = some (((Tryz.prog.info? 171).get (by kernel_rfl)).zero.get (by kernel_rfl))), by kernel_rfl⟩, rfl, ⟨_, Tryz.underlying171, by kernel_rfl, rfl⟩⟩
theorem tyF172 : TyF Tryz.prog 172 ⟨1, .st [(0, 1)], [.sl 253 2]⟩ :=
  ⟨⟨_, _, (by kernel_rfl : Tryz.prog.info? 172 = some ((Tryz.prog.info? 172).get (by kernel_rfl))), by kernel_rfl, (by kernel_rfl : _ = some (((Tryz.prog.info? 172).get (by kernel_rfl)).zero.get (by kernel_rfl))), by kernel_rfl⟩, rfl, ⟨_, Tryz.underlying172, by kernel_rfl, rfl⟩⟩
theorem tyF177 : TyF Tryz.prog 177 ⟨1, .st [(0, 1)], [.sl 3 1]⟩ :=
  ⟨⟨_, _, (by kernel_rfl : Tryz.prog.info? 177 = some ((Tryz.prog.info? 177).get (by kernel_rfl))), by kernel_rfl, (by kernel_rfl : _ = some (((Tryz.prog.info? 177).get (by kernel_rfl)).zero.get (by kernel_rfl))), by kernel_rfl⟩, rfl, ⟨_, Tryz.underlying177, by kernel_rfl, rfl⟩⟩
theorem tyF178 : TyF Tryz.prog 178 ⟨1, .st [(0, 1)], [.sl 3 1]⟩ :=
  ⟨⟨_, _, (by kernel_rfl : Tryz.prog.info? 178 = some ((Tryz.prog.info? 178).get (by kernel_rfl))), by kernel_rfl, (by kernel_rfl : _ = some (((Tryz.prog.info? 178).get (by kernel_rfl)).zero.get (by kernel_rfl))), by kernel_rfl⟩, rfl, ⟨_, Tryz.underlying178, by kernel_rfl, rfl⟩⟩
theorem tyF181 : TyF Tryz.prog 181 ⟨1, .st [(0, 1)], [.sl 127 2]⟩ :=
  ⟨⟨_, _, (by kernel_rfl : Tryz.prog.info? 181 = some ((Tryz.prog.info? 181).get (by kernel_rfl))), by kernel_rfl, (by kernel_rfl : _ = some (((Tryz.prog.info? 181).get (by kernel_rfl)).zero.get (by kernel_rfl))), by kernel_rfl⟩, rfl, ⟨_, Tryz.underlying181, by kernel_rfl, rfl⟩⟩
theorem tyF182 : TyF Tryz.prog 182 ⟨1, .st [(0, 1)], [.sl 127 2]⟩ :=
  ⟨⟨_, _, (by kernel_rfl : Tryz.prog.info? 182 = some ((Tryz.prog.info? 182).get (by kernel_rfl))), by kernel_rfl, (by kernel_rfl : _ = some (((Tryz.prog.info? 182).get (by kernel_rfl)).zero.get (by kernel_rfl))), by kernel_rfl⟩, rfl, ⟨_, Tryz.underlying182, by kernel_rfl, rfl⟩⟩
theorem tyF193 : TyF Tryz.prog 193 ⟨24, .arr 24 4 1, [.lit (.bool false), .lit (.bool false), .lit (.bool false), .lit (.bool false), .lit (.bool false), .lit (.bool false), .lit (.bool false), .lit (.bool false), .lit (.bool false), .lit (.bool false), .lit (.bool false), .lit (.bool false), .lit (.bool false), .lit (.bool false), .lit (.bool false), .lit (.bool false), .lit (.bool false), .lit (.bool false), .lit (.bool false), .lit (.bool false), .lit (.bool false), .lit (.bool false), .lit (.bool false), .lit (.bool false)]⟩ :=
  ⟨⟨_, _, (by kernel_rfl : Tryz.prog.info? 193 = some ((Tryz.prog.info? 193).get (by kernel_rfl))), by kernel_rfl, (by kernel_rfl : _ = some (((Tryz.prog.info? 193).get (by kernel_rfl)).zero.get (by kernel_rfl))), by kernel_rfl⟩, rfl, ⟨Tryz.underlying193, _, (by kernel_rfl : Tryz.prog.info? 4 = some ((Tryz.prog.info? 4).get (by kernel_rfl))), by kernel_rfl⟩⟩
theorem tyF214 : TyF Tryz.prog 214 ⟨1, .sc, [.lit (.int .u32 0)]⟩ :=
  ⟨⟨_, _, (by kernel_rfl : Tryz.prog.info? 214 = some ((Tryz.prog.info? 214).get (by kernel_rfl))), by kernel_rfl, (by kernel_rfl : _ = some (((Tryz.prog.info? 214).get (by kernel_rfl)).zero.get (by kernel_rfl))), by kernel_rfl⟩, rfl, ⟨_, Tryz.underlying214, rfl⟩⟩
theorem tyF217 : TyF Tryz.prog 217 ⟨1, .sc, [.lit (.int .u64 0)]⟩ :=
  ⟨⟨_, _, (by kernel_rfl : Tryz.prog.info? 217 = some ((Tryz.prog.info? 217).get (by kernel_rfl))), by kernel_rfl, (by kernel_rfl : _ = some (((Tryz.prog.info? 217).get (by kernel_rfl)).zero.get (by kernel_rfl))), by kernel_rfl⟩, rfl, ⟨_, Tryz.underlying217, rfl⟩⟩
theorem tyF226 : TyF Tryz.prog 226 ⟨4, .st [(0, 1), (1, 1), (2, 1), (3, 1)], [.lit (.bool false), .lit (.int .i64 0), .lit (.bool false), .lit (.int .i64 0)]⟩ :=
  ⟨⟨_, _, (by kernel_rfl : Tryz.prog.info? 226 = some ((Tryz.prog.info? 226).get (by kernel_rfl))), by kernel_rfl, (by kernel_rfl : _ = some (((Tryz.prog.info? 226).get (by kernel_rfl)).zero.get (by kernel_rfl))), by kernel_rfl⟩, rfl, ⟨_, Tryz.underlying226, by kernel_rfl, rfl⟩⟩
theorem tyF228 : TyF Tryz.prog 228 ⟨8, .arr 8 3 1, [.lit (.int .i64 0), .lit (.int .i64 0), .lit (.int .i64 0), .lit (.int .i64 0), .lit (.int .i64 0), .lit (.int .i64 0), .lit (.int .i64 0), .lit (.int .i64 0)]⟩ :=
  ⟨⟨_, _, (by kernel_rfl : Tryz.prog.info? 228 = some ((Tryz.prog.info? 228).get (by kernel_rfl))), by kernel_rfl, (by kernel_rfl : _ = some (((Tryz.prog.info? 228).get (by kernel_rfl)).zero.get (by kernel_rfl))), by kernel_rfl⟩, rfl, ⟨Tryz.underlying228, _, (by kernel_rfl : Tryz.prog.info? 3 = some ((Tryz.prog.info? 3).get (by kernel_rfl))), by kernel_rfl⟩⟩
theorem tyF234 : TyF Tryz.prog 234 ⟨1, .sc, [.lit (.int .i64 0)]⟩ :=
  ⟨⟨_, _, (by kernel_rfl : Tryz.prog.info? 234 = some ((Tryz.prog.info? 234).get (by kernel_rfl))), by kernel_rfl, (by kernel_rfl : _ = some (((Tryz.prog.info? 234).get (by kernel_rfl)).zero.get (by kernel_rfl))), by kernel_rfl⟩, rfl, ⟨_, Tryz.underlying234, rfl⟩⟩
theorem tyF250 : TyF Tryz.prog 250 ⟨1, .st [(0, 1)], [.sl 3 1]⟩ :=
  ⟨⟨_, _, (by kernel_rfl : Tryz.prog.info? 250 = some ((Tryz.prog.info? 250).get (by kernel_rfl))), by kernel_rfl, (by kernel_rfl : _ = some (((Tryz.prog.info? 250).get (by kernel_rfl)).zero.get (by kernel_rfl))), by kernel_rfl⟩, rfl, ⟨_, Tryz.underlying250, by kernel_rfl, rfl⟩⟩
theorem tyF253 : TyF Tryz.prog 253 ⟨2, .st [(0, 1), (1, 1)], [.lit (.int .i64 0), .lit (.int .i64 0)]⟩ :=
  ⟨⟨_, _, (by kernel_rfl : Tryz.prog.info? 253 = some ((Tryz.prog.info? 253).get (by kernel_rfl))), by kernel_rfl, (by kernel_rfl : _ = some (((Tryz.prog.info? 253).get (by kernel_rfl)).zero.get (by kernel_rfl))), by kernel_rfl⟩, rfl, ⟨_, Tryz.underlying253, by kernel_rfl, rfl⟩⟩
theorem tyF256 : TyF Tryz.prog 256 ⟨1, .sc, [.lit (.int .u64 0)]⟩ :=
  ⟨⟨_, _, (by kernel_rfl : Tryz.prog.info? 256 = some ((Tryz.prog.info? 256).get (by kernel_rfl))), by kernel_rfl, (by kernel_rfl : _ = some (((Tryz.prog.info? 256).get (by kernel_rfl)).zero.get (by kernel_rfl))), by kernel_rfl⟩, rfl, ⟨_, Tryz.underlying256, rfl⟩⟩
theorem tyF262 : TyF Tryz.prog 262 ⟨1, .sl 44 1 24, [.sl 44 1]⟩ :=
  ⟨⟨_, _, (by kernel_rfl : Tryz.prog.info? 262 = some ((Tryz.prog.info? 262).get (by kernel_rfl))), by kernel_rfl, (by kernel_rfl : _ = some (((Tryz.prog.info? 262).get (by kernel_rfl)).zero.get (by kernel_rfl))), by kernel_rfl⟩, rfl, ⟨Tryz.underlying262, _, _, (by kernel_rfl : Tryz.prog.info? 44 = some ((Tryz.prog.info? 44).get (by kernel_rfl))), by kernel_rfl, by kernel_rfl, (by kernel_rfl : _ = some (((Tryz.prog.info? 44).get (by kernel_rfl)).zero.get (by kernel_rfl))), by kernel_rfl, by decide, by kernel_rfl⟩⟩
theorem tyF268 : TyF Tryz.prog 268 ⟨3, .arr 3 3 1, [.lit (.int .i64 0), .lit (.int .i64 0), .lit (.int .i64 0)]⟩ :=
  ⟨⟨_, _, (by kernel_rfl : Tryz.prog.info? 268 = some ((Tryz.prog.info? 268).get (by kernel_rfl))), by kernel_rfl, (by kernel_rfl : _ = some (((Tryz.prog.info? 268).get (by kernel_rfl)).zero.get (by kernel_rfl))), by kernel_rfl⟩, rfl, ⟨Tryz.underlying268, _, (by kernel_rfl : Tryz.prog.info? 3 = some ((Tryz.prog.info? 3).get (by kernel_rfl))), by kernel_rfl⟩⟩
theorem tyF276 : TyF Tryz.prog 276 ⟨1, .sc, [.lit (.int .u8 0)]⟩ :=
  ⟨⟨_, _, (by kernel_rfl : Tryz.prog.info? 276 = some ((Tryz.prog.info? 276).get (by kernel_rfl))), by kernel_rfl, (by kernel_rfl : _ = some (((Tryz.prog.info? 276).get (by kernel_rfl)).zero.get (by kernel_rfl))), by kernel_rfl⟩, rfl, ⟨_, Tryz.underlying276, rfl⟩⟩
theorem tyF277 : TyF Tryz.prog 277 ⟨1, .sc, [.lit (.int .u8 0)]⟩ :=
  ⟨⟨_, _, (by kernel_rfl : Tryz.prog.info? 277 = some ((Tryz.prog.info? 277).get (by kernel_rfl))), by kernel_rfl, (by kernel_rfl : _ = some (((Tryz.prog.info? 277).get (by kernel_rfl)).zero.get (by kernel_rfl))), by kernel_rfl⟩, rfl, ⟨_, Tryz.underlying277, rfl⟩⟩
theorem tyF280 : TyF Tryz.prog 280 ⟨1, .sc, [.lit (.int .i32 0)]⟩ :=
  ⟨⟨_, _, (by kernel_rfl : Tryz.prog.info? 280 = some ((Tryz.prog.info? 280).get (by kernel_rfl))), by kernel_rfl, (by kernel_rfl : _ = some (((Tryz.prog.info? 280).get (by kernel_rfl)).zero.get (by kernel_rfl))), by kernel_rfl⟩, rfl, ⟨_, Tryz.underlying280, rfl⟩⟩
theorem tyF281 : TyF Tryz.prog 281 ⟨1, .sc, [.lit (.int .i32 0)]⟩ :=
  ⟨⟨_, _, (by kernel_rfl : Tryz.prog.info? 281 = some ((Tryz.prog.info? 281).get (by kernel_rfl))), by kernel_rfl, (by kernel_rfl : _ = some (((Tryz.prog.info? 281).get (by kernel_rfl)).zero.get (by kernel_rfl))), by kernel_rfl⟩, rfl, ⟨_, Tryz.underlying281, rfl⟩⟩
theorem tyOk : TOk Tryz.prog tyT := by
  intro t i h
  unfold tyT at h
  split at h
  · injection h with h; subst h; exact tyF2
  · injection h with h; subst h; exact tyF3
  · injection h with h; subst h; exact tyF4
  · injection h with h; subst h; exact tyF5
  · injection h with h; subst h; exact tyF6
  · injection h with h; subst h; exact tyF7
  · injection h with h; subst h; exact tyF8
  · injection h with h; subst h; exact tyF12
  · injection h with h; subst h; exact tyF21
  · injection h with h; subst h; exact tyF22
  · injection h with h; subst h; exact tyF23
  · injection h with h; subst h; exact tyF24
  · injection h with h; subst h; exact tyF25
  · injection h with h; subst h; exact tyF26
  · injection h with h; subst h; exact tyF27
  · injection h with h; subst h; exact tyF28
  · injection h with h; subst h; exact tyF29
  · injection h with h; subst h; exact tyF30
  · injection h with h; subst h; exact tyF31
  · injection h with h; subst h; exact tyF32
  · injection h with h; subst h; exact tyF33
  · injection h with h; subst h; exact tyF34
  · injection h with h; subst h; exact tyF35
  · injection h with h; subst h; exact tyF36
  · injection h with h; subst h; exact tyF37
  · injection h with h; subst h; exact tyF38
  · injection h with h; subst h; exact tyF39
  · injection h with h; subst h; exact tyF40
  · injection h with h; subst h; exact tyF43
  · injection h with h; subst h; exact tyF44
  · injection h with h; subst h; exact tyF45
  · injection h with h; subst h; exact tyF46
  · injection h with h; subst h; exact tyF47
  · injection h with h; subst h; exact tyF48
  · injection h with h; subst h; exact tyF49
  · injection h with h; subst h; exact tyF50
  · injection h with h; subst h; exact tyF51
  · injection h with h; subst h; exact tyF52
  · injection h with h; subst h; exact tyF53
  · injection h with h; subst h; exact tyF54
  · injection h with h; subst h; exact tyF55
  · injection h with h; subst h; exact tyF56
  · injection h with h; subst h; exact tyF57
  · injection h with h; subst h; exact tyF58
  · injection h with h; subst h; exact tyF59
  · injection h with h; subst h; exact tyF77
  · injection h with h; subst h; exact tyF78
  · injection h with h; subst h; exact tyF79
  · injection h with h; subst h; exact tyF80
  · injection h with h; subst h; exact tyF81
  · injection h with h; subst h; exact tyF82
  · injection h with h; subst h; exact tyF98
  · injection h with h; subst h; exact tyF99
  · injection h with h; subst h; exact tyF110
  · injection h with h; subst h; exact tyF111
  · injection h with h; subst h; exact tyF112
  · injection h with h; subst h; exact tyF118
  · injection h with h; subst h; exact tyF119
  · injection h with h; subst h; exact tyF120
  · injection h with h; subst h; exact tyF124
  · injection h with h; subst h; exact tyF126
  · injection h with h; subst h; exact tyF127
  · injection h with h; subst h; exact tyF132
  · injection h with h; subst h; exact tyF133
  · injection h with h; subst h; exact tyF134
  · injection h with h; subst h; exact tyF135
  · injection h with h; subst h; exact tyF137
  · injection h with h; subst h; exact tyF138
  · injection h with h; subst h; exact tyF140
  · injection h with h; subst h; exact tyF157
  · injection h with h; subst h; exact tyF158
  · injection h with h; subst h; exact tyF163
  · injection h with h; subst h; exact tyF170
  · injection h with h; subst h; exact tyF171
  · injection h with h; subst h; exact tyF172
  · injection h with h; subst h; exact tyF177
  · injection h with h; subst h; exact tyF178
  · injection h with h; subst h; exact tyF181
  · injection h with h; subst h; exact tyF182
  · injection h with h; subst h; exact tyF193
  · injection h with h; subst h; exact tyF214
  · injection h with h; subst h; exact tyF217
  · injection h with h; subst h; exact tyF226
  · injection h with h; subst h; exact tyF228
  · injection h with h; subst h; exact tyF234
  · injection h with h; subst h; exact tyF250
  · injection h with h; subst h; exact tyF253
  · injection h with h; subst h; exact tyF256
  · injection h with h; subst h; exact tyF262
  · injection h with h; subst h; exact tyF268
  · injection h with h; subst h; exact tyF276
  · injection h with h; subst h; exact tyF277
  · injection h with h; subst h; exact tyF280
  · injection h with h; subst h; exact tyF281
  · cases h
end Go.Proofs.YtnfjpjgmhhmdeaaGreatDoor

