/- The types of the program that the proofs speak of. -/
import Derived.Test.YtlmmmeknilgdhaaProg
import Derived.Test.YtlmmmeknilgdhaaTrc
import Derived.KernelRfl
namespace Go.Proofs.Ytlmmmeknilgdhaa
open Go Go.Tr
set_option linter.unusedVariables false
set_option linter.unusedSimpArgs false
set_option maxRecDepth 100000
def tyT : Nat → Option TyI
  | 2 => some ⟨1, .sc, [.lit (.int .i64 0)]⟩
  | 3 => some ⟨1, .sc, [.lit (.int .i64 0)]⟩
  | 4 => some ⟨1, .sc, [.lit (.bool false)]⟩
  | 5 => some ⟨1, .sc, [.lit (.int .u8 0)]⟩
  | 6 => some ⟨1, .sc, [.lit (.int .u8 0)]⟩
  | 7 => some ⟨4, .st [(0, 1), (1, 1), (2, 1), (3, 1)], [.lit (.int .i64 0), .lit (.int .i64 0), .lit (.bool false), .lit (.int .u8 0)]⟩
  | 8 => some ⟨4, .st [(0, 1), (1, 1), (2, 1), (3, 1)], [.lit (.int .i64 0), .lit (.int .i64 0), .lit (.bool false), .lit (.int .u8 0)]⟩
  | 12 => some ⟨1, .sc, [.lit (.int .u64 0)]⟩
  | 21 => some ⟨1, .sc, [.lit (.int .i32 0)]⟩
  | 22 => some ⟨1, .sl 138 2 16, [.sl 138 2]⟩
  | 24 => some ⟨1, .sl 136 2 16, [.sl 136 2]⟩
  | 32 => some ⟨1, .sl 34 3 24, [.sl 34 3]⟩
  | 33 => some ⟨3, .st [(0, 1), (1, 1), (2, 1)], [.lit (.int .i64 0), .lit (.bool false), .lit (.int .i64 0)]⟩
  | 34 => some ⟨3, .st [(0, 1), (1, 1), (2, 1)], [.lit (.int .i64 0), .lit (.bool false), .lit (.int .i64 0)]⟩
  | 36 => some ⟨1, .sl 39 3 24, [.sl 39 3]⟩
  | 39 => some ⟨3, .st [(0, 1), (1, 1), (2, 1)], [.lit (.int .i64 0), .lit (.bool false), .lit (.int .i64 0)]⟩
  | 44 => some ⟨3, .st [(0, 1), (1, 1), (2, 1)], [.lit (.int .i64 0), .lit (.int .i64 0), .lit (.int .i64 0)]⟩
  | 45 => some ⟨3, .st [(0, 1), (1, 1), (2, 1)], [.lit (.int .i64 0), .lit (.int .i64 0), .lit (.int .i64 0)]⟩
  | 46 => some ⟨2, .st [(0, 1), (1, 1)], [.lit (.bool false), .lit (.int .i64 0)]⟩
  | 47 => some ⟨2, .st [(0, 1), (1, 1)], [.lit (.bool false), .lit (.int .i64 0)]⟩
  | 50 => some ⟨3, .st [(0, 1), (1, 1), (2, 1)], [.lit (.int .i64 0), .lit (.int .i64 0), .lit (.int .i64 0)]⟩
  | 54 => some ⟨1, .sl 45 3 24, [.sl 45 3]⟩
  | 56 => some ⟨1, .sl 47 2 16, [.sl 47 2]⟩
  | 59 => some ⟨1, .sl 50 3 24, [.sl 50 3]⟩
  | 68 => some ⟨1, .sl 158 6 80, [.sl 158 6]⟩
  | 72 => some ⟨1, .sl 162 6 80, [.sl 162 6]⟩
  | 79 => some ⟨1, .sl 169 1 24, [.sl 169 1]⟩
  | 81 => some ⟨1, .sl 175 1 24, [.sl 175 1]⟩
  | 90 => some ⟨1, .sl 3 1 8, [.sl 3 1]⟩
  | 91 => some ⟨2, .st [(0, 1), (1, 1)], [.sl 3 1, .sl 3 1]⟩
  | 92 => some ⟨2, .st [(0, 1), (1, 1)], [.sl 3 1, .sl 3 1]⟩
  | 93 => some ⟨1, .sl 294 1 24, [.sl 294 1]⟩
  | 94 => some ⟨2, .st [(0, 1), (1, 1)], [.sl 294 1, .sl 294 1]⟩
  | 95 => some ⟨2, .st [(0, 1), (1, 1)], [.sl 294 1, .sl 294 1]⟩
  | 96 => some ⟨4, .st [(0, 2), (2, 2)], [.sl 3 1, .sl 3 1, .sl 294 1, .sl 294 1]⟩
  | 97 => some ⟨4, .st [(0, 2), (2, 2)], [.sl 3 1, .sl 3 1, .sl 294 1, .sl 294 1]⟩
  | 98 => some ⟨1, .sl 286 4 32, [.sl 286 4]⟩
  | 99 => some ⟨2, .st [(0, 1), (1, 1)], [.lit (.int .i64 0), .sl 286 4]⟩
  | 100 => some ⟨2, .st [(0, 1), (1, 1)], [.lit (.int .i64 0), .sl 286 4]⟩
  | 101 => some ⟨8, .st [(0, 4), (4, 2), (6, 1), (7, 1)], [.sl 3 1, .sl 3 1, .sl 294 1, .sl 294 1, .lit (.int .i64 0), .sl 286 4, .sl 169 1, .sl 3 1]⟩
  | 102 => some ⟨8, .st [(0, 4), (4, 2), (6, 1), (7, 1)], [.sl 3 1, .sl 3 1, .sl 294 1, .sl 294 1, .lit (.int .i64 0), .sl 286 4, .sl 169 1, .sl 3 1]⟩
  | 103 => some ⟨1, .sl 237 21 168, [.sl 237 21]⟩
  | 104 => some ⟨1, .sl 224 1 24, [.sl 224 1]⟩
  | 105 => some ⟨1, .sl 243 7 56, [.sl 243 7]⟩
  | 106 => some ⟨13, .st [(0, 8), (8, 1), (9, 1), (10, 1), (11, 1), (12, 1)], [.sl 3 1, .sl 3 1, .sl 294 1, .sl 294 1, .lit (.int .i64 0), .sl 286 4, .sl 169 1, .sl 3 1, .sl 3 1, .sl 237 21, .sl 224 1, .sl 243 7, .lit (.int .i64 0)]⟩
  | 107 => some ⟨13, .st [(0, 8), (8, 1), (9, 1), (10, 1), (11, 1), (12, 1)], [.sl 3 1, .sl 3 1, .sl 294 1, .sl 294 1, .lit (.int .i64 0), .sl 286 4, .sl 169 1, .sl 3 1, .sl 3 1, .sl 237 21, .sl 224 1, .sl 243 7, .lit (.int .i64 0)]⟩
  | 110 => some ⟨2, .st [(0, 1), (1, 1)], [.sl 3 1, .sl 3 1]⟩
  | 111 => some ⟨1, .sl 295 1 24, [.sl 295 1]⟩
  | 112 => some ⟨2, .st [(0, 1), (1, 1)], [.sl 295 1, .sl 295 1]⟩
  | 113 => some ⟨2, .st [(0, 1), (1, 1)], [.sl 295 1, .sl 295 1]⟩
  | 114 => some ⟨4, .st [(0, 2), (2, 2)], [.sl 3 1, .sl 3 1, .sl 295 1, .sl 295 1]⟩
  | 115 => some ⟨4, .st [(0, 2), (2, 2)], [.sl 3 1, .sl 3 1, .sl 295 1, .sl 295 1]⟩
  | 116 => some ⟨1, .sl 284 4 32, [.sl 284 4]⟩
  | 117 => some ⟨2, .st [(0, 1), (1, 1)], [.lit (.int .i64 0), .sl 284 4]⟩
  | 118 => some ⟨2, .st [(0, 1), (1, 1)], [.lit (.int .i64 0), .sl 284 4]⟩
  | 119 => some ⟨8, .st [(0, 4), (4, 2), (6, 1), (7, 1)], [.sl 3 1, .sl 3 1, .sl 295 1, .sl 295 1, .lit (.int .i64 0), .sl 284 4, .sl 175 1, .sl 3 1]⟩
  | 120 => some ⟨8, .st [(0, 4), (4, 2), (6, 1), (7, 1)], [.sl 3 1, .sl 3 1, .sl 295 1, .sl 295 1, .lit (.int .i64 0), .sl 284 4, .sl 175 1, .sl 3 1]⟩
  | 121 => some ⟨1, .sl 232 21 168, [.sl 232 21]⟩
  | 122 => some ⟨1, .sl 240 1 24, [.sl 240 1]⟩
  | 123 => some ⟨1, .sl 201 7 56, [.sl 201 7]⟩
  | 124 => some ⟨13, .st [(0, 8), (8, 1), (9, 1), (10, 1), (11, 1), (12, 1)], [.sl 3 1, .sl 3 1, .sl 295 1, .sl 295 1, .lit (.int .i64 0), .sl 284 4, .sl 175 1, .sl 3 1, .sl 3 1, .sl 232 21, .sl 240 1, .sl 201 7, .lit (.int .i64 0)]⟩
  | 125 => some ⟨13, .st [(0, 8), (8, 1), (9, 1), (10, 1), (11, 1), (12, 1)], [.sl 3 1, .sl 3 1, .sl 295 1, .sl 295 1, .lit (.int .i64 0), .sl 284 4, .sl 175 1, .sl 3 1, .sl 3 1, .sl 232 21, .sl 240 1, .sl 201 7, .lit (.int .i64 0)]⟩
  | 135 => some ⟨2, .st [(0, 1), (1, 1)], [.lit (.int .i64 0), .lit (.int .i64 0)]⟩
  | 136 => some ⟨2, .st [(0, 1), (1, 1)], [.lit (.int .i64 0), .lit (.int .i64 0)]⟩
  | 138 => some ⟨2, .st [(0, 1), (1, 1)], [.lit (.int .i64 0), .lit (.int .i64 0)]⟩
  | 156 => some ⟨1, .sl 254 2 16, [.sl 254 2]⟩
  | 157 => some ⟨6, .st [(0, 1), (1, 1), (2, 1), (3, 1), (4, 1), (5, 1)], [.lit (.int .i64 0), .lit (.int .i64 0), .lit (.int .i64 0), .lit (.int .i64 0), .sl 45 3, .sl 254 2]⟩
  | 158 => some ⟨6, .st [(0, 1), (1, 1), (2, 1), (3, 1), (4, 1), (5, 1)], [.lit (.int .i64 0), .lit (.int .i64 0), .lit (.int .i64 0), .lit (.int .i64 0), .sl 45 3, .sl 254 2]⟩
  | 161 => some ⟨6, .st [(0, 1), (1, 1), (2, 1), (3, 1), (4, 1), (5, 1)], [.lit (.int .i64 0), .lit (.int .i64 0), .lit (.int .i64 0), .lit (.int .i64 0), .sl 50 3, .sl 47 2]⟩
  | 162 => some ⟨6, .st [(0, 1), (1, 1), (2, 1), (3, 1), (4, 1), (5, 1)], [.lit (.int .i64 0), .lit (.int .i64 0), .lit (.int .i64 0), .lit (.int .i64 0), .sl 50 3, .sl 47 2]⟩
  | 167 => some ⟨1, .sl 260 2 16, [.sl 260 2]⟩
  | 168 => some ⟨1, .st [(0, 1)], [.sl 260 2]⟩
  | 169 => some ⟨1, .st [(0, 1)], [.sl 260 2]⟩
  | 173 => some ⟨1, .sl 177 2 16, [.sl 177 2]⟩
  | 174 => some ⟨1, .st [(0, 1)], [.sl 177 2]⟩
  | 175 => some ⟨1, .st [(0, 1)], [.sl 177 2]⟩
  | 176 => some ⟨2, .st [(0, 1), (1, 1)], [.lit (.int .i64 0), .lit (.int .i64 0)]⟩
  | 177 => some ⟨2, .st [(0, 1), (1, 1)], [.lit (.int .i64 0), .lit (.int .i64 0)]⟩
  | 200 => some ⟨7, .st [(0, 1), (1, 1), (2, 1), (3, 1), (4, 1), (5, 1), (6, 1)], [.lit (.int .i64 0), .lit (.int .i64 0), .lit (.int .i64 0), .lit (.int .i64 0), .lit (.int .i64 0), .lit (.int .i64 0), .lit (.int .i64 0)]⟩
  | 201 => some ⟨7, .st [(0, 1), (1, 1), (2, 1), (3, 1), (4, 1), (5, 1), (6, 1)], [.lit (.int .i64 0), .lit (.int .i64 0), .lit (.int .i64 0), .lit (.int .i64 0), .lit (.int .i64 0), .lit (.int .i64 0), .lit (.int .i64 0)]⟩
  | 217 => some ⟨24, .arr 24 4 1, [.lit (.bool false), .lit (.bool false), .lit (.bool false), .lit (.bool false), .lit (.bool false), .lit (.bool false), .lit (.bool false), .lit (.bool false), .lit (.bool false), .lit (.bool false), .lit (.bool false), .lit (.bool false), .lit (.bool false), .lit (.bool false), .lit (.bool false), .lit (.bool false), .lit (.bool false), .lit (.bool false), .lit (.bool false), .lit (.bool false), .lit (.bool false), .lit (.bool false), .lit (.bool false), .lit (.bool false)]⟩
  | 222 => some ⟨1, .sl 234 4 32, [.sl 234 4]⟩
  | 223 => some ⟨1, .st [(0, 1)], [.sl 234 4]⟩
  | 224 => some ⟨1, .st [(0, 1)], [.sl 234 4]⟩
  | 227 => some ⟨4, .st [(0, 1), (1, 1), (2, 1), (3, 1)], [.lit (.int .i64 0), .lit (.int .i64 0), .lit (.int .i64 0), .lit (.int .i64 0)]⟩
  | 228 => some ⟨4, .st [(0, 1), (1, 1), (2, 1), (3, 1)], [.lit (.int .i64 0), .lit (.int .i64 0), .lit (.int .i64 0), .lit (.int .i64 0)]⟩
  | 229 => some ⟨10, .st [(0, 1), (1, 1), (2, 1), (3, 1), (4, 1), (5, 1), (6, 1), (7, 1), (8, 1), (9, 1)], [.lit (.int .i64 0), .lit (.int .i64 0), .lit (.int .i64 0), .lit (.int .i64 0), .lit (.int .i64 0), .lit (.int .i64 0), .lit (.int .i64 0), .lit (.int .i64 0), .lit (.int .i64 0), .lit (.bool false)]⟩
  | 230 => some ⟨10, .st [(0, 1), (1, 1), (2, 1), (3, 1), (4, 1), (5, 1), (6, 1), (7, 1), (8, 1), (9, 1)], [.lit (.int .i64 0), .lit (.int .i64 0), .lit (.int .i64 0), .lit (.int .i64 0), .lit (.int .i64 0), .lit (.int .i64 0), .lit (.int .i64 0), .lit (.int .i64 0), .lit (.int .i64 0), .lit (.bool false)]⟩
  | 231 => some ⟨21, .st [(0, 1), (1, 4), (5, 1), (6, 1), (7, 10), (17, 1), (18, 1), (19, 1), (20, 1)], [.lit (.bool false), .lit (.int .i64 0), .lit (.int .i64 0), .lit (.int .i64 0), .lit (.int .i64 0), .lit (.int .i64 0), .lit (.int .i64 0), .lit (.int .i64 0), .lit (.int .i64 0), .lit (.int .i64 0), .lit (.int .i64 0), .lit (.int .i64 0), .lit (.int .i64 0), .lit (.int .i64 0), .lit (.int .i64 0), .lit (.int .i64 0), .lit (.bool false), .lit (.int .i64 0), .lit (.int .i64 0), .lit (.int .i64 0), .lit (.int .i64 0)]⟩
  | 232 => some ⟨21, .st [(0, 1), (1, 4), (5, 1), (6, 1), (7, 10), (17, 1), (18, 1), (19, 1), (20, 1)], [.lit (.bool false), .lit (.int .i64 0), .lit (.int .i64 0), .lit (.int .i64 0), .lit (.int .i64 0), .lit (.int .i64 0), .lit (.int .i64 0), .lit (.int .i64 0), .lit (.int .i64 0), .lit (.int .i64 0), .lit (.int .i64 0), .lit (.int .i64 0), .lit (.int .i64 0), .lit (.int .i64 0), .lit (.int .i64 0), .lit (.int .i64 0), .lit (.bool false), .lit (.int .i64 0), .lit (.int .i64 0), .lit (.int .i64 0), .lit (.int .i64 0)]⟩
  | 234 => some ⟨4, .st [(0, 1), (1, 1), (2, 1), (3, 1)], [.lit (.int .i64 0), .lit (.int .i64 0), .lit (.int .i64 0), .lit (.int .i64 0)]⟩
  | 235 => some ⟨10, .st [(0, 1), (1, 1), (2, 1), (3, 1), (4, 1), (5, 1), (6, 1), (7, 1), (8, 1), (9, 1)], [.lit (.int .i64 0), .lit (.int .i64 0), .lit (.int .i64 0), .lit (.int .i64 0), .lit (.int .i64 0), .lit (.int .i64 0), .lit (.int .i64 0), .lit (.int .i64 0), .lit (.int .i64 0), .lit (.bool false)]⟩
  | 236 => some ⟨21, .st [(0, 1), (1, 4), (5, 1), (6, 1), (7, 10), (17, 1), (18, 1), (19, 1), (20, 1)], [.lit (.bool false), .lit (.int .i64 0), .lit (.int .i64 0), .lit (.int .i64 0), .lit (.int .i64 0), .lit (.int .i64 0), .lit (.int .i64 0), .lit (.int .i64 0), .lit (.int .i64 0), .lit (.int .i64 0), .lit (.int .i64 0), .lit (.int .i64 0), .lit (.int .i64 0), .lit (.int .i64 0), .lit (.int .i64 0), .lit (.int .i64 0), .lit (.bool false), .lit (.int .i64 0), .lit (.int .i64 0), .lit (.int .i64 0), .lit (.int .i64 0)]⟩
  | 237 => some ⟨21, .st [(0, 1), (1, 4), (5, 1), (6, 1), (7, 10), (17, 1), (18, 1), (19, 1), (20, 1)], [.lit (.bool false), .lit (.int .i64 0), .lit (.int .i64 0), .lit (.int .i64 0), .lit (.int .i64 0), .lit (.int .i64 0), .lit (.int .i64 0), .lit (.int .i64 0), .lit (.int .i64 0), .lit (.int .i64 0), .lit (.int .i64 0), .lit (.int .i64 0), .lit (.int .i64 0), .lit (.int .i64 0), .lit (.int .i64 0), .lit (.int .i64 0), .lit (.bool false), .lit (.int .i64 0), .lit (.int .i64 0), .lit (.int .i64 0), .lit (.int .i64 0)]⟩
  | 238 => some ⟨1, .sl 228 4 32, [.sl 228 4]⟩
  | 239 => some ⟨1, .st [(0, 1)], [.sl 228 4]⟩
  | 240 => some ⟨1, .st [(0, 1)], [.sl 228 4]⟩
  | 243 => some ⟨7, .st [(0, 1), (1, 1), (2, 1), (3, 1), (4, 1), (5, 1), (6, 1)], [.lit (.int .i64 0), .lit (.int .i64 0), .lit (.int .i64 0), .lit (.int .i64 0), .lit (.int .i64 0), .lit (.int .i64 0), .lit (.int .i64 0)]⟩
  | 254 => some ⟨2, .st [(0, 1), (1, 1)], [.lit (.bool false), .lit (.int .i64 0)]⟩
  | 257 => some ⟨12, .arr 6 47 2, [.lit (.bool false), .lit (.int .i64 0), .lit (.bool false), .lit (.int .i64 0), .lit (.bool false), .lit (.int .i64 0), .lit (.bool false), .lit (.int .i64 0), .lit (.bool false), .lit (.int .i64 0), .lit (.bool false), .lit (.int .i64 0)]⟩
  | 260 => some ⟨2, .st [(0, 1), (1, 1)], [.lit (.int .i64 0), .lit (.int .i64 0)]⟩
  | 283 => some ⟨4, .st [(0, 1), (1, 1), (2, 1), (3, 1)], [.lit (.bool false), .lit (.int .i64 0), .lit (.bool false), .lit (.int .i64 0)]⟩
  | 284 => some ⟨4, .st [(0, 1), (1, 1), (2, 1), (3, 1)], [.lit (.bool false), .lit (.int .i64 0), .lit (.bool false), .lit (.int .i64 0)]⟩
  | 286 => some ⟨4, .st [(0, 1), (1, 1), (2, 1), (3, 1)], [.lit (.bool false), .lit (.int .i64 0), .lit (.bool false), .lit (.int .i64 0)]⟩
  | 293 => some ⟨1, .st [(0, 1)], [.sl 3 1]⟩
  | 294 => some ⟨1, .st [(0, 1)], [.sl 3 1]⟩
  | 295 => some ⟨1, .st [(0, 1)], [.sl 3 1]⟩
  | 305 => some ⟨1, .sc, [.lit (.int .u32 0)]⟩
  | 306 => some ⟨1, .sc, [.lit (.int .u8 0)]⟩
  | 307 => some ⟨1, .sc, [.lit (.int .u8 0)]⟩
  | 310 => some ⟨1, .sc, [.lit (.int .i32 0)]⟩
  | 311 => some ⟨1, .sc, [.lit (.int .i32 0)]⟩
  | _ => none
theorem tyF2 : TyF Try.prog 2 ⟨1, .sc, [.lit (.int .i64 0)]⟩ :=
  ⟨⟨_, _, (by kernel_rfl : Try.prog.info? 2 = some ((Try.prog.info? 2).get (by kernel_rfl))), by kernel_rfl, (by kernel_rfl : _ = some (((Try.prog.info? 2).get (by kernel_rfl)).zero.get (by kernel_rfl))), by kernel_rfl⟩, rfl, ⟨_, Try.underlying2, rfl⟩⟩
theorem tyF3 : TyF Try.prog 3 ⟨1, .sc, [.lit (.int .i64 0)]⟩ :=
  ⟨⟨_, _, (by kernel_rfl : Try.prog.info? 3 = some ((Try.prog.info? 3).get (by kernel_rfl))), by kernel_rfl, (by kernel_rfl : _ = some (((Try.prog.info? 3).get (by kernel_rfl)).zero.get (by kernel_rfl))), by kernel_rfl⟩, rfl, ⟨_, Try.underlying3, rfl⟩⟩
theorem tyF4 : TyF Try.prog 4 ⟨1, .sc, [.lit (.bool false)]⟩ :=
  ⟨⟨_, _, (by kernel_rfl : Try.prog.info? 4 = some ((Try.prog.info? 4).get (by kernel_rfl))), by kernel_rfl, (by kernel_rfl : _ = some (((Try.prog.info? 4).get (by kernel_rfl)).zero.get (by kernel_rfl))), by kernel_rfl⟩, rfl, ⟨_, Try.underlying4, rfl⟩⟩
theorem tyF5 : TyF Try.prog 5 ⟨1, .sc, [.lit (.int .u8 0)]⟩ :=
  ⟨⟨_, _, (by kernel_rfl : Try.prog.info? 5 = some ((Try.prog.info? 5).get (by kernel_rfl))), by kernel_rfl, (by kernel_rfl : _ = some (((Try.prog.info? 5).get (by kernel_rfl)).zero.get (by kernel_rfl))), by kernel_rfl⟩, rfl, ⟨_, Try.underlying5, rfl⟩⟩
theorem tyF6 : TyF Try.prog 6 ⟨1, .sc, [.lit (.int .u8 0)]⟩ :=
  ⟨⟨_, _, (by kernel_rfl : Try.prog.info? 6 = some ((Try.prog.info? 6).get (by kernel_rfl))), by kernel_rfl, (by kernel_rfl : _ = some (((Try.prog.info? 6).get (by kernel_rfl)).zero.get (by kernel_rfl))), by kernel_rfl⟩, rfl, ⟨_, Try.underlying6, rfl⟩⟩
theorem tyF7 : TyF Try.prog 7 ⟨4, .st [(0, 1), (1, 1), (2, 1), (3, 1)], [.lit (.int .i64 0), .lit (.int .i64 0), .lit (.bool false), .lit (.int .u8 0)]⟩ :=
  ⟨⟨_, _, (by kernel_rfl : Try.prog.info? 7 = some ((Try.prog.info? 7).get (by kernel_rfl))), by kernel_rfl, (by kernel_rfl : _ = some (((Try.prog.info? 7).get (by kernel_rfl)).zero.get (by kernel_rfl))), by kernel_rfl⟩, rfl, ⟨_, Try.underlying7, by kernel_rfl, rfl⟩⟩
theorem tyF8 : TyF Try.prog 8 ⟨4, .st [(0, 1), (1, 1), (2, 1), (3, 1)], [.lit (.int .i64 0), .lit (.int .i64 0), .lit (.bool false), .lit (.int .u8 0)]⟩ :=
  ⟨⟨_, _, (by kernel_rfl : Try.prog.info? 8 = some ((Try.prog.info? 8).get (by kernel_rfl))), by kernel_rfl, (by kernel_rfl : _ = some (((Try.prog.info? 8).get (by kernel_rfl)).zero.get (by kernel_rfl))), by kernel_rfl⟩, rfl, ⟨_, Try.underlying8, by kernel_rfl, rfl⟩⟩
theorem tyF12 : TyF Try.prog 12 ⟨1, .sc, [.lit (.int .u64 0)]⟩ :=
  ⟨⟨_, _, (by kernel_rfl : Try.prog.info? 12 = some ((Try.prog.info? 12).get (by kernel_rfl))), by kernel_rfl, (by kernel_rfl : _ = some (((Try.prog.info? 12).get (by kernel_rfl)).zero.get (by kernel_rfl))), by kernel_rfl⟩, rfl, ⟨_, Try.underlying12, rfl⟩⟩
theorem tyF21 : TyF Try.prog 21 ⟨1, .sc, [.lit (.int .i32 0)]⟩ :=
  ⟨⟨_, _, (by kernel_rfl : Try.prog.info? 21 = some ((Try.prog.info? 21).get (by kernel_rfl))), by kernel_rfl, (by kernel_rfl : _ = some (((Try.prog.info? 21).get (by kernel_rfl)).zero.get (by kernel_rfl))), by kernel_rfl⟩, rfl, ⟨_, Try.underlying21, rfl⟩⟩
theorem tyF22 : TyF Try.prog 22 ⟨1, .sl 138 2 16, [.sl 138 2]⟩ :=
  ⟨⟨_, _, (by kernel_rfl : Try.prog.info? 22 = some ((Try.prog.info? 22).get (by kernel_rfl))), by kernel_rfl, (by kernel_rfl : _ = some (((Try.prog.info? 22).get (by kernel_rfl)).zero.get (by kernel_rfl))), by kernel_rfl⟩, rfl, ⟨Try.underlying22, _, _, (by kernel_rfl : Try.prog.info? 138 = some ((Try.prog.info? 138).get (by kernel_rfl))), by kernel_rfl, by kernel_rfl, (by kernel_rfl : _ = some (((Try.prog.info? 138).get (by kernel_rfl)).zero.get (by kernel_rfl))), by kernel_rfl, by decide⟩⟩
theorem tyF24 : TyF Try.prog 24 ⟨1, .sl 136 2 16, [.sl 136 2]⟩ :=
  ⟨⟨_, _, (by kernel_rfl : Try.prog.info? 24 = some ((Try.prog.info? 24).get (by kernel_rfl))), by kernel_rfl, (by kernel_rfl : _ = some (((Try.prog.info? 24).get (by kernel_rfl)).zero.get (by kernel_rfl))), by kernel_rfl⟩, rfl, ⟨Try.underlying24, _, _, (by kernel_rfl : Try.prog.info? 136 = some ((Try.prog.info? 136).get (by kernel_rfl))), by kernel_rfl, by kernel_rfl, (by kernel_rfl : _ = some (((Try.prog.info? 136).get (by kernel_rfl)).zero.get (by kernel_rfl))), by kernel_rfl, by decide⟩⟩
theorem tyF32 : TyF Try.prog 32 ⟨1, .sl 34 3 24, [.sl 34 3]⟩ :=
  ⟨⟨_, _, (by kernel_rfl : Try.prog.info? 32 = some ((Try.prog.info? 32).get (by kernel_rfl))), by kernel_rfl, (by kernel_rfl : _ = some (((Try.prog.info? 32).get (by kernel_rfl)).zero.get (by kernel_rfl))), by kernel_rfl⟩, rfl, ⟨Try.underlying32, _, _, (by kernel_rfl : Try.prog.info? 34 = some ((Try.prog.info? 34).get (by kernel_rfl))), by kernel_rfl, by kernel_rfl, (by kernel_rfl : _ = some (((Try.prog.info? 34).get (by kernel_rfl)).zero.get (by kernel_rfl))), by kernel_rfl, by decide⟩⟩
theorem tyF33 : TyF Try.prog 33 ⟨3, .st [(0, 1), (1, 1), (2, 1)], [.lit (.int .i64 0), .lit (.bool false), .lit (.int .i64 0)]⟩ :=
  ⟨⟨_, _, (by kernel_rfl : Try.prog.info? 33 = some ((Try.prog.info? 33).get (by kernel_rfl))), by kernel_rfl, (by kernel_rfl : _ = some (((Try.prog.info? 33).get (by kernel_rfl)).zero.get (by kernel_rfl))), by kernel_rfl⟩, rfl, ⟨_, Try.underlying33, by kernel_rfl, rfl⟩⟩
theorem tyF34 : TyF Try.prog 34 ⟨3, .st [(0, 1), (1, 1), (2, 1)], [.lit (.int .i64 0), .lit (.bool false), .lit (.int .i64 0)]⟩ :=
  ⟨⟨_, _, (by kernel_rfl : Try.prog.info? 34 = some ((Try.prog.info? 34).get (by kernel_rfl))), by kernel_rfl, (by kernel_rfl : _ = some (((Try.prog.info? 34).get (by kernel_rfl)).zero.get (by kernel_rfl))), by kernel_rfl⟩, rfl, ⟨_, Try.underlying34, by kernel_rfl, rfl⟩⟩
theorem tyF36 : TyF Try.prog 36 ⟨1, .sl 39 3 24, [.sl 39 3]⟩ :=
  ⟨⟨_, _, (by kernel_rfl : Try.prog.info? 36 = some ((Try.prog.info? 36).get (by kernel_rfl))), by kernel_rfl, (by kernel_rfl : _ = some (((Try.prog.info? 36).get (by kernel_rfl)).zero.get (by kernel_rfl))), by kernel_rfl⟩, rfl, ⟨Try.underlying36, _, _, (by kernel_rfl : Try.prog.info? 39 = some ((Try.prog.info? 39).get (by kernel_rfl))), by kernel_rfl, by kernel_rfl, (by kernel_rfl : _ = some (((Try.prog.info? 39).get (by kernel_rfl)).zero.get (by kernel_rfl))), by kernel_rfl, by decide⟩⟩
theorem tyF39 : TyF Try.prog 39 ⟨3, .st [(0, 1), (1, 1), (2, 1)], [.lit (.int .i64 0), .lit (.bool false), .lit (.int .i64 0)]⟩ :=
  ⟨⟨_, _, (by kernel_rfl : Try.prog.info? 39 = some ((Try.prog.info? 39).get (by kernel_rfl))), by kernel_rfl, (by kernel_rfl : _ = some (((Try.prog.info? 39).get (by kernel_rfl)).zero.get (by kernel_rfl))), by kernel_rfl⟩, rfl, ⟨_, Try.underlying39, by kernel_rfl, rfl⟩⟩
theorem tyF44 : TyF Try.prog 44 ⟨3, .st [(0, 1), (1, 1), (2, 1)], [.lit (.int .i64 0), .lit (.int .i64 0), .lit (.int .i64 0)]⟩ :=
  ⟨⟨_, _, (by kernel_rfl : Try.prog.info? 44 = some ((Try.prog.info? 44).get (by kernel_rfl))), by kernel_rfl, (by kernel_rfl : _ = some (((Try.prog.info? 44).get (by kernel_rfl)).zero.get (by kernel_rfl))), by kernel_rfl⟩, rfl, ⟨_, Try.underlying44, by kernel_rfl, rfl⟩⟩
theorem tyF45 : TyF Try.prog 45 ⟨3, .st [(0, 1), (1, 1), (2, 1)], [.lit (.int .i64 0), .lit (.int .i64 0), .lit (.int .i64 0)]⟩ :=
  ⟨⟨_, _, (by kernel_rfl : Try.prog.info? 45 = some ((Try.prog.info? 45).get (by kernel_rfl))), by kernel_rfl, (by kernel_rfl : _ = some (((Try.prog.info? 45).get (by kernel_rfl)).zero.get (by kernel_rfl))), by kernel_rfl⟩, rfl, ⟨_, Try.underlying45, by kernel_rfl, rfl⟩⟩
theorem tyF46 : TyF Try.prog 46 ⟨2, .st [(0, 1), (1, 1)], [.lit (.bool false), .lit (.int .i64 0)]⟩ :=
  ⟨⟨_, _, (by kernel_rfl : Try.prog.info? 46 = some ((Try.prog.info? 46).get (by kernel_rfl))), by kernel_rfl, (by kernel_rfl : _ = some (((Try.prog.info? 46).get (by kernel_rfl)).zero.get (by kernel_rfl))), by kernel_rfl⟩, rfl, ⟨_, Try.underlying46, by kernel_rfl, rfl⟩⟩
theorem tyF47 : TyF Try.prog 47 ⟨2, .st [(0, 1), (1, 1)], [.lit (.bool false), .lit (.int .i64 0)]⟩ :=
  ⟨⟨_, _, (by kernel_rfl : Try.prog.info? 47 = some ((Try.prog.info? 47).get (by kernel_rfl))), by kernel_rfl, (by kernel_rfl : _ = some (((Try.prog.info? 47).get (by kernel_rfl)).zero.get (by kernel_rfl))), by kernel_rfl⟩, rfl, ⟨_, Try.underlying47, by kernel_rfl, rfl⟩⟩
theorem tyF50 : TyF Try.prog 50 ⟨3, .st [(0, 1), (1, 1), (2, 1)], [.lit (.int .i64 0), .lit (.int .i64 0), .lit (.int .i64 0)]⟩ :=
  ⟨⟨_, _, (by kernel_rfl : Try.prog.info? 50 = some ((Try.prog.info? 50).get (by kernel_rfl))), by kernel_rfl, (by kernel_rfl : _ = some (((Try.prog.info? 50).get (by kernel_rfl)).zero.get (by kernel_rfl))), by kernel_rfl⟩, rfl, ⟨_, Try.underlying50, by kernel_rfl, rfl⟩⟩
theorem tyF54 : TyF Try.prog 54 ⟨1, .sl 45 3 24, [.sl 45 3]⟩ :=
  ⟨⟨_, _, (by kernel_rfl : Try.prog.info? 54 = some ((Try.prog.info? 54).get (by kernel_rfl))), by kernel_rfl, (by kernel_rfl : _ = some (((Try.prog.info? 54).get (by kernel_rfl)).zero.get (by kernel_rfl))), by kernel_rfl⟩, rfl, ⟨Try.underlying54, _, _, (by kernel_rfl : Try.prog.info? 45 = some ((Try.prog.info? 45).get (by kernel_rfl))), by kernel_rfl, by kernel_rfl, (by kernel_rfl : _ = some (((Try.prog.info? 45).get (by kernel_rfl)).zero.get (by kernel_rfl))), by kernel_rfl, by decide⟩⟩
theorem tyF56 : TyF Try.prog 56 ⟨1, .sl 47 2 16, [.sl 47 2]⟩ :=
  ⟨⟨_, _, (by kernel_rfl : Try.prog.info? 56 = some ((Try.prog.info? 56).get (by kernel_rfl))), by kernel_rfl, (by kernel_rfl : _ = some (((Try.prog.info? 56).get (by kernel_rfl)).zero.get (by kernel_rfl))), by kernel_rfl⟩, rfl, ⟨Try.underlying56, _, _, (by kernel_rfl : Try.prog.info? 47 = some ((Try.prog.info? 47).get (by kernel_rfl))), by kernel_rfl, by kernel_rfl, (by kernel_rfl : _ = some (((Try.prog.info? 47).get (by kernel_rfl)).zero.get (by kernel_rfl))), by kernel_rfl, by decide⟩⟩
theorem tyF59 : TyF Try.prog 59 ⟨1, .sl 50 3 24, [.sl 50 3]⟩ :=
  ⟨⟨_, _, (by kernel_rfl : Try.prog.info? 59 = some ((Try.prog.info? 59).get (by kernel_rfl))), by kernel_rfl, (by kernel_rfl : _ = some (((Try.prog.info? 59).get (by kernel_rfl)).zero.get (by kernel_rfl))), by kernel_rfl⟩, rfl, ⟨Try.underlying59, _, _, (by kernel_rfl : Try.prog.info? 50 = some ((Try.prog.info? 50).get (by kernel_rfl))), by kernel_rfl, by kernel_rfl, (by kernel_rfl : _ = some (((Try.prog.info? 50).get (by kernel_rfl)).zero.get (by kernel_rfl))), by kernel_rfl, by decide⟩⟩
theorem tyF68 : TyF Try.prog 68 ⟨1, .sl 158 6 80, [.sl 158 6]⟩ :=
  ⟨⟨_, _, (by kernel_rfl : Try.prog.info? 68 = some ((Try.prog.info? 68).get (by kernel_rfl))), by kernel_rfl, (by kernel_rfl : _ = some (((Try.prog.info? 68).get (by kernel_rfl)).zero.get (by kernel_rfl))), by kernel_rfl⟩, rfl, ⟨Try.underlying68, _, _, (by kernel_rfl : Try.prog.info? 158 = some ((Try.prog.info? 158).get (by kernel_rfl))), by kernel_rfl, by kernel_rfl, (by kernel_rfl : _ = some (((Try.prog.info? 158).get (by kernel_rfl)).zero.get (by kernel_rfl))), by kernel_rfl, by decide⟩⟩
theorem tyF72 : TyF Try.prog 72 ⟨1, .sl 162 6 80, [.sl 162 6]⟩ :=
  ⟨⟨_, _, (by kernel_rfl : Try.prog.info? 72 = some ((Try.prog.info? 72).get (by kernel_rfl))), by kernel_rfl, (by kernel_rfl : _ = some (((Try.prog.info? 72).get (by kernel_rfl)).zero.get (by kernel_rfl))), by kernel_rfl⟩, rfl, ⟨Try.underlying72, _, _, (by kernel_rfl : Try.prog.info? 162 = some ((Try.prog.info? 162).get (by kernel_rfl))), by kernel_rfl, by kernel_rfl, (by kernel_rfl : _ = some (((Try.prog.info? 162).get (by kernel_rfl)).zero.get (by kernel_rfl))), by kernel_rfl, by decide⟩⟩
theorem tyF79 : TyF Try.prog 79 ⟨1, .sl 169 1 24, [.sl 169 1]⟩ :=
  ⟨⟨_, _, (by kernel_rfl : Try.prog.info? 79 = some ((Try.prog.info? 79).get (by kernel_rfl))), by kernel_rfl, (by kernel_rfl : _ = some (((Try.prog.info? 79).get (by kernel_rfl)).zero.get (by kernel_rfl))), by kernel_rfl⟩, rfl, ⟨Try.underlying79, _, _, (by kernel_rfl : Try.prog.info? 169 = some ((Try.prog.info? 169).get (by kernel_rfl))), by kernel_rfl, by kernel_rfl, (by kernel_rfl : _ = some (((Try.prog.info? 169).get (by kernel_rfl)).zero.get (by kernel_rfl))), by kernel_rfl, by decide⟩⟩
theorem tyF81 : TyF Try.prog 81 ⟨1, .sl 175 1 24, [.sl 175 1]⟩ :=
  ⟨⟨_, _, (by kernel_rfl : Try.prog.info? 81 = some ((Try.prog.info? 81).get (by kernel_rfl))), by kernel_rfl, (by kernel_rfl : _ = some (((Try.prog.info? 81).get (by kernel_rfl)).zero.get (by kernel_rfl))), by kernel_rfl⟩, rfl, ⟨Try.underlying81, _, _, (by kernel_rfl : Try.prog.info? 175 = some ((Try.prog.info? 175).get (by kernel_rfl))), by kernel_rfl, by kernel_rfl, (by kernel_rfl : _ = some (((Try.prog.info? 175).get (by kernel_rfl)).zero.get (by kernel_rfl))), by kernel_rfl, by decide⟩⟩
theorem tyF90 : TyF Try.prog 90 ⟨1, .sl 3 1 8, [.sl 3 1]⟩ :=
  ⟨⟨_, _, (by kernel_rfl : Try.prog.info? 90 = some ((Try.prog.info? 90).get (by kernel_rfl))), by kernel_rfl, (by kernel_rfl : _ = some (((Try.prog.info? 90).get (by kernel_rfl)).zero.get (by kernel_rfl))), by kernel_rfl⟩, rfl, ⟨Try.underlying90, _, _, (by kernel_rfl : Try.prog.info? 3 = some ((Try.prog.info? 3).get (by kernel_rfl))), by kernel_rfl, by kernel_rfl, (by kernel_rfl : _ = some (((Try.prog.info? 3).get (by kernel_rfl)).zero.get (by kernel_rfl))), by kernel_rfl, by decide⟩⟩
theorem tyF91 : TyF Try.prog 91 ⟨2, .st [(0, 1), (1, 1)], [.sl 3 1, .sl 3 1]⟩ :=
  ⟨⟨_, _, (by kernel_rfl : Try.prog.info? 91 = some ((Try.prog.info? 91).get (by kernel_rfl))), by kernel_rfl, (by kernel_rfl : _ = some (((Try.prog.info? 91).get (by kernel_rfl)).zero.get (by kernel_rfl))), by kernel_rfl⟩, rfl, ⟨_, Try.underlying91, by kernel_rfl, rfl⟩⟩
theorem tyF92 : TyF Try.prog 92 ⟨2, .st [(0, 1), (1, 1)], [.sl 3 1, .sl 3 1]⟩ :=
  ⟨⟨_, _, (by kernel_rfl : Try.prog.info? 92 = some ((Try.prog.info? 92).get (by kernel_rfl))), by kernel_rfl, (by kernel_rfl : _ = some (((Try.prog.info? 92).get (by kernel_rfl)).zero.get (by kernel_rfl))), by kernel_rfl⟩, rfl, ⟨_, Try.underlying92, by kernel_rfl, rfl⟩⟩
theorem tyF93 : TyF Try.prog 93 ⟨1, .sl 294 1 24, [.sl 294 1]⟩ :=
  ⟨⟨_, _, (by kernel_rfl : Try.prog.info? 93 = some ((Try.prog.info? 93).get (by kernel_rfl))), by kernel_rfl, (by kernel_rfl : _ = some (((Try.prog.info? 93).get (by kernel_rfl)).zero.get (by kernel_rfl))), by kernel_rfl⟩, rfl, ⟨Try.underlying93, _, _, (by kernel_rfl : Try.prog.info? 294 = some ((Try.prog.info? 294).get (by kernel_rfl))), by kernel_rfl, by kernel_rfl, (by kernel_rfl : _ = some (((Try.prog.info? 294).get (by kernel_rfl)).zero.get (by kernel_rfl))), by kernel_rfl, by decide⟩⟩
theorem tyF94 : TyF Try.prog 94 ⟨2, .st [(0, 1), (1, 1)], [.sl 294 1, .sl 294 1]⟩ :=
  ⟨⟨_, _, (by kernel_rfl : Try.prog.info? 94 = some ((Try.prog.info? 94).get (by kernel_rfl))), by kernel_rfl, (by kernel_rfl : _ = some (((Try.prog.info? 94).get (by kernel_rfl)).zero.get (by kernel_rfl))), by kernel_rfl⟩, rfl, ⟨_, Try.underlying94, by kernel_rfl, rfl⟩⟩
theorem tyF95 : TyF Try.prog 95 ⟨2, .st [(0, 1), (1, 1)], [.sl 294 1, .sl 294 1]⟩ :=
  ⟨⟨_, _, (by kernel_rfl : Try.prog.info? 95 = some ((Try.prog.info? 95).get (by kernel_rfl))), by kernel_rfl, (by kernel_rfl : _ = some (((Try.prog.info? 95).get (by kernel_rfl)).zero.get (by kernel_rfl))), by kernel_rfl⟩, rfl, ⟨_, Try.underlying95, by kernel_rfl, rfl⟩⟩
theorem tyF96 : TyF Try.prog 96 ⟨4, .st [(0, 2), (2, 2)], [.sl 3 1, .sl 3 1, .sl 294 1, .sl 294 1]⟩ :=
  ⟨⟨_, _, (by kernel_rfl : Try.prog.info? 96 = some ((Try.prog.info? 96).get (by kernel_rfl))), by kernel_rfl, (by kernel_rfl : _ = some (((Try.prog.info? 96).get (by kernel_rfl)).zero.get (by kernel_rfl))), by kernel_rfl⟩, rfl, ⟨_, Try.underlying96, by kernel_rfl, rfl⟩⟩
theorem tyF97 : TyF Try.prog 97 ⟨4, .st [(0, 2), (2, 2)], [.sl 3 1, .sl 3 1, .sl 294 1, .sl 294 1]⟩ :=
  ⟨⟨_, _, (by kernel_rfl : Try.prog.info? 97 = some ((Try.prog.info? 97).get (by kernel_rfl))), by kernel_rfl, (by kernel_rfl : _ = some (((Try.prog.info? 97).get (by kernel_rfl)).zero.get (by kernel_rfl))), by kernel_rfl⟩, rfl, ⟨_, Try.underlying97, by kernel_rfl, rfl⟩⟩
theorem tyF98 : TyF Try.prog 98 ⟨1, .sl 286 4 32, [.sl 286 4]⟩ :=
  ⟨⟨_, _, (by kernel_rfl : Try.prog.info? 98 = some ((Try.prog.info? 98).get (by kernel_rfl))), by kernel_rfl, (by kernel_rfl : _ = some (((Try.prog.info? 98).get (by kernel_rfl)).zero.get (by kernel_rfl))), by kernel_rfl⟩, rfl, ⟨Try.underlying98, _, _, (by kernel_rfl : Try.prog.info? 286 = some ((Try.prog.info? 286).get (by kernel_rfl))), by kernel_rfl, by kernel_rfl, (by kernel_rfl : _ = some (((Try.prog.info? 286).get (by kernel_rfl)).zero.get (by kernel_rfl))), by kernel_rfl, by decide⟩⟩
theorem tyF99 : TyF Try.prog 99 ⟨2, .st [(0, 1), (1, 1)], [.lit (.int .i64 0), .sl 286 4]⟩ :=
  ⟨⟨_, _, (by kernel_rfl : Try.prog.info? 99 = some ((Try.prog.info? 99).get (by kernel_rfl))), by kernel_rfl, (by kernel_rfl : _ = some (((Try.prog.info? 99).get (by kernel_rfl)).zero.get (by kernel_rfl))), by kernel_rfl⟩, rfl, ⟨_, Try.underlying99, by kernel_rfl, rfl⟩⟩
theorem tyF100 : TyF Try.prog 100 ⟨2, .st [(0, 1), (1, 1)], [.lit (.int .i64 0), .sl 286 4]⟩ :=
  ⟨⟨_, _, (by kernel_rfl : Try.prog.info? 100 = some ((Try.prog.info? 100).get (by kernel_rfl))), by kernel_rfl, (by kernel_rfl : _ = some (((Try.prog.info? 100).get (by kernel_rfl)).zero.get (by kernel_rfl))), by kernel_rfl⟩, rfl, ⟨_, Try.underlying100, by kernel_rfl, rfl⟩⟩
theorem tyF101 : TyF Try.prog 101 ⟨8, .st [(0, 4), (4, 2), (6, 1), (7, 1)], [.sl 3 1, .sl 3 1, .sl 294 1, .sl 294 1, .lit (.int .i64 0), .sl 286 4, .sl 169 1, .sl 3 1]⟩ :=
  ⟨⟨_, _, (by kernel_rfl : Try.prog.info? 101 = some ((Try.prog.info? 101).get (by kernel_rfl))), by kernel_rfl, (by kernel_rfl : _ = some (((Try.prog.info? 101).get (by kernel_rfl)).zero.get (by kernel_rfl))), by kernel_rfl⟩, rfl, ⟨_, Try.underlying101, by kernel_rfl, rfl⟩⟩
theorem tyF102 : TyF Try.prog 102 ⟨8, .st [(0, 4), (4, 2), (6, 1), (7, 1)], [.sl 3 1, .sl 3 1, .sl 294 1, .sl 294 1, .lit (.int .i64 0), .sl 286 4, .sl 169 1, .sl 3 1]⟩ :=
  ⟨⟨_, _, (by kernel_rfl : Try.prog.info? 102 = some ((Try.prog.info? 102).get (by kernel_rfl))), by kernel_rfl, (by kernel_rfl : _ = some (((Try.prog.info? 102).get (by kernel_rfl)).zero.get (by kernel_rfl))), by kernel_rfl⟩, rfl, ⟨_, Try.underlying102, by kernel_rfl, rfl⟩⟩
theorem tyF103 : TyF Try.prog 103 ⟨1, .sl 237 21 168, [.sl 237 21]⟩ :=
  ⟨⟨_, _, (by kernel_rfl : Try.prog.info? 103 = some ((Try.prog.info? 103).get (by kernel_rfl))), by kernel_rfl, (by kernel_rfl : _ = some (((Try.prog.info? 103).get (by kernel_rfl)).zero.get (by kernel_rfl))), by kernel_rfl⟩, rfl, ⟨Try.underlying103, _, _, (by kernel_rfl : Try.prog.info? 237 = some ((Try.prog.info? 237).get (by kernel_rfl))), by kernel_rfl, by kernel_rfl, (by kernel_rfl : _ = some (((Try.prog.info? 237).get (by kernel_rfl)).zero.get (by kernel_rfl))), by kernel_rfl, by decide⟩⟩
theorem tyF104 : TyF Try.prog 104 ⟨1, .sl 224 1 24, [.sl 224 1]⟩ :=
  ⟨⟨_, _, (by kernel_rfl : Try.prog.info? 104 = some ((Try.prog.info? 104).get (by kernel_rfl))), by kernel_rfl, (by kernel_rfl : _ = some (((Try.prog.info? 104).get (by kernel_rfl)).zero.get (by kernel_rfl))), by kernel_rfl⟩, rfl, ⟨Try.underlying104, _, _, (by kernel_rfl : Try.prog.info? 224 = some ((Try.prog.info? 224).get (by kernel_rfl))), by kernel_rfl, by kernel_rfl, (by kernel_rfl : _ = some (((Try.prog.info? 224).get (by kernel_rfl)).zero.get (by kernel_rfl))), by kernel_rfl, by decide⟩⟩
theorem tyF105 : TyF Try.prog 105 ⟨1, .sl 243 7 56, [.sl 243 7]⟩ :=
  ⟨⟨_, _, (by kernel_rfl : Try.prog.info? 105 = some ((Try.prog.info? 105).get (by kernel_rfl))), by kernel_rfl, (by kernel_rfl : _ = some (((Try.prog.info? 105).get (by kernel_rfl)).zero.get (by kernel_rfl))), by kernel_rfl⟩, rfl, ⟨Try.underlying105, _, _, (by kernel_rfl : Try.prog.info? 243 = some ((Try.prog.info? 243).get (by kernel_rfl))), by kernel_rfl, by kernel_rfl, (by kernel_rfl : _ = some (((Try.prog.info? 243).get (by kernel_rfl)).zero.get (by kernel_rfl))), by kernel_rfl, by decide⟩⟩
theorem tyF106 : TyF Try.prog 106 ⟨13, .st [(0, 8), (8, 1), (9, 1), (10, 1), (11, 1), (12, 1)], [.sl 3 1, .sl 3 1, .sl 294 1, .sl 294 1, .lit (.int .i64 0), .sl 286 4, .sl 169 1, .sl 3 1, .sl 3 1, .sl 237 21, .sl 224 1, .sl 243 7, .lit (.int .i64 0)]⟩ :=
  ⟨⟨_, _, (by kernel_rfl : Try.prog.info? 106 = some ((Try.prog.info? 106).get (by kernel_rfl))), by kernel_rfl, (by kernel_rfl : _ = some (((Try.prog.info? 106).get (by kernel_rfl)).zero.get (by kernel_rfl))), by kernel_rfl⟩, rfl, ⟨_, Try.underlying106, by kernel_rfl, rfl⟩⟩
theorem tyF107 : TyF Try.prog 107 ⟨13, .st [(0, 8), (8, 1), (9, 1), (10, 1), (11, 1), (12, 1)], [.sl 3 1, .sl 3 1, .sl 294 1, .sl 294 1, .lit (.int .i64 0), .sl 286 4, .sl 169 1, .sl 3 1, .sl 3 1, .sl 237 21, .sl 224 1, .sl 243 7, .lit (.int .i64 0)]⟩ :=
  ⟨⟨_, _, (by kernel_rfl : Try.prog.info? 107 = some ((Try.prog.info? 107).get (by kernel_rfl))), by kernel_rfl, (by kernel_rfl : _ = some (((Try.prog.info? 107).get (by kernel_rfl)).zero.get (by kernel_rfl))), by kernel_rfl⟩, rfl, ⟨_, Try.underlying107, by kernel_rfl, rfl⟩⟩
theorem tyF110 : TyF Try.prog 110 ⟨2, .st [(0, 1), (1, 1)], [.sl 3 1, .sl 3 1]⟩ :=
  ⟨⟨_, _, (by kernel_rfl : Try.prog.info? 110 = some ((Try.prog.info? 110).get (by kernel_rfl))), by kernel_rfl, (by kernel_rfl : _ = some (((Try.prog.info? 110).get (by kernel_rfl)).zero.get (by kernel_rfl))), by kernel_rfl⟩, rfl, ⟨_, Try.underlying110, by kernel_rfl, rfl⟩⟩
theorem tyF111 : TyF Try.prog 111 ⟨1, .sl 295 1 24, [.sl 295 1]⟩ :=
  ⟨⟨_, _, (by kernel_rfl : Try.prog.info? 111 = some ((Try.prog.info? 111).get (by kernel_rfl))), by kernel_rfl, (by kernel_rfl : _ = some (((Try.prog.info? 111).get (by kernel_rfl)).zero.get (by kernel_rfl))), by kernel_rfl⟩, rfl, ⟨Try.underlying111, _, _, (by kernel_rfl : Try.prog.info? 295 = some ((Try.prog.info? 295).get (by kernel_rfl))), by kernel_rfl, by kernel_rfl, (by kernel_rfl : _ = some (((Try.prog.info? 295).get (by kernel_rfl)).zero.get (by kernel_rfl))), by kernel_rfl, by decide⟩⟩
theorem tyF112 : TyF Try.prog 112 ⟨2, .st [(0, 1), (1, 1)], [.sl 295 1, .sl 295 1]⟩ :=
  ⟨⟨_, _, (by kernel_rfl : Try.prog.info? 112 = some ((Try.prog.info? 112).get (by kernel_rfl))), by kernel_rfl, (by kernel_rfl : _ = some (((Try.prog.info? 112).get (by kernel_rfl)).zero.get (by kernel_rfl))), by kernel_rfl⟩, rfl, ⟨_, Try.underlying112, by kernel_rfl, rfl⟩⟩
theorem tyF113 : TyF Try.prog 113 ⟨2, .st [(0, 1), (1, 1)], [.sl 295 1, .sl 295 1]⟩ :=
  ⟨⟨_, _, (by kernel_rfl : Try.prog.info? 113 = some ((Try.prog.info? 113).get (by kernel_rfl))), by kernel_rfl, (by kernel_rfl : _ = some (((Try.prog.info? 113).get (by kernel_rfl)).zero.get (by kernel_rfl))), by kernel_rfl⟩, rfl, ⟨_, Try.underlying113, by kernel_rfl, rfl⟩⟩
theorem tyF114 : TyF Try.prog 114 ⟨4, .st [(0, 2), (2, 2)], [.sl 3 1, .sl 3 1, .sl 295 1, .sl 295 1]⟩ :=
  ⟨⟨_, _, (by kernel_rfl : Try.prog.info? 114 = some ((Try.prog.info? 114).get (by kernel_rfl))), by kernel_rfl, (by kernel_rfl : _ = some (((Try.prog.info? 114).get (by kernel_rfl)).zero.get (by kernel_rfl))), by kernel_rfl⟩, rfl, ⟨_, Try.underlying114, by kernel_rfl, rfl⟩⟩
theorem tyF115 : TyF Try.prog 115 ⟨4, .st [(0, 2), (2, 2)], [.sl 3 1, .sl 3 1, .sl 295 1, .sl 295 1]⟩ :=
  ⟨⟨_, _, (by kernel_rfl : Try.prog.info? 115 = some ((Try.prog.info? 115).get (by kernel_rfl))), by kernel_rfl, (by kernel_rfl : _ = some (((Try.prog.info? 115).get (by kernel_rfl)).zero.get (by kernel_rfl))), by kernel_rfl⟩, rfl, ⟨_, Try.underlying115, by kernel_rfl, rfl⟩⟩
theorem tyF116 : TyF Try.prog 116 ⟨1, .sl 284 4 32, [.sl 284 4]⟩ :=
  ⟨⟨_, _, (by kernel_rfl : Try.prog.info? 116 = some ((Try.prog.info? 116).get (by kernel_rfl))), by kernel_rfl, (by kernel_rfl : _ = some (((Try.prog.info? 116).get (by kernel_rfl)).zero.get (by kernel_rfl))), by kernel_rfl⟩, rfl, ⟨Try.underlying116, _, _, (by kernel_rfl : Try.prog.info? 284 = some ((Try.prog.info? 284).get (by kernel_rfl))), by kernel_rfl, by kernel_rfl, (by kernel_rfl : _ = some (((Try.prog.info? 284).get (by kernel_rfl)).zero.get (by kernel_rfl))), by kernel_rfl, by decide⟩⟩
theorem tyF117 : TyF Try.prog 117 ⟨2, .st [(0, 1), (1, 1)], [.lit (.int .i64 0), .sl 284 4]⟩ :=
  ⟨⟨_, _, (by kernel_rfl : Try.prog.info? 117 = some ((Try.prog.info? 117).get (by kernel_rfl))), by kernel_rfl, (by kernel_rfl : _ = some (((Try.prog.info? 117).get (by kernel_rfl)).zero.get (by kernel_rfl))), by kernel_rfl⟩, rfl, ⟨_, Try.underlying117, by kernel_rfl, rfl⟩⟩
theorem tyF118 : TyF Try.prog 118 ⟨2, .st [(0, 1), (1, 1)], [.lit (.int .i64 0), .sl 284 4]⟩ :=
  ⟨⟨_, _, (by kernel_rfl : Try.prog.info? 118 = some ((Try.prog.info? 118).get (by kernel_rfl))), by kernel_rfl, (by kernel_rfl : _ = some (((Try.prog.info? 118).get (by kernel_rfl)).zero.get (by kernel_rfl))), by kernel_rfl⟩, rfl, ⟨_, Try.underlying118, by kernel_rfl, rfl⟩⟩
theorem tyF119 : TyF Try.prog 119 ⟨8, .st [(0, 4), (4, 2), (6, 1), (7, 1)], [.sl 3 1, .sl 3 1, .sl 295 1, .sl 295 1, .lit (.int .i64 0), .sl 284 4, .sl 175 1, .sl 3 1]⟩ :=
  ⟨⟨_, _, (by kernel_rfl : Try.prog.info? 119 = some ((Try.prog.info? 119).get (by kernel_rfl))), by kernel_rfl, (by kernel_rfl : _ = some (((Try.prog.info? 119).get (by kernel_rfl)).zero.get (by kernel_rfl))), by kernel_rfl⟩, rfl, ⟨_, Try.underlying119, by kernel_rfl, rfl⟩⟩
theorem tyF120 : TyF Try.prog 120 ⟨8, .st [(0, 4), (4, 2), (6, 1), (7, 1)], [.sl 3 1, .sl 3 1, .sl 295 1, .sl 295 1, .lit (.int .i64 0), .sl 284 4, .sl 175 1, .sl 3 1]⟩ :=
  ⟨⟨_, _, (by kernel_rfl : Try.prog.info? 120 = some ((Try.prog.info? 120).get (by kernel_rfl))), by kernel_rfl, (by kernel_rfl : _ = some (((Try.prog.info? 120).get (by kernel_rfl)).zero.get (by kernel_rfl))), by kernel_rfl⟩, rfl, ⟨_, Try.underlying120, by kernel_rfl, rfl⟩⟩
theorem tyF121 : TyF Try.prog 121 ⟨1, .sl 232 21 168, [.sl 232 21]⟩ :=
  ⟨⟨_, _, (by kernel_rfl : Try.prog.info? 121 = some ((Try.prog.info? 121).get (by kernel_rfl))), by kernel_rfl, (by kernel_rfl : _ = some (((Try.prog.info? 121).get (by kernel_rfl)).zero.get (by kernel_rfl))), by kernel_rfl⟩, rfl, ⟨Try.underlying121, _, _, (by kernel_rfl : Try.prog.info? 232 = some ((Try.prog.info? 232).get (by kernel_rfl))), by kernel_rfl, by kernel_rfl, (by kernel_rfl : _ = some (((Try.prog.info? 232).get (by kernel_rfl)).zero.get (by kernel_rfl))), by kernel_rfl, by decide⟩⟩
theorem tyF122 : TyF Try.prog 122 ⟨1, .sl 240 1 24, [.sl 240 1]⟩ :=
  ⟨⟨_, _, (by kernel_rfl : Try.prog.info? 122 = some ((Try.prog.info? 122).get (by kernel_rfl))), by kernel_rfl, (by kernel_rfl : _ = some (((Try.prog.info? 122).get (by kernel_rfl)).zero.get (by kernel_rfl))), by kernel_rfl⟩, rfl, ⟨Try.underlying122, _, _, (by kernel_rfl : Try.prog.info? 240 = some ((Try.prog.info? 240).get (by kernel_rfl))), by kernel_rfl, by kernel_rfl, (by kernel_rfl : _ = some (((Try.prog.info? 240).get (by kernel_rfl)).zero.get (by kernel_rfl))), by kernel_rfl, by decide⟩⟩
theorem tyF123 : TyF Try.prog 123 ⟨1, .sl 201 7 56, [.sl 201 7]⟩ :=
  ⟨⟨_, _, (by kernel_rfl : Try.prog.info? 123 = some ((Try.prog.info? 123).get (by kernel_rfl))), by kernel_rfl, (by kernel_rfl : _ = some (((Try.prog.info? 123).get (by kernel_rfl)).zero.get (by kernel_rfl))), by kernel_rfl⟩, rfl, ⟨Try.underlying123, _, _, (by kernel_rfl : Try.prog.info? 201 = some ((Try.prog.info? 201).get (by kernel_rfl))), by kernel_rfl, by kernel_rfl, (by kernel_rfl : _ = some (((Try.prog.info? 201).get (by kernel_rfl)).zero.get (by kernel_rfl))), by kernel_rfl, by decide⟩⟩
theorem tyF124 : TyF Try.prog 124 ⟨13, .st [(0, 8), (8, 1), (9, 1), (10, 1), (11, 1), (12, 1)], [.sl 3 1, .sl 3 1, .sl 295 1, .sl 295 1, .lit (.int .i64 0), .sl 284 4, .sl 175 1, .sl 3 1, .sl 3 1, .sl 232 21, .sl 240 1, .sl 201 7, .lit (.int .i64 0)]⟩ :=
  ⟨⟨_, _, (by kernel_rfl : Try.prog.info? 124 = some ((Try.prog.info? 124).get (by kernel_rfl))), by kernel_rfl, (by kernel_rfl : _ = some (((Try.prog.info? 124).get (by kernel_rfl)).zero.get (by kernel_rfl))), by kernel_rfl⟩, rfl, ⟨_, Try.underlying124, by kernel_rfl, rfl⟩⟩
theorem tyF125 : TyF Try.prog 125 ⟨13, .st [(0, 8), (8, 1), (9, 1), (10, 1), (11, 1), (12, 1)], [.sl 3 1, .sl 3 1, .sl 295 1, .sl 295 1, .lit (.int .i64 0), .sl 284 4, .sl 175 1, .sl 3 1, .sl 3 1, .sl 232 21, .sl 240 1, .sl 201 7, .lit (.int .i64 0)]⟩ :=
  ⟨⟨_, _, (by kernel_rfl : Try.prog.info? 125 = some ((Try.prog.info? 125).get (by kernel_rfl))), by kernel_rfl, (by kernel_rfl : _ = some (((Try.prog.info? 125).get (by kernel_rfl)).zero.get (by kernel_rfl))), by kernel_rfl⟩, rfl, ⟨_, Try.underlying125, by kernel_rfl, rfl⟩⟩
theorem tyF135 : TyF Try.prog 135 ⟨2, .st [(0, 1), (1, 1)], [.lit (.int .i64 0), .lit (.int .i64 0)]⟩ :=
  ⟨⟨_, _, (by kernel_rfl : Try.prog.info? 135 = some ((Try.prog.info? 135).get (by kernel_rfl))), by kernel_rfl, (by kernel_rfl : _ = some (((Try.prog.info? 135).get (by kernel_rfl)).zero.get (by kernel_rfl))), by kernel_rfl⟩, rfl, ⟨_, Try.underlying135, by kernel_rfl, rfl⟩⟩
theorem tyF136 : TyF Try.prog 136 ⟨2, .st [(0, 1), (1, 1)], [.lit (.int .i64 0), .lit (.int .i64 0)]⟩ :=
  ⟨⟨_, _, (by kernel_rfl : Try.prog.info? 136 = some ((Try.prog.info? 136).get (by kernel_rfl))), by kernel_rfl, (by kernel_rfl : _ = some (((Try.prog.info? 136).get (by kernel_rfl)).zero.get (by kernel_rfl))), by kernel_rfl⟩, rfl, ⟨_, Try.underlying136, by kernel_rfl, rfl⟩⟩
theorem tyF138 : TyF Try.prog 138 ⟨2, .st [(0, 1), (1, 1)], [.lit (.int .i64 0), .lit (.int .i64 0)]⟩ :=
  ⟨⟨_, _, (by kernel_rfl : Try.prog.info? 138 = some ((Try.prog.info? 138).get (by kernel_rfl))), by kernel_rfl, (by kernel_rfl : _ = some (((Try.prog.info? 138).get (by kernel_rfl)).zero.get (by kernel_rfl))), by kernel_rfl⟩, rfl, ⟨_, Try.underlying138, by kernel_rfl, rfl⟩⟩
theorem tyF156 : TyF Try.prog 156 ⟨1, .sl 254 2 16, [.sl 254 2]⟩ :=
  ⟨⟨_, _, (by kernel_rfl : Try.prog.info? 156 = some ((Try.prog.info? 156).get (by kernel_rfl))), by kernel_rfl, (by kernel_rfl : _ = some (((Try.prog.info? 156).get (by kernel_rfl)).zero.get (by kernel_rfl))), by kernel_rfl⟩, rfl, ⟨Try.underlying156, _, _, (by kernel_rfl : Try.prog.info? 254 = some ((Try.prog.info? 254).get (by kernel_rfl))), by kernel_rfl, by kernel_rfl, (by kernel_rfl : _ = some (((Try.prog.info? 254).get (by kernel_rfl)).zero.get (by kernel_rfl))), by kernel_rfl, by decide⟩⟩
theorem tyF157 : TyF Try.prog 157 ⟨6, .st [(0, 1), (1, 1), (2, 1), (3, 1), (4, 1), (5, 1)], [.lit (.int .i64 0), .lit (.int .i64 0), .lit (.int .i64 0), .lit (.int .i64 0), .sl 45 3, .sl 254 2]⟩ :=
  ⟨⟨_, _, (by kernel_rfl : Try.prog.info? 157 = some ((Try.prog.info? 157).get (by kernel_rfl))), by kernel_rfl, (by kernel_rfl : _ = some (((Try.prog.info? 157).get (by kernel_rfl)).zero.get (by kernel_rfl))), by kernel_rfl⟩, rfl, ⟨_, Try.underlying157, by kernel_rfl, rfl⟩⟩
theorem tyF158 : TyF Try.prog 158 ⟨6, .st [(0, 1), (1, 1), (2, 1), (3, 1), (4, 1), (5, 1)], [.lit (.int .i64 0), .lit (.int .i64 0), .lit (.int .i64 0), .lit (.int .i64 0), .sl 45 3, .sl 254 2]⟩ :=
  ⟨⟨_, _, (by kernel_rfl : Try.prog.info? 158 = some ((Try.prog.info? 158).get (by kernel_rfl))), by kernel_rfl, (by kernel_rfl : _ = some (((Try.prog.info? 158).get (by kernel_rfl)).zero.get (by kernel_rfl))), by kernel_rfl⟩, rfl, ⟨_, Try.underlying158, by kernel_rfl, rfl⟩⟩
theorem tyF161 : TyF Try.prog 161 ⟨6, .st [(0, 1), (1, 1), (2, 1), (3, 1), (4, 1), (5, 1)], [.lit (.int .i64 0), .lit (.int .i64 0), .lit (.int .i64 0), .lit (.int .i64 0), .sl 50 3, .sl 47 2]⟩ :=
  ⟨⟨_, _, (by kernel_rfl : Try.prog.info? 161 = some ((Try.prog.info? 161).get (by kernel_rfl))), by kernel_rfl, (by kernel_rfl : _ = some (((Try.prog.info? 161).get (by kernel_rfl)).zero.get (by kernel_rfl))), by kernel_rfl⟩, rfl, ⟨_, Try.underlying161, by kernel_rfl, rfl⟩⟩
theorem tyF162 : TyF Try.prog 162 ⟨6, .st [(0, 1), (1, 1), (2, 1), (3, 1), (4, 1), (5, 1)], [.lit (.int .i64 0), .lit (.int .i64 0), .lit (.int .i64 0), .lit (.int .i64 0), .sl 50 3, .sl 47 2]⟩ :=
  ⟨⟨_, _, (by kernel_rfl : Try.prog.info? 162 = some ((Try.prog.info? 162).get (by kernel_rfl))), by kernel_rfl, (by kernel_rfl : _ = some (((Try.prog.info? 162).get (by kernel_rfl)).zero.get (by kernel_rfl))), by kernel_rfl⟩, rfl, ⟨_, Try.underlying162, by kernel_rfl, rfl⟩⟩
theorem tyF167 : TyF Try.prog 167 ⟨1, .sl 260 2 16, [.sl 260 2]⟩ :=
  ⟨⟨_, _, (by kernel_rfl : Try.prog.info? 167 = some ((Try.prog.info? 167).get (by kernel_rfl))), by kernel_rfl, (by kernel_rfl : _ = some (((Try.prog.info? 167).get (by kernel_rfl)).zero.get (by kernel_rfl))), by kernel_rfl⟩, rfl, ⟨Try.underlying167, _, _, (by kernel_rfl : Try.prog.info? 260 = some ((Try.prog.info? 260).get (by kernel_rfl))), by kernel_rfl, by kernel_rfl, (by kernel_rfl : _ = some (((Try.prog.info? 260).get (by kernel_rfl)).zero.get (by kernel_rfl))), by kernel_rfl, by decide⟩⟩
theorem tyF168 : TyF Try.prog 168 ⟨1, .st [(0, 1)], [.sl 260 2]⟩ :=
  ⟨⟨_, _, (by kernel_rfl : Try.prog.info? 168 = some ((Try.prog.info? 168).get (by kernel_rfl))), by kernel_rfl, (by kernel_rfl : _ = some (((Try.prog.info? 168).get (by kernel_rfl)).zero.get (by kernel_rfl))), by kernel_rfl⟩, rfl, ⟨_, Try.underlying168, by kernel_rfl, rfl⟩⟩
theorem tyF169 : TyF Try.prog 169 ⟨1, .st [(0, 1)], [.sl 260 2]⟩ :=
  ⟨⟨_, _, (by kernel_rfl : Try.prog.info? 169 = some ((Try.prog.info? 169).get (by kernel_rfl))), by kernel_rfl, (by kernel_rfl : _ = some (((Try.prog.info? 169).get (by kernel_rfl)).zero.get (by kernel_rfl))), by kernel_rfl⟩, rfl, ⟨_, Try.underlying169, by kernel_rfl, rfl⟩⟩
theorem tyF173 : TyF Try.prog 173 ⟨1, .sl 177 2 16, [.sl 177 2]⟩ :=
  ⟨⟨_, _, (by kernel_rfl : Try.prog.info? 173 = some ((Try.prog.info? 173).get (by kernel_rfl))), by kernel_rfl, (by kernel_rfl : _ = some (((Try.prog.info? 173).get (by kernel_rfl)).zero.get (by kernel_rfl))), by kernel_rfl⟩, rfl, ⟨Try.underlying173, _, _, (by kernel_rfl : Try.prog.info? 177 = some ((Try.prog.info? 177).get (by kernel_rfl))), by kernel_rfl, by kernel_rfl, (by kernel_rfl : _ = some (((Try.prog.info? 177).get (by kernel_rfl)).zero.get (by kernel_rfl))), by kernel_rfl, by decide⟩⟩
theorem tyF174 : TyF Try.prog 174 ⟨1, .st [(0, 1)], [.sl 177 2]⟩ :=
  ⟨⟨_, _, (by kernel_rfl : Try.prog.info? 174 = some ((Try.prog.info? 174).get (by kernel_rfl))), by kernel_rfl, (by kernel_rfl : _ = some (((Try.prog.info? 174).get (by kernel_rfl)).zero.get (by kernel_rfl))), by kernel_rfl⟩, rfl, ⟨_, Try.underlying174, by kernel_rfl, rfl⟩⟩
theorem tyF175 : TyF Try.prog 175 ⟨1, .st [(0, 1)], [.sl 177 2]⟩ :=
  ⟨⟨_, _, (by kernel_rfl : Try.prog.info? 175 = some ((Try.prog.info? 175).get (by kernel_rfl))), by kernel_rfl, (by kernel_rfl : _ = some (((Try.prog.info? 175).get (by kernel_rfl)).zero.get (by kernel_rfl))), by kernel_rfl⟩, rfl, ⟨_, Try.underlying175, by kernel_rfl, rfl⟩⟩
theorem tyF176 : TyF Try.prog 176 ⟨2, .st [(0, 1), (1, 1)], [.lit (.int .i64 0), .lit (.int .i64 0)]⟩ :=
  ⟨⟨_, _, (by kernel_rfl : Try.prog.info? 176 = some ((Try.prog.info? 176).get (by kernel_rfl))), by kernel_rfl, (by kernel_rfl : _ = some (((Try.prog.info? 176).get (by kernel_rfl)).zero.get (by kernel_rfl))), by kernel_rfl⟩, rfl, ⟨_, Try.underlying176, by kernel_rfl, rfl⟩⟩
theorem tyF177 : TyF Try.prog 177 ⟨2, .st [(0, 1), (1, 1)], [.lit (.int .i64 0), .lit (.int .i64 0)]⟩ :=
  ⟨⟨_, _, (by kernel_rfl : Try.prog.info? 177 = some ((Try.prog.info? 177).get (by kernel_rfl))), by kernel_rfl, (by kernel_rfl : _ = some (((Try.prog.info? 177).get (by kernel_rfl)).zero.get (by kernel_rfl))), by kernel_rfl⟩, rfl, ⟨_, Try.underlying177, by kernel_rfl, rfl⟩⟩
theorem tyF200 : TyF Try.prog 200 ⟨7, .st [(0, 1), (1, 1), (2, 1), (3, 1), (4, 1), (5, 1), (6, 1)], [.lit (.int .i64 0), .lit (.int .i64 0), .lit (.int .i64 0), .lit (.int .i64 0), .lit (.int .i64 0), .lit (.int .i64 0), .lit (.int .i64 0)]⟩ :=
  ⟨⟨_, _, (by kernel_rfl : Try.prog.info? 200 = some ((Try.prog.info? 200).get (by kernel_rfl))), by kernel_rfl, (by kernel_rfl : _ = some (((Try.prog.info? 200).get (by kernel_rfl)).zero.get (by kernel_rfl))), by kernel_rfl⟩, rfl, ⟨_, Try.underlying200, by kernel_rfl, rfl⟩⟩
theorem tyF201 : TyF Try.prog 201 ⟨7, .st [(0, 1), (1, 1), (2, 1), (3, 1), (4, 1), (5, 1), (6, 1)], [.lit (.int .i64 0), .lit (.int .i64 0), .lit (.int .i64 0), .lit (.int .i64 0), .lit (.int .i64 0), .lit (.int .i64 0), .lit (.int .i64 0)]⟩ :=
  ⟨⟨_, _, (by kernel_rfl : Try.prog.info? 201 = some ((Try.prog.info? 201).get (by kernel_rfl))), by kernel_rfl, (by kernel_rfl : _ = some (((Try.prog.info? 201).get (by kernel_rfl)).zero.get (by kernel_rfl))), by kernel_rfl⟩, rfl, ⟨_, Try.underlying201, by kernel_rfl, rfl⟩⟩
theorem tyF217 : TyF Try.prog 217 ⟨24, .arr 24 4 1, [.lit (.bool false), .lit (.bool false), .lit (.bool false), .lit (.bool false), .lit (.bool false), .lit (.bool false), .lit (.bool false), .lit (.bool false), .lit (.bool false), .lit (.bool false), .lit (.bool false), .lit (.bool false), .lit (.bool false), .lit (.bool false), .lit (.bool false), .lit (.bool false), .lit (.bool false), .lit (.bool false), .lit (.bool false), .lit (.bool false), .lit (.bool false), .lit (.bool false), .lit (.bool false), .lit (.bool false)]⟩ :=
  ⟨⟨_, _, (by kernel_rfl : Try.prog.info? 217 = some ((Try.prog.info? 217).get (by kernel_rfl))), by kernel_rfl, (by kernel_rfl : _ = some (((Try.prog.info? 217).get (by kernel_rfl)).zero.get (by kernel_rfl))), by kernel_rfl⟩, rfl, ⟨Try.underlying217, _, (by kernel_rfl : Try.prog.info? 4 = some ((Try.prog.info? 4).get (by kernel_rfl))), by kernel_rfl⟩⟩
theorem tyF222 : TyF Try.prog 222 ⟨1, .sl 234 4 32, [.sl 234 4]⟩ :=
  ⟨⟨_, _, (by kernel_rfl : Try.prog.info? 222 = some ((Try.prog.info? 222).get (by kernel_rfl))), by kernel_rfl, (by kernel_rfl : _ = some (((Try.prog.info? 222).get (by kernel_rfl)).zero.get (by kernel_rfl))), by kernel_rfl⟩, rfl, ⟨Try.underlying222, _, _, (by kernel_rfl : Try.prog.info? 234 = some ((Try.prog.info? 234).get (by kernel_rfl))), by kernel_rfl, by kernel_rfl, (by kernel_rfl : _ = some (((Try.prog.info? 234).get (by kernel_rfl)).zero.get (by kernel_rfl))), by kernel_rfl, by decide⟩⟩
theorem tyF223 : TyF Try.prog 223 ⟨1, .st [(0, 1)], [.sl 234 4]⟩ :=
  ⟨⟨_, _, (by kernel_rfl : Try.prog.info? 223 = some ((Try.prog.info? 223).get (by kernel_rfl))), by kernel_rfl, (by kernel_rfl : _ = some (((Try.prog.info? 223).get (by kernel_rfl)).zero.get (by kernel_rfl))), by kernel_rfl⟩, rfl, ⟨_, Try.underlying223, by kernel_rfl, rfl⟩⟩
theorem tyF224 : TyF Try.prog 224 ⟨1, .st [(0, 1)], [.sl 234 4]⟩ :=
  ⟨⟨_, _, (by kernel_rfl : Try.prog.info? 224 = some ((Try.prog.info? 224).get (by kernel_rfl))), by kernel_rfl, (by kernel_rfl : _ = some (((Try.prog.info? 224).get (by kernel_rfl)).zero.get (by kernel_rfl))), by kernel_rfl⟩, rfl, ⟨_, Try.underlying224, by kernel_rfl, rfl⟩⟩
theorem tyF227 : TyF Try.prog 227 ⟨4, .st [(0, 1), (1, 1), (2, 1), (3, 1)], [.lit (.int .i64 0), .lit (.int .i64 0), .lit (.int .i64 0), .lit (.int .i64 0)]⟩ :=
  ⟨⟨_, _, (by kernel_rfl : Try.prog.info? 227 = some ((Try.prog.info? 227).get (by kernel_rfl))), by kernel_rfl, (by kernel_rfl : _ = some (((Try.prog.info? 227).get (by kernel_rfl)).zero.get (by kernel_rfl))), by kernel_rfl⟩, rfl, ⟨_, Try.underlying227, by kernel_rfl, rfl⟩⟩
theorem tyF228 : TyF Try.prog 228 ⟨4, .st [(0, 1), (1, 1), (2, 1), (3, 1)], [.lit (.int .i64 0), .lit (.int .i64 0), .lit (.int .i64 0), .lit (.int .i64 0)]⟩ :=
  ⟨⟨_, _, (by kernel_rfl : Try.prog.info? 228 = some ((Try.prog.info? 228).get (by kernel_rfl))), by kernel_rfl, (by kernel_rfl : _ = some (((Try.prog.info? 228).get (by kernel_rfl)).zero.get (by kernel_rfl))), by kernel_rfl⟩, rfl, ⟨_, Try.underlying228, by kernel_rfl, rfl⟩⟩
theorem tyF229 : TyF Try.prog 229 ⟨10, .st [(0, 1), (1, 1), (2, 1), (3, 1), (4, 1), (5, 1), (6, 1), (7, 1), (8, 1), (9, 1)], [.lit (.int .i64 0), .lit (.int .i64 0), .lit (.int .i64 0), .lit (.int .i64 0), .lit (.int .i64 0), .lit (.int .i64 0), .lit (.int .i64 0), .lit (.int .i64 0), .lit (.int .i64 0), .lit (.bool false)]⟩ :=
  ⟨⟨_, _, (by kernel_rfl : Try.prog.info? 229 = some ((Try.prog.info? 229).get (by kernel_rfl))), by kernel_rfl, (by kernel_rfl : _ = some (((Try.prog.info? 229).get (by kernel_rfl)).zero.get (by kernel_rfl))), by kernel_rfl⟩, rfl, ⟨_, Try.underlying229, by kernel_rfl, rfl⟩⟩
theorem tyF230 : TyF Try.prog 230 ⟨10, .st [(0, 1), (1, 1), (2, 1), (3, 1), (4, 1), (5, 1), (6, 1), (7, 1), (8, 1), (9, 1)], [.lit (.int .i64 0), .lit (.int .i64 0), .lit (.int .i64 0), .lit (.int .i64 0), .lit (.int .i64 0), .lit (.int .i64 0), .lit (.int .i64 0), .lit (.int .i64 0), .lit (.int .i64 0), .lit (.bool false)]⟩ :=
  ⟨⟨_, _, (by kernel_rfl : Try.prog.info? 230 = some ((Try.prog.info? 230).get (by kernel_rfl))), by kernel_rfl, (by kernel_rfl : _ = some (((Try.prog.info? 230).get (by kernel_rfl)).zero.get (by kernel_rfl))), by kernel_rfl⟩, rfl, ⟨_, Try.underlying230, by kernel_rfl, rfl⟩⟩
theorem tyF231 : TyF Try.prog 231 ⟨21, .st [(0, 1), (1, 4), (5, 1), (6, 1), (7, 10), (17, 1), (18, 1), (19, 1), (20, 1)], [.lit (.bool false), .lit (.int .i64 0), .lit (.int .i64 0), .lit (.int .i64 0), .lit (.int .i64 0), .lit (.int .i64 0), .lit (.int .i64 0), .lit (.int .i64 0), .lit (.int .i64 0), .lit (.int .i64 0), .lit (.int .i64 0), .lit (.int .i64 0), .lit (.int .i64 0), .lit (.int .i64 0), .lit (.int .i64 0), .lit (.int .i64 0), .lit (.bool false), .lit (.int .i64 0), .lit (.int .i64 0), .lit (.int .i64 0), .lit (.int .i64 0)]⟩ :=
  ⟨⟨_, _, (by kernel_rfl : Try.prog.info? 231 = some ((Try.prog.info? 231).get (by kernel_rfl))), by kernel_rfl, (by kernel_rfl : _ = some (((Try.prog.info? 231).get (by kernel_rfl)).zero.get (by kernel_rfl))), by kernel_rfl⟩, rfl, ⟨_, Try.underlying231, by kernel_rfl, rfl⟩⟩
theorem tyF232 : TyF Try.prog 232 ⟨21, .st [(0, 1), (1, 4), (5, 1), (6, 1), (7, 10), (17, 1), (18, 1), (19, 1), (20, 1)], [.lit (.bool false), .lit (.int .i64 0), .lit (.int .i64 0), .lit (.int .i64 0), .lit (.int .i64 0), .lit (.int .i64 0), .lit (.int .i64 0), .lit (.int .i64 0), .lit (.int .i64 0), .lit (.int .i64 0), .lit (.int .i64 0), .lit (.int .i64 0), .lit (.int .i64 0), .lit (.int .i64 0), .lit (.int .i64 0), .lit (.int .i64 0), .lit (.bool false), .lit (.int .i64 0), .lit (.int .i64 0), .lit (.int .i64 0), .lit (.int .i64 0)]⟩ :=
  ⟨⟨_, _, (by kernel_rfl : Try.prog.info? 232 = some ((Try.prog.info? 232).get (by kernel_rfl))), by kernel_rfl, (by kernel_rfl : _ = some (((Try.prog.info? 232).get (by kernel_rfl)).zero.get (by kernel_rfl))), by kernel_rfl⟩, rfl, ⟨_, Try.underlying232, by kernel_rfl, rfl⟩⟩
theorem tyF234 : TyF Try.prog 234 ⟨4, .st [(0, 1), (1, 1), (2, 1), (3, 1)], [.lit (.int .i64 0), .lit (.int .i64 0), .lit (.int .i64 0), .lit (.int .i64 0)]⟩ :=
  ⟨⟨_, _, (by kernel_rfl : Try.prog.info? 234 = some ((Try.prog.info? 234).get (by kernel_rfl))), by kernel_rfl, (by kernel_rfl : _ = some (((Try.prog.info? 234).get (by kernel_rfl)).zero.get (by kernel_rfl))), by kernel_rfl⟩, rfl, ⟨_, Try.underlying234, by kernel_rfl, rfl⟩⟩
theorem tyF235 : TyF Try.prog 235 ⟨10, .st [(0, 1), (1, 1), (2, 1), (3, 1), (4, 1), (5, 1), (6, 1), (7, 1), (8, 1), (9, 1)], [.lit (.int .i64 0), .lit (.int .i64 0), .lit (.int .i64 0), .lit (.int .i64 0), .lit (.int .i64 0), .lit (.int .i64 0), .lit (.int .i64 0), .lit (.int .i64 0), .lit (.int .i64 0), .lit (.bool false)]⟩ :=
  ⟨⟨_, _, (by kernel_rfl : Try.prog.info? 235 = some ((Try.prog.info? 235).get (by kernel_rfl))), by kernel_rfl, (by kernel_rfl : _ = some (((Try.prog.info? 235).get (by kernel_rfl)).zero.get (by kernel_rfl))), by kernel_rfl⟩, rfl, ⟨_, Try.underlying235, by kernel_rfl, rfl⟩⟩
theorem tyF236 : TyF Try.prog 236 ⟨21, .st [(0, 1), (1, 4), (5, 1), (6, 1), (7, 10), (17, 1), (18, 1), (19, 1), (20, 1)], [.lit (.bool false), .lit (.int .i64 0), .lit (.int .i64 0), .lit (.int .i64 0), .lit (.int .i64 0), .lit (.int .i64 0), .lit (.int .i64 0), .lit (.int .i64 0), .lit (.int .i64 0), .lit (.int .i64 0), .lit (.int .i64 0), .lit (.int .i64 0), .lit (.int .i64 0), .lit (.int .i64 0), .lit (.int .i64 0), .lit (.int .i64 0), .lit (.bool false), .lit (.int .i64 0), .lit (.int .i64 0), .lit (.int .i64 0), .lit (.int .i64 0)]⟩ :=
  ⟨⟨_, _, (by kernel_rfl : Try.prog.info? 236 = some ((Try.prog.info? 236).get (by kernel_rfl))), by kernel_rfl, (by kernel_rfl : _ = some (((Try.prog.info? 236).get (by kernel_rfl)).zero.get (by kernel_rfl))), by kernel_rfl⟩, rfl, ⟨_, Try.underlying236, by kernel_rfl, rfl⟩⟩
theorem tyF237 : TyF Try.prog 237 ⟨21, .st [(0, 1), (1, 4), (5, 1), (6, 1), (7, 10), (17, 1), (18, 1), (19, 1), (20, 1)], [.lit (.bool false), .lit (.int .i64 0), .lit (.int .i64 0), .lit (.int .i64 0), .lit (.int .i64 0), .lit (.int .i64 0), .lit (.int .i64 0), .lit (.int .i64 0), .lit (.int .i64 0), .lit (.int .i64 0), .lit (.int .i64 0), .lit (.int .i64 0), .lit (.int .i64 0), .lit (.int .i64 0), .lit (.int .i64 0), .lit (.int .i64 0), .lit (.bool false), .lit (.int .i64 0), .lit (.int .i64 0), .lit (.int .i64 0), .lit (.int .i64 0)]⟩ :=
  ⟨⟨_, _, (by kernel_rfl : Try.prog.info? 237 = some ((Try.prog.info? 237).get (by kernel_rfl))), by kernel_rfl, (by kernel_rfl : _ = some (((Try.prog.info? 237).get (by kernel_rfl)).zero.get (by kernel_rfl))), by kernel_rfl⟩, rfl, ⟨_, Try.underlying237, by kernel_rfl, rfl⟩⟩
theorem tyF238 : TyF Try.prog 238 ⟨1, .sl 228 4 32, [.sl 228 4]⟩ :=
  ⟨⟨_, _, (by kernel_rfl : Try.prog.info? 238 = some ((Try.prog.info? 238).get (by kernel_rfl))), by kernel_rfl, (by kernel_rfl : _ = some (((Try.prog.info? 238).get (by kernel_rfl)).zero.get (by kernel_rfl))), by kernel_rfl⟩, rfl, ⟨Try.underlying238, _, _, (by kernel_rfl : Try.prog.info? 228 = some ((Try.prog.info? 228).get (by kernel_rfl))), by kernel_rfl, by kernel_rfl, (by kernel_rfl : _ = some (((Try.prog.info? 228).get (by kernel_rfl)).zero.get (by kernel_rfl))), by kernel_rfl, by decide⟩⟩
theorem tyF239 : TyF Try.prog 239 ⟨1, .st [(0, 1)], [.sl 228 4]⟩ :=
  ⟨⟨_, _, (by kernel_rfl : Try.prog.info? 239 = some ((Try.prog.info? 239).get (by kernel_rfl))), by kernel_rfl, (by kernel_rfl : _ = some (((Try.prog.info? 239).get (by kernel_rfl)).zero.get (by kernel_rfl))), by kernel_rfl⟩, rfl, ⟨_, Try.underlying239, by kernel_rfl, rfl⟩⟩
theorem tyF240 : TyF Try.prog 240 ⟨1, .st [(0, 1)], [.sl 228 4]⟩ :=
  ⟨⟨_, _, (by kernel_rfl : Try.prog.info? 240 = some ((Try.prog.info? 240).get (by kernel_rfl))), by kernel_rfl, (by kernel_rfl : _ = some (((Try.prog.info? 240).get (by kernel_rfl)).zero.get (by kernel_rfl))), by kernel_rfl⟩, rfl, ⟨_, Try.underlying240, by kernel_rfl, rfl⟩⟩
theorem tyF243 : TyF Try.prog 243 ⟨7, .st [(0, 1), (1, 1), (2, 1), (3, 1), (4, 1), (5, 1), (6, 1)], [.lit (.int .i64 0), .lit (.int .i64 0), .lit (.int .i64 0), .lit (.int .i64 0), .lit (.int .i64 0), .lit (.int .i64 0), .lit (.int .i64 0)]⟩ :=
  ⟨⟨_, _, (by kernel_rfl : Try.prog.info? 243 = some ((Try.prog.info? 243).get (by kernel_rfl))), by kernel_rfl, (by kernel_rfl : _ = some (((Try.prog.info? 243).get (by kernel_rfl)).zero.get (by kernel_rfl))), by kernel_rfl⟩, rfl, ⟨_, Try.underlying243, by kernel_rfl, rfl⟩⟩
theorem tyF254 : TyF Try.prog 254 ⟨2, .st [(0, 1), (1, 1)], [.lit (.bool false), .lit (.int .i64 0)]⟩ :=
  ⟨⟨_, _, (by kernel_rfl : Try.prog.info? 254 = some ((Try.prog.info? 254).get (by kernel_rfl))), by kernel_rfl, (by kernel_rfl : _ = some (((Try.prog.info? 254).get (by kernel_rfl)).zero.get (by kernel_rfl))), by kernel_rfl⟩, rfl, ⟨_, Try.underlying254, by kernel_rfl, rfl⟩⟩
theorem tyF257 : TyF Try.prog 257 ⟨12, .arr 6 47 2, [.lit (.bool false), .lit (.int .i64 0), .lit (.bool false), .lit (.int .i64 0), .lit (.bool false), .lit (.int .i64 0), .lit (.bool false), .lit (.int .i64 0), .lit (.bool false), .lit (.int .i64 0), .lit (.bool false), .lit (.int .i64 0)]⟩ :=
  ⟨⟨_, _, (by kernel_rfl : Try.prog.info? 257 = some ((Try.prog.info? 257).get (by kernel_rfl))), by kernel_rfl, (by kernel_rfl : _ = some (((Try.prog.info? 257).get (by kernel_rfl)).zero.get (by kernel_rfl))), by kernel_rfl⟩, rfl, ⟨Try.underlying257, _, (by kernel_rfl : Try.prog.info? 47 = some ((Try.prog.info? 47).get (by kernel_rfl))), by kernel_rfl⟩⟩
theorem tyF260 : TyF Try.prog 260 ⟨2, .st [(0, 1), (1, 1)], [.lit (.int .i64 0), .lit (.int .i64 0)]⟩ :=
  ⟨⟨_, _, (by kernel_rfl : Try.prog.info? 260 = some ((Try.prog.info? 260).get (by kernel_rfl))), by kernel_rfl, (by kernel_rfl : _ = some (((Try.prog.info? 260).get (by kernel_rfl)).zero.get (by kernel_rfl))), by kernel_rfl⟩, rfl, ⟨_, Try.underlying260, by kernel_rfl, rfl⟩⟩
theorem tyF283 : TyF Try.prog 283 ⟨4, .st [(0, 1), (1, 1), (2, 1), (3, 1)], [.lit (.bool false), .lit (.int .i64 0), .lit (.bool false), .lit (.int .i64 0)]⟩ :=
  ⟨⟨_, _, (by kernel_rfl : Try.prog.info? 283 = some ((Try.prog.info? 283).get (by kernel_rfl))), by kernel_rfl, (by kernel_rfl : _ = some (((Try.prog.info? 283).get (by kernel_rfl)).zero.get (by kernel_rfl))), by kernel_rfl⟩, rfl, ⟨_, Try.underlying283, by kernel_rfl, rfl⟩⟩
theorem tyF284 : TyF Try.prog 284 ⟨4, .st [(0, 1), (1, 1), (2, 1), (3, 1)], [.lit (.bool false), .lit (.int .i64 0), .lit (.bool false), .lit (.int .i64 0)]⟩ :=
  ⟨⟨_, _, (by kernel_rfl : Try.prog.info? 284 = some ((Try.prog.info? 284).get (by kernel_rfl))), by kernel_rfl, (by kernel_rfl : _ = some (((Try.prog.info? 284).get (by kernel_rfl)).zero.get (by kernel_rfl))), by kernel_rfl⟩, rfl, ⟨_, Try.underlying284, by kernel_rfl, rfl⟩⟩
theorem tyF286 : TyF Try.prog 286 ⟨4, .st [(0, 1), (1, 1), (2, 1), (3, 1)], [.lit (.bool false), .lit (.int .i64 0), .lit (.bool false), .lit (.int .i64 0)]⟩ :=
  ⟨⟨_, _, (by kernel_rfl : Try.prog.info? 286 = some ((Try.prog.info? 286).get (by kernel_rfl))), by kernel_rfl, (by kernel_rfl : _ = some (((Try.prog.info? 286).get (by kernel_rfl)).zero.get (by kernel_rfl))), by kernel_rfl⟩, rfl, ⟨_, Try.underlying286, by kernel_rfl, rfl⟩⟩
theorem tyF293 : TyF Try.prog 293 ⟨1, .st [(0, 1)], [.sl 3 1]⟩ :=
  ⟨⟨_, _, (by kernel_rfl : Try.prog.info? 293 = some ((Try.prog.info? 293).get (by kernel_rfl))), by kernel_rfl, (by kernel_rfl : _ = some (((Try.prog.info? 293).get (by kernel_rfl)).zero.get (by kernel_rfl))), by kernel_rfl⟩, rfl, ⟨_, Try.underlying293, by kernel_rfl, rfl⟩⟩
theorem tyF294 : TyF Try.prog 294 ⟨1, .st [(0, 1)], [.sl 3 1]⟩ :=
  ⟨⟨_, _, (by kernel_rfl : Try.prog.info? 294 = some ((Try.prog.info? 294).get (by kernel_rfl))), by kernel_rfl, (by kernel_rfl : _ = some (((Try.prog.info? 294).get (by kernel_rfl)).zero.get (by kernel_rfl))), by kernel_rfl⟩, rfl, ⟨_, Try.underlying294, by kernel_rfl, rfl⟩⟩
theorem tyF295 : TyF Try.prog 295 ⟨1, .st [(0, 1)], [.sl 3 1]⟩ :=
  ⟨⟨_, _, (by kernel_rfl : Try.prog.info? 295 = some ((Try.prog.info? 295).get (by kernel_rfl))), by kernel_rfl, (by kernel_rfl : _ = some (((Try.prog.info? 295).get (by kernel_rfl)).zero.get (by kernel_rfl))), by kernel_rfl⟩, rfl, ⟨_, Try.underlying295, by kernel_rfl, rfl⟩⟩
theorem tyF305 : TyF Try.prog 305 ⟨1, .sc, [.lit (.int .u32 0)]⟩ :=
  ⟨⟨_, _, (by kernel_rfl : Try.prog.info? 305 = some ((Try.prog.info? 305).get (by kernel_rfl))), by kernel_rfl, (by kernel_rfl : _ = some (((Try.prog.info? 305).get (by kernel_rfl)).zero.get (by kernel_rfl))), by kernel_rfl⟩, rfl, ⟨_, Try.underlying305, rfl⟩⟩
theorem tyF306 : TyF Try.prog 306 ⟨1, .sc, [.lit (.int .u8 0)]⟩ :=
  ⟨⟨_, _, (by kernel_rfl : Try.prog.info? 306 = some ((Try.prog.info? 306).get (by kernel_rfl))), by kernel_rfl, (by kernel_rfl : _ = some (((Try.prog.info? 306).get (by kernel_rfl)).zero.get (by kernel_rfl))), by kernel_rfl⟩, rfl, ⟨_, Try.underlying306, rfl⟩⟩
theorem tyF307 : TyF Try.prog 307 ⟨1, .sc, [.lit (.int .u8 0)]⟩ :=
  ⟨⟨_, _, (by kernel_rfl : Try.prog.info? 307 = some ((Try.prog.info? 307).get (by kernel_rfl))), by kernel_rfl, (by kernel_rfl : _ = some (((Try.prog.info? 307).get (by kernel_rfl)).zero.get (by kernel_rfl))), by kernel_rfl⟩, rfl, ⟨_, Try.underlying307, rfl⟩⟩
theorem tyF310 : TyF Try.prog 310 ⟨1, .sc, [.lit (.int .i32 0)]⟩ :=
  ⟨⟨_, _, (by kernel_rfl : Try.prog.info? 310 = some ((Try.prog.info? 310).get (by kernel_rfl))), by kernel_rfl, (by kernel_rfl : _ = some (((Try.prog.info? 310).get (by kernel_rfl)).zero.get (by kernel_rfl))), by kernel_rfl⟩, rfl, ⟨_, Try.underlying310, rfl⟩⟩
theorem tyF311 : TyF Try.prog 311 ⟨1, .sc, [.lit (.int .i32 0)]⟩ :=
  ⟨⟨_, _, (by kernel_rfl : Try.prog.info? 311 = some ((Try.prog.info? 311).get (by kernel_rfl))), by kernel_rfl, (by kernel_rfl : _ = some (((Try.prog.info? 311).get (by kernel_rfl)).zero.get (by kernel_rfl))), by kernel_rfl⟩, rfl, ⟨_, Try.underlying311, rfl⟩⟩
theorem tyOk : TOk Try.prog tyT := by
  intro t i h
  unfold tyT at h
  split at h
  · injection h with h; subst h; exact tyF2
  · injection h with h; subst h; exact tyF3
  · injection h with h; subst h; exact tyF4
  · injection h with h; subst h; exact tyF5
  · injection h with h; subst h; exact tyF6
  · injection h with h; subst h; exact tyF7
  · injection h with h; subst h; exact tyF8
  · injection h with h; subst h; exact tyF12
  · injection h with h; subst h; exact tyF21
  · injection h with h; subst h; exact tyF22
  · injection h with h; subst h; exact tyF24
  · injection h with h; subst h; exact tyF32
  · injection h with h; subst h; exact tyF33
  · injection h with h; subst h; exact tyF34
  · injection h with h; subst h; exact tyF36
  · injection h with h; subst h; exact tyF39
  · injection h with h; subst h; exact tyF44
  · injection h with h; subst h; exact tyF45
  · injection h with h; subst h; exact tyF46
  · injection h with h; subst h; exact tyF47
  · injection h with h; subst h; exact tyF50
  · injection h with h; subst h; exact tyF54
  · injection h with h; subst h; exact tyF56
  · injection h with h; subst h; exact tyF59
  · injection h with h; subst h; exact tyF68
  · injection h with h; subst h; exact tyF72
  · injection h with h; subst h; exact tyF79
  · injection h with h; subst h; exact tyF81
  · injection h with h; subst h; exact tyF90
  · injection h with h; subst h; exact tyF91
  · injection h with h; subst h; exact tyF92
  · injection h with h; subst h; exact tyF93
  · injection h with h; subst h; exact tyF94
  · injection h with h; subst h; exact tyF95
  · injection h with h; subst h; exact tyF96
  · injection h with h; subst h; exact tyF97
  · injection h with h; subst h; exact tyF98
  · injection h with h; subst h; exact tyF99
  · injection h with h; subst h; exact tyF100
  · injection h with h; subst h; exact tyF101
  · injection h with h; subst h; exact tyF102
  · injection h with h; subst h; exact tyF103
  · injection h with h; subst h; exact tyF104
  · injection h with h; subst h; exact tyF105
  · injection h with h; subst h; exact tyF106
  · injection h with h; subst h; exact tyF107
  · injection h with h; subst h; exact tyF110
  · injection h with h; subst h; exact tyF111
  · injection h with h; subst h; exact tyF112
  · injection h with h; subst h; exact tyF113
  · injection h with h; subst h; exact tyF114
  · injection h with h; subst h; exact tyF115
  · injection h with h; subst h; exact tyF116
  · injection h with h; subst h; exact tyF117
  · injection h with h; subst h; exact tyF118
  · injection h with h; subst h; exact tyF119
  · injection h with h; subst h; exact tyF120
  · injection h with h; subst h; exact tyF121
  · injection h with h; subst h; exact tyF122
  · injection h with h; subst h; exact tyF123
  · injection h with h; subst h; exact tyF124
  · injection h with h; subst h; exact tyF125
  · injection h with h; subst h; exact tyF135
  · injection h with h; subst h; exact tyF136
  · injection h with h; subst h; exact tyF138
  · injection h with h; subst h; exact tyF156
  · injection h with h; subst h; exact tyF157
  · injection h with h; subst h; exact tyF158
  · injection h with h; subst h; exact tyF161
  · injection h with h; subst h; exact tyF162
  · injection h with h; subst h; exact tyF167
  · injection h with h; subst h; exact tyF168
  · injection h with h; subst h; exact tyF169
  · injection h with h; subst h; exact tyF173
  · injection h with h; subst h; exact tyF174
  · injection h with h; subst h; exact tyF175
  · injection h with h; subst h; exact tyF176
  · injection h with h; subst h; exact tyF177
  · injection h with h; subst h; exact tyF200
  · injection h with h; subst h; exact tyF201
  · injection h with h; subst h; exact tyF217
  · injection h with h; subst h; exact tyF222
  · injection h with h; subst h; exact tyF223
  · injection h with h; subst h; exact tyF224
  · injection h with h; subst h; exact tyF227
  · injection h with h; subst h; exact tyF228
  · injection h with h; subst h; exact tyF229
  · injection h with h; subst h; exact tyF230
  · injection h with h; subst h; exact tyF231
  · injection h with h; subst h; exact tyF232
  · injection h with h; subst h; exact tyF234
  · injection h with h; subst h; exact tyF235
  · injection h with h; subst h; exact tyF236
  · injection h with h; subst h; exact tyF237
  · injection h with h; subst h; exact tyF238
  · injection h with h; subst h; exact tyF239
  · injection h with h; subst h; exact tyF240
  · injection h with h; subst h; exact tyF243
  · injection h with h; subst h; exact tyF254
  · injection h with h; subst h; exact tyF257
  · injection h with h; subst h; exact tyF260
  · injection h with h; subst h; exact tyF283
  · injection h with h; subst h; exact tyF284
  · injection h with h; subst h; exact tyF286
  · injection h with h; subst h; exact tyF293
  · injection h with h; subst h; exact tyF294
  · injection h with h; subst h; exact tyF295
  · injection h with h; subst h; exact tyF305
  · injection h with h; subst h; exact tyF306
  · injection h with h; subst h; exact tyF307
  · injection h with h; subst h; exact tyF310
  · injection h with h; subst h; exact tyF311
  · cases h
end Go.Proofs.Ytlmmmeknilgdhaa

