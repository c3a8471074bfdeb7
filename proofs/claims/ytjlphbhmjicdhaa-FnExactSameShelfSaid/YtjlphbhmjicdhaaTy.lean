/- The types of the program that the proofs speak of. -/
import Derived.Test.YtjlphbhmjicdhaaProg
import Derived.Test.YtjlphbhmjicdhaaTrc
import Derived.KernelRfl
namespace Go.Proofs.Ytjlphbhmjicdhaa
open Go Go.Tr
set_option linter.unusedVariables false
set_option linter.unusedSimpArgs false
set_option maxRecDepth 100000
def tyT : Nat → Option TyI
  | 2 => some ⟨1, .sc, [.lit (.int .i64 0)]⟩
  | 3 => some ⟨1, .sc, [.lit (.int .i64 0)]⟩
  | 4 => some ⟨1, .sc, [.lit (.bool false)]⟩
  | 5 => some ⟨1, .sc, [.lit (.int .u8 0)]⟩
  | 6 => some ⟨1, .sc, [.lit (.int .u8 0)]⟩
  | 7 => some ⟨4, .st [(0, 1), (1, 1), (2, 1), (3, 1)], [.lit (.int .i64 0), .lit (.int .i64 0), .lit (.bool false), .lit (.int .u8 0)]⟩
  | 8 => some ⟨4, .st [(0, 1), (1, 1), (2, 1), (3, 1)], [.lit (.int .i64 0), .lit (.int .i64 0), .lit (.bool false), .lit (.int .u8 0)]⟩
  | 12 => some ⟨1, .sc, [.lit (.int .u64 0)]⟩
  | 21 => some ⟨1, .sc, [.lit (.int .i32 0)]⟩
  | 22 => some ⟨1, .sl 96 1 24, [.sl 96 1]⟩
  | 24 => some ⟨1, .sl 3 1 8, [.sl 3 1]⟩
  | 25 => some ⟨2, .st [(0, 1), (1, 1)], [.sl 3 1, .sl 3 1]⟩
  | 26 => some ⟨2, .st [(0, 1), (1, 1)], [.sl 3 1, .sl 3 1]⟩
  | 27 => some ⟨1, .sl 280 1 24, [.sl 280 1]⟩
  | 28 => some ⟨2, .st [(0, 1), (1, 1)], [.sl 280 1, .sl 280 1]⟩
  | 29 => some ⟨2, .st [(0, 1), (1, 1)], [.sl 280 1, .sl 280 1]⟩
  | 30 => some ⟨4, .st [(0, 2), (2, 2)], [.sl 3 1, .sl 3 1, .sl 280 1, .sl 280 1]⟩
  | 31 => some ⟨4, .st [(0, 2), (2, 2)], [.sl 3 1, .sl 3 1, .sl 280 1, .sl 280 1]⟩
  | 32 => some ⟨1, .sl 240 4 32, [.sl 240 4]⟩
  | 33 => some ⟨2, .st [(0, 1), (1, 1)], [.lit (.int .i64 0), .sl 240 4]⟩
  | 34 => some ⟨2, .st [(0, 1), (1, 1)], [.lit (.int .i64 0), .sl 240 4]⟩
  | 35 => some ⟨1, .sl 186 1 24, [.sl 186 1]⟩
  | 36 => some ⟨8, .st [(0, 4), (4, 2), (6, 1), (7, 1)], [.sl 3 1, .sl 3 1, .sl 280 1, .sl 280 1, .lit (.int .i64 0), .sl 240 4, .sl 186 1, .sl 3 1]⟩
  | 37 => some ⟨8, .st [(0, 4), (4, 2), (6, 1), (7, 1)], [.sl 3 1, .sl 3 1, .sl 280 1, .sl 280 1, .lit (.int .i64 0), .sl 240 4, .sl 186 1, .sl 3 1]⟩
  | 38 => some ⟨1, .sl 118 21 168, [.sl 118 21]⟩
  | 39 => some ⟨1, .sl 102 1 24, [.sl 102 1]⟩
  | 40 => some ⟨1, .sl 120 7 56, [.sl 120 7]⟩
  | 41 => some ⟨13, .st [(0, 8), (8, 1), (9, 1), (10, 1), (11, 1), (12, 1)], [.sl 3 1, .sl 3 1, .sl 280 1, .sl 280 1, .lit (.int .i64 0), .sl 240 4, .sl 186 1, .sl 3 1, .sl 3 1, .sl 118 21, .sl 102 1, .sl 120 7, .lit (.int .i64 0)]⟩
  | 42 => some ⟨13, .st [(0, 8), (8, 1), (9, 1), (10, 1), (11, 1), (12, 1)], [.sl 3 1, .sl 3 1, .sl 280 1, .sl 280 1, .lit (.int .i64 0), .sl 240 4, .sl 186 1, .sl 3 1, .sl 3 1, .sl 118 21, .sl 102 1, .sl 120 7, .lit (.int .i64 0)]⟩
  | 50 => some ⟨2, .st [(0, 1), (1, 1)], [.sl 3 1, .sl 3 1]⟩
  | 51 => some ⟨1, .sl 307 1 24, [.sl 307 1]⟩
  | 52 => some ⟨2, .st [(0, 1), (1, 1)], [.sl 307 1, .sl 307 1]⟩
  | 53 => some ⟨2, .st [(0, 1), (1, 1)], [.sl 307 1, .sl 307 1]⟩
  | 54 => some ⟨4, .st [(0, 2), (2, 2)], [.sl 3 1, .sl 3 1, .sl 307 1, .sl 307 1]⟩
  | 55 => some ⟨4, .st [(0, 2), (2, 2)], [.sl 3 1, .sl 3 1, .sl 307 1, .sl 307 1]⟩
  | 56 => some ⟨1, .sl 276 4 32, [.sl 276 4]⟩
  | 57 => some ⟨2, .st [(0, 1), (1, 1)], [.lit (.int .i64 0), .sl 276 4]⟩
  | 58 => some ⟨2, .st [(0, 1), (1, 1)], [.lit (.int .i64 0), .sl 276 4]⟩
  | 59 => some ⟨1, .sl 238 1 24, [.sl 238 1]⟩
  | 60 => some ⟨8, .st [(0, 4), (4, 2), (6, 1), (7, 1)], [.sl 3 1, .sl 3 1, .sl 307 1, .sl 307 1, .lit (.int .i64 0), .sl 276 4, .sl 238 1, .sl 3 1]⟩
  | 61 => some ⟨8, .st [(0, 4), (4, 2), (6, 1), (7, 1)], [.sl 3 1, .sl 3 1, .sl 307 1, .sl 307 1, .lit (.int .i64 0), .sl 276 4, .sl 238 1, .sl 3 1]⟩
  | 62 => some ⟨1, .sl 182 21 168, [.sl 182 21]⟩
  | 63 => some ⟨1, .sl 184 7 56, [.sl 184 7]⟩
  | 64 => some ⟨13, .st [(0, 8), (8, 1), (9, 1), (10, 1), (11, 1), (12, 1)], [.sl 3 1, .sl 3 1, .sl 307 1, .sl 307 1, .lit (.int .i64 0), .sl 276 4, .sl 238 1, .sl 3 1, .sl 3 1, .sl 182 21, .sl 96 1, .sl 184 7, .lit (.int .i64 0)]⟩
  | 65 => some ⟨13, .st [(0, 8), (8, 1), (9, 1), (10, 1), (11, 1), (12, 1)], [.sl 3 1, .sl 3 1, .sl 307 1, .sl 307 1, .lit (.int .i64 0), .sl 276 4, .sl 238 1, .sl 3 1, .sl 3 1, .sl 182 21, .sl 96 1, .sl 184 7, .lit (.int .i64 0)]⟩
  | 76 => some ⟨1, .sl 207 3 24, [.sl 207 3]⟩
  | 77 => some ⟨1, .sl 196 32 368, [.sl 196 32]⟩
  | 78 => some ⟨1, .sl 200 1 24, [.sl 200 1]⟩
  | 79 => some ⟨1, .sl 203 6 80, [.sl 203 6]⟩
  | 80 => some ⟨13, .st [(0, 8), (8, 1), (9, 1), (10, 1), (11, 1), (12, 1)], [.sl 3 1, .sl 3 1, .sl 307 1, .sl 307 1, .lit (.int .i64 0), .sl 276 4, .sl 238 1, .sl 3 1, .sl 207 3, .sl 196 32, .sl 200 1, .sl 203 6, .lit (.int .i64 0)]⟩
  | 81 => some ⟨13, .st [(0, 8), (8, 1), (9, 1), (10, 1), (11, 1), (12, 1)], [.sl 3 1, .sl 3 1, .sl 307 1, .sl 307 1, .lit (.int .i64 0), .sl 276 4, .sl 238 1, .sl 3 1, .sl 207 3, .sl 196 32, .sl 200 1, .sl 203 6, .lit (.int .i64 0)]⟩
  | 84 => some ⟨1, .sl 205 3 24, [.sl 205 3]⟩
  | 85 => some ⟨1, .sl 144 32 368, [.sl 144 32]⟩
  | 86 => some ⟨1, .sl 147 1 24, [.sl 147 1]⟩
  | 87 => some ⟨1, .sl 211 6 80, [.sl 211 6]⟩
  | 88 => some ⟨13, .st [(0, 8), (8, 1), (9, 1), (10, 1), (11, 1), (12, 1)], [.sl 3 1, .sl 3 1, .sl 280 1, .sl 280 1, .lit (.int .i64 0), .sl 240 4, .sl 186 1, .sl 3 1, .sl 205 3, .sl 144 32, .sl 147 1, .sl 211 6, .lit (.int .i64 0)]⟩
  | 89 => some ⟨13, .st [(0, 8), (8, 1), (9, 1), (10, 1), (11, 1), (12, 1)], [.sl 3 1, .sl 3 1, .sl 280 1, .sl 280 1, .lit (.int .i64 0), .sl 240 4, .sl 186 1, .sl 3 1, .sl 205 3, .sl 144 32, .sl 147 1, .sl 211 6, .lit (.int .i64 0)]⟩
  | 94 => some ⟨1, .sl 179 4 32, [.sl 179 4]⟩
  | 95 => some ⟨1, .st [(0, 1)], [.sl 179 4]⟩
  | 96 => some ⟨1, .st [(0, 1)], [.sl 179 4]⟩
  | 100 => some ⟨1, .sl 114 4 32, [.sl 114 4]⟩
  | 101 => some ⟨1, .st [(0, 1)], [.sl 114 4]⟩
  | 102 => some ⟨1, .st [(0, 1)], [.sl 114 4]⟩
  | 113 => some ⟨4, .st [(0, 1), (1, 1), (2, 1), (3, 1)], [.lit (.int .i64 0), .lit (.int .i64 0), .lit (.int .i64 0), .lit (.int .i64 0)]⟩
  | 114 => some ⟨4, .st [(0, 1), (1, 1), (2, 1), (3, 1)], [.lit (.int .i64 0), .lit (.int .i64 0), .lit (.int .i64 0), .lit (.int .i64 0)]⟩
  | 115 => some ⟨10, .st [(0, 1), (1, 1), (2, 1), (3, 1), (4, 1), (5, 1), (6, 1), (7, 1), (8, 1), (9, 1)], [.lit (.int .i64 0), .lit (.int .i64 0), .lit (.int .i64 0), .lit (.int .i64 0), .lit (.int .i64 0), .lit (.int .i64 0), .lit (.int .i64 0), .lit (.int .i64 0), .lit (.int .i64 0), .lit (.bool false)]⟩
  | 116 => some ⟨10, .st [(0, 1), (1, 1), (2, 1), (3, 1), (4, 1), (5, 1), (6, 1), (7, 1), (8, 1), (9, 1)], [.lit (.int .i64 0), .lit (.int .i64 0), .lit (.int .i64 0), .lit (.int .i64 0), .lit (.int .i64 0), .lit (.int .i64 0), .lit (.int .i64 0), .lit (.int .i64 0), .lit (.int .i64 0), .lit (.bool false)]⟩
  | 117 => some ⟨21, .st [(0, 1), (1, 4), (5, 1), (6, 1), (7, 10), (17, 1), (18, 1), (19, 1), (20, 1)], [.lit (.bool false), .lit (.int .i64 0), .lit (.int .i64 0), .lit (.int .i64 0), .lit (.int .i64 0), .lit (.int .i64 0), .lit (.int .i64 0), .lit (.int .i64 0), .lit (.int .i64 0), .lit (.int .i64 0), .lit (.int .i64 0), .lit (.int .i64 0), .lit (.int .i64 0), .lit (.int .i64 0), .lit (.int .i64 0), .lit (.int .i64 0), .lit (.bool false), .lit (.int .i64 0), .lit (.int .i64 0), .lit (.int .i64 0), .lit (.int .i64 0)]⟩
  | 118 => some ⟨21, .st [(0, 1), (1, 4), (5, 1), (6, 1), (7, 10), (17, 1), (18, 1), (19, 1), (20, 1)], [.lit (.bool false), .lit (.int .i64 0), .lit (.int .i64 0), .lit (.int .i64 0), .lit (.int .i64 0), .lit (.int .i64 0), .lit (.int .i64 0), .lit (.int .i64 0), .lit (.int .i64 0), .lit (.int .i64 0), .lit (.int .i64 0), .lit (.int .i64 0), .lit (.int .i64 0), .lit (.int .i64 0), .lit (.int .i64 0), .lit (.int .i64 0), .lit (.bool false), .lit (.int .i64 0), .lit (.int .i64 0), .lit (.int .i64 0), .lit (.int .i64 0)]⟩
  | 119 => some ⟨7, .st [(0, 1), (1, 1), (2, 1), (3, 1), (4, 1), (5, 1), (6, 1)], [.lit (.int .i64 0), .lit (.int .i64 0), .lit (.int .i64 0), .lit (.int .i64 0), .lit (.int .i64 0), .lit (.int .i64 0), .lit (.int .i64 0)]⟩
  | 120 => some ⟨7, .st [(0, 1), (1, 1), (2, 1), (3, 1), (4, 1), (5, 1), (6, 1)], [.lit (.int .i64 0), .lit (.int .i64 0), .lit (.int .i64 0), .lit (.int .i64 0), .lit (.int .i64 0), .lit (.int .i64 0), .lit (.int .i64 0)]⟩
  | 127 => some ⟨1, .sl 130 2 16, [.sl 130 2]⟩
  | 129 => some ⟨2, .st [(0, 1), (1, 1)], [.lit (.int .i64 0), .lit (.int .i64 0)]⟩
  | 130 => some ⟨2, .st [(0, 1), (1, 1)], [.lit (.int .i64 0), .lit (.int .i64 0)]⟩
  | 135 => some ⟨1, .sl 295 3 24, [.sl 295 3]⟩
  | 136 => some ⟨2, .st [(0, 1), (1, 1)], [.lit (.bool false), .sl 295 3]⟩
  | 137 => some ⟨2, .st [(0, 1), (1, 1)], [.lit (.bool false), .sl 295 3]⟩
  | 138 => some ⟨3, .st [(0, 1), (1, 1), (2, 1)], [.lit (.int .i64 0), .lit (.int .i64 0), .lit (.int .i64 0)]⟩
  | 139 => some ⟨3, .st [(0, 1), (1, 1), (2, 1)], [.lit (.int .i64 0), .lit (.int .i64 0), .lit (.int .i64 0)]⟩
  | 140 => some ⟨1, .sl 283 2 16, [.sl 283 2]⟩
  | 141 => some ⟨1, .sl 287 3 24, [.sl 287 3]⟩
  | 142 => some ⟨1, .sl 291 2 16, [.sl 291 2]⟩
  | 143 => some ⟨32, .st [(0, 1), (1, 2), (3, 1), (4, 1), (5, 1), (6, 1), (7, 1), (8, 1), (9, 1), (10, 1), (11, 3), (14, 1), (15, 1), (16, 10), (26, 1), (27, 1), (28, 1), (29, 1), (30, 1), (31, 1)], [.lit (.bool false), .lit (.bool false), .sl 295 3, .lit (.int .i64 0), .lit (.int .i64 0), .lit (.int .i64 0), .lit (.int .i64 0), .lit (.int .i64 0), .lit (.int .i64 0), .lit (.int .i64 0), .lit (.int .i64 0), .lit (.int .i64 0), .lit (.int .i64 0), .lit (.int .i64 0), .lit (.bool false), .lit (.int .i64 0), .lit (.int .i64 0), .lit (.int .i64 0), .lit (.int .i64 0), .lit (.int .i64 0), .lit (.int .i64 0), .lit (.int .i64 0), .lit (.int .i64 0), .lit (.int .i64 0), .lit (.int .i64 0), .lit (.bool false), .sl 283 2, .sl 287 3, .sl 291 2, .sl 3 1, .sl 3 1, .sl 3 1]⟩
  | 144 => some ⟨32, .st [(0, 1), (1, 2), (3, 1), (4, 1), (5, 1), (6, 1), (7, 1), (8, 1), (9, 1), (10, 1), (11, 3), (14, 1), (15, 1), (16, 10), (26, 1), (27, 1), (28, 1), (29, 1), (30, 1), (31, 1)], [.lit (.bool false), .lit (.bool false), .sl 295 3, .lit (.int .i64 0), .lit (.int .i64 0), .lit (.int .i64 0), .lit (.int .i64 0), .lit (.int .i64 0), .lit (.int .i64 0), .lit (.int .i64 0), .lit (.int .i64 0), .lit (.int .i64 0), .lit (.int .i64 0), .lit (.int .i64 0), .lit (.bool false), .lit (.int .i64 0), .lit (.int .i64 0), .lit (.int .i64 0), .lit (.int .i64 0), .lit (.int .i64 0), .lit (.int .i64 0), .lit (.int .i64 0), .lit (.int .i64 0), .lit (.int .i64 0), .lit (.int .i64 0), .lit (.bool false), .sl 283 2, .sl 287 3, .sl 291 2, .sl 3 1, .sl 3 1, .sl 3 1]⟩
  | 145 => some ⟨1, .sl 137 2 32, [.sl 137 2]⟩
  | 146 => some ⟨1, .st [(0, 1)], [.sl 137 2]⟩
  | 147 => some ⟨1, .st [(0, 1)], [.sl 137 2]⟩
  | 179 => some ⟨4, .st [(0, 1), (1, 1), (2, 1), (3, 1)], [.lit (.int .i64 0), .lit (.int .i64 0), .lit (.int .i64 0), .lit (.int .i64 0)]⟩
  | 180 => some ⟨10, .st [(0, 1), (1, 1), (2, 1), (3, 1), (4, 1), (5, 1), (6, 1), (7, 1), (8, 1), (9, 1)], [.lit (.int .i64 0), .lit (.int .i64 0), .lit (.int .i64 0), .lit (.int .i64 0), .lit (.int .i64 0), .lit (.int .i64 0), .lit (.int .i64 0), .lit (.int .i64 0), .lit (.int .i64 0), .lit (.bool false)]⟩
  | 181 => some ⟨21, .st [(0, 1), (1, 4), (5, 1), (6, 1), (7, 10), (17, 1), (18, 1), (19, 1), (20, 1)], [.lit (.bool false), .lit (.int .i64 0), .lit (.int .i64 0), .lit (.int .i64 0), .lit (.int .i64 0), .lit (.int .i64 0), .lit (.int .i64 0), .lit (.int .i64 0), .lit (.int .i64 0), .lit (.int .i64 0), .lit (.int .i64 0), .lit (.int .i64 0), .lit (.int .i64 0), .lit (.int .i64 0), .lit (.int .i64 0), .lit (.int .i64 0), .lit (.bool false), .lit (.int .i64 0), .lit (.int .i64 0), .lit (.int .i64 0), .lit (.int .i64 0)]⟩
  | 182 => some ⟨21, .st [(0, 1), (1, 4), (5, 1), (6, 1), (7, 10), (17, 1), (18, 1), (19, 1), (20, 1)], [.lit (.bool false), .lit (.int .i64 0), .lit (.int .i64 0), .lit (.int .i64 0), .lit (.int .i64 0), .lit (.int .i64 0), .lit (.int .i64 0), .lit (.int .i64 0), .lit (.int .i64 0), .lit (.int .i64 0), .lit (.int .i64 0), .lit (.int .i64 0), .lit (.int .i64 0), .lit (.int .i64 0), .lit (.int .i64 0), .lit (.int .i64 0), .lit (.bool false), .lit (.int .i64 0), .lit (.int .i64 0), .lit (.int .i64 0), .lit (.int .i64 0)]⟩
  | 184 => some ⟨7, .st [(0, 1), (1, 1), (2, 1), (3, 1), (4, 1), (5, 1), (6, 1)], [.lit (.int .i64 0), .lit (.int .i64 0), .lit (.int .i64 0), .lit (.int .i64 0), .lit (.int .i64 0), .lit (.int .i64 0), .lit (.int .i64 0)]⟩
  | 185 => some ⟨1, .st [(0, 1)], [.sl 130 2]⟩
  | 186 => some ⟨1, .st [(0, 1)], [.sl 130 2]⟩
  | 188 => some ⟨1, .sl 297 3 24, [.sl 297 3]⟩
  | 189 => some ⟨2, .st [(0, 1), (1, 1)], [.lit (.bool false), .sl 297 3]⟩
  | 190 => some ⟨2, .st [(0, 1), (1, 1)], [.lit (.bool false), .sl 297 3]⟩
  | 191 => some ⟨3, .st [(0, 1), (1, 1), (2, 1)], [.lit (.int .i64 0), .lit (.int .i64 0), .lit (.int .i64 0)]⟩
  | 192 => some ⟨1, .sl 285 2 16, [.sl 285 2]⟩
  | 193 => some ⟨1, .sl 289 3 24, [.sl 289 3]⟩
  | 194 => some ⟨1, .sl 293 2 16, [.sl 293 2]⟩
  | 195 => some ⟨32, .st [(0, 1), (1, 2), (3, 1), (4, 1), (5, 1), (6, 1), (7, 1), (8, 1), (9, 1), (10, 1), (11, 3), (14, 1), (15, 1), (16, 10), (26, 1), (27, 1), (28, 1), (29, 1), (30, 1), (31, 1)], [.lit (.bool false), .lit (.bool false), .sl 297 3, .lit (.int .i64 0), .lit (.int .i64 0), .lit (.int .i64 0), .lit (.int .i64 0), .lit (.int .i64 0), .lit (.int .i64 0), .lit (.int .i64 0), .lit (.int .i64 0), .lit (.int .i64 0), .lit (.int .i64 0), .lit (.int .i64 0), .lit (.bool false), .lit (.int .i64 0), .lit (.int .i64 0), .lit (.int .i64 0), .lit (.int .i64 0), .lit (.int .i64 0), .lit (.int .i64 0), .lit (.int .i64 0), .lit (.int .i64 0), .lit (.int .i64 0), .lit (.int .i64 0), .lit (.bool false), .sl 285 2, .sl 289 3, .sl 293 2, .sl 3 1, .sl 3 1, .sl 3 1]⟩
  | 196 => some ⟨32, .st [(0, 1), (1, 2), (3, 1), (4, 1), (5, 1), (6, 1), (7, 1), (8, 1), (9, 1), (10, 1), (11, 3), (14, 1), (15, 1), (16, 10), (26, 1), (27, 1), (28, 1), (29, 1), (30, 1), (31, 1)], [.lit (.bool false), .lit (.bool false), .sl 297 3, .lit (.int .i64 0), .lit (.int .i64 0), .lit (.int .i64 0), .lit (.int .i64 0), .lit (.int .i64 0), .lit (.int .i64 0), .lit (.int .i64 0), .lit (.int .i64 0), .lit (.int .i64 0), .lit (.int .i64 0), .lit (.int .i64 0), .lit (.bool false), .lit (.int .i64 0), .lit (.int .i64 0), .lit (.int .i64 0), .lit (.int .i64 0), .lit (.int .i64 0), .lit (.int .i64 0), .lit (.int .i64 0), .lit (.int .i64 0), .lit (.int .i64 0), .lit (.int .i64 0), .lit (.bool false), .sl 285 2, .sl 289 3, .sl 293 2, .sl 3 1, .sl 3 1, .sl 3 1]⟩
  | 198 => some ⟨1, .sl 190 2 32, [.sl 190 2]⟩
  | 199 => some ⟨1, .st [(0, 1)], [.sl 190 2]⟩
  | 200 => some ⟨1, .st [(0, 1)], [.sl 190 2]⟩
  | 202 => some ⟨6, .st [(0, 1), (1, 1), (2, 1), (3, 1), (4, 1), (5, 1)], [.lit (.int .i64 0), .lit (.int .i64 0), .lit (.int .i64 0), .lit (.int .i64 0), .sl 297 3, .sl 293 2]⟩
  | 203 => some ⟨6, .st [(0, 1), (1, 1), (2, 1), (3, 1), (4, 1), (5, 1)], [.lit (.int .i64 0), .lit (.int .i64 0), .lit (.int .i64 0), .lit (.int .i64 0), .sl 297 3, .sl 293 2]⟩
  | 204 => some ⟨3, .st [(0, 1), (1, 1), (2, 1)], [.lit (.int .i64 0), .lit (.int .i64 0), .lit (.int .i64 0)]⟩
  | 205 => some ⟨3, .st [(0, 1), (1, 1), (2, 1)], [.lit (.int .i64 0), .lit (.int .i64 0), .lit (.int .i64 0)]⟩
  | 207 => some ⟨3, .st [(0, 1), (1, 1), (2, 1)], [.lit (.int .i64 0), .lit (.int .i64 0), .lit (.int .i64 0)]⟩
  | 210 => some ⟨6, .st [(0, 1), (1, 1), (2, 1), (3, 1), (4, 1), (5, 1)], [.lit (.int .i64 0), .lit (.int .i64 0), .lit (.int .i64 0), .lit (.int .i64 0), .sl 295 3, .sl 291 2]⟩
  | 211 => some ⟨6, .st [(0, 1), (1, 1), (2, 1), (3, 1), (4, 1), (5, 1)], [.lit (.int .i64 0), .lit (.int .i64 0), .lit (.int .i64 0), .lit (.int .i64 0), .sl 295 3, .sl 291 2]⟩
  | 236 => some ⟨1, .sl 310 2 16, [.sl 310 2]⟩
  | 237 => some ⟨1, .st [(0, 1)], [.sl 310 2]⟩
  | 238 => some ⟨1, .st [(0, 1)], [.sl 310 2]⟩
  | 239 => some ⟨4, .st [(0, 1), (1, 1), (2, 1), (3, 1)], [.lit (.bool false), .lit (.int .i64 0), .lit (.bool false), .lit (.int .i64 0)]⟩
  | 240 => some ⟨4, .st [(0, 1), (1, 1), (2, 1), (3, 1)], [.lit (.bool false), .lit (.int .i64 0), .lit (.bool false), .lit (.int .i64 0)]⟩
  | 276 => some ⟨4, .st [(0, 1), (1, 1), (2, 1), (3, 1)], [.lit (.bool false), .lit (.int .i64 0), .lit (.bool false), .lit (.int .i64 0)]⟩
  | 279 => some ⟨1, .st [(0, 1)], [.sl 3 1]⟩
  | 280 => some ⟨1, .st [(0, 1)], [.sl 3 1]⟩
  | 282 => some ⟨2, .st [(0, 1), (1, 1)], [.lit (.int .i64 0), .lit (.int .i64 0)]⟩
  | 283 => some ⟨2, .st [(0, 1), (1, 1)], [.lit (.int .i64 0), .lit (.int .i64 0)]⟩
  | 285 => some ⟨2, .st [(0, 1), (1, 1)], [.lit (.int .i64 0), .lit (.int .i64 0)]⟩
  | 286 => some ⟨3, .st [(0, 1), (1, 1), (2, 1)], [.lit (.int .i64 0), .lit (.bool false), .lit (.int .i64 0)]⟩
  | 287 => some ⟨3, .st [(0, 1), (1, 1), (2, 1)], [.lit (.int .i64 0), .lit (.bool false), .lit (.int .i64 0)]⟩
  | 289 => some ⟨3, .st [(0, 1), (1, 1), (2, 1)], [.lit (.int .i64 0), .lit (.bool false), .lit (.int .i64 0)]⟩
  | 290 => some ⟨2, .st [(0, 1), (1, 1)], [.lit (.bool false), .lit (.int .i64 0)]⟩
  | 291 => some ⟨2, .st [(0, 1), (1, 1)], [.lit (.bool false), .lit (.int .i64 0)]⟩
  | 293 => some ⟨2, .st [(0, 1), (1, 1)], [.lit (.bool false), .lit (.int .i64 0)]⟩
  | 294 => some ⟨3, .st [(0, 1), (1, 1), (2, 1)], [.lit (.int .i64 0), .lit (.int .i64 0), .lit (.int .i64 0)]⟩
  | 295 => some ⟨3, .st [(0, 1), (1, 1), (2, 1)], [.lit (.int .i64 0), .lit (.int .i64 0), .lit (.int .i64 0)]⟩
  | 297 => some ⟨3, .st [(0, 1), (1, 1), (2, 1)], [.lit (.int .i64 0), .lit (.int .i64 0), .lit (.int .i64 0)]⟩
  | 302 => some ⟨1, .sc, [.lit (.int .u64 0)]⟩
  | 307 => some ⟨1, .st [(0, 1)], [.sl 3 1]⟩
  | 310 => some ⟨2, .st [(0, 1), (1, 1)], [.lit (.int .i64 0), .lit (.int .i64 0)]⟩
  | 311 => some ⟨1, .sc, [.lit (.int .u32 0)]⟩
  | 314 => some ⟨1, .sc, [.lit (.int .u64 0)]⟩
  | 324 => some ⟨1, .sc, [.lit (.int .u8 0)]⟩
  | 325 => some ⟨1, .sc, [.lit (.int .u8 0)]⟩
  | 328 => some ⟨1, .sc, [.lit (.int .i32 0)]⟩
  | 329 => some ⟨1, .sc, [.lit (.int .i32 0)]⟩
  | _ => none
theorem tyF2 : TyF Try.prog 2 ⟨1, .sc, [.lit (.int .i64 0)]⟩ :=
  ⟨⟨_, _, (by kernel_rfl : Try.prog.info? 2 = some ((Try.prog.info? 2).get (by kernel_rfl))), by kernel_rfl, (by kernel_rfl : _ = some (((Try.prog.info? 2).get (by kernel_rfl)).zero.get (by kernel_rfl))), by kernel_rfl⟩, rfl, ⟨_, Try.underlying2, rfl⟩⟩
theorem tyF3 : TyF Try.prog 3 ⟨1, .sc, [.lit (.int .i64 0)]⟩ :=
  ⟨⟨_, _, (by kernel_rfl : Try.prog.info? 3 = some ((Try.prog.info? 3).get (by kernel_rfl))), by kernel_rfl, (by kernel_rfl : _ = some (((Try.prog.info? 3).get (by kernel_rfl)).zero.get (by kernel_rfl))), by kernel_rfl⟩, rfl, ⟨_, Try.underlying3, rfl⟩⟩
theorem tyF4 : TyF Try.prog 4 ⟨1, .sc, [.lit (.bool false)]⟩ :=
  ⟨⟨_, _, (by kernel_rfl : Try.prog.info? 4 = some ((Try.prog.info? 4).get (by kernel_rfl))), by kernel_rfl, (by kernel_rfl : _ = some (((Try.prog.info? 4).get (by kernel_rfl)).zero.get (by kernel_rfl))), by kernel_rfl⟩, rfl, ⟨_, Try.underlying4, rfl⟩⟩
theorem tyF5 : TyF Try.prog 5 ⟨1, .sc, [.lit (.int .u8 0)]⟩ :=
  ⟨⟨_, _, (by kernel_rfl : Try.prog.info? 5 = some ((Try.prog.info? 5).get (by kernel_rfl))), by kernel_rfl, (by kernel_rfl : _ = some (((Try.prog.info? 5).get (by kernel_rfl)).zero.get (by kernel_rfl))), by kernel_rfl⟩, rfl, ⟨_, Try.underlying5, rfl⟩⟩
theorem tyF6 : TyF Try.prog 6 ⟨1, .sc, [.lit (.int .u8 0)]⟩ :=
  ⟨⟨_, _, (by kernel_rfl : Try.prog.info? 6 = some ((Try.prog.info? 6).get (by kernel_rfl))), by kernel_rfl, (by kernel_rfl : _ = some (((Try.prog.info? 6).get (by kernel_rfl)).zero.get (by kernel_rfl))), by kernel_rfl⟩, rfl, ⟨_, Try.underlying6, rfl⟩⟩
theorem tyF7 : TyF Try.prog 7 ⟨4, .st [(0, 1), (1, 1), (2, 1), (3, 1)], [.lit (.int .i64 0), .lit (.int .i64 0), .lit (.bool false), .lit (.int .u8 0)]⟩ :=
  ⟨⟨_, _, (by kernel_rfl : Try.prog.info? 7 = some ((Try.prog.info? 7).get (by kernel_rfl))), by kernel_rfl, (by kernel_rfl : _ = some (((Try.prog.info? 7).get (by kernel_rfl)).zero.get (by kernel_rfl))), by kernel_rfl⟩, rfl, ⟨_, Try.underlying7, by kernel_rfl, rfl⟩⟩
theorem tyF8 : TyF Try.prog 8 ⟨4, .st [(0, 1), (1, 1), (2, 1), (3, 1)], [.lit (.int .i64 0), .lit (.int .i64 0), .lit (.bool false), .lit (.int .u8 0)]⟩ :=
  ⟨⟨_, _, (by kernel_rfl : Try.prog.info? 8 = some ((Try.prog.info? 8).get (by kernel_rfl))), by kernel_rfl, (by kernel_rfl : _ = some (((Try.prog.info? 8).get (by kernel_rfl)).zero.get (by kernel_rfl))), by kernel_rfl⟩, rfl, ⟨_, Try.underlying8, by kernel_rfl, rfl⟩⟩
theorem tyF12 : TyF Try.prog 12 ⟨1, .sc, [.lit (.int .u64 0)]⟩ :=
  ⟨⟨_, _, (by kernel_rfl : Try.prog.info? 12 = some ((Try.prog.info? 12).get (by kernel_rfl))), by kernel_rfl, (by kernel_rfl : _ = some (((Try.prog.info? 12).get (by kernel_rfl)).zero.get (by kernel_rfl))), by kernel_rfl⟩, rfl, ⟨_, Try.underlying12, rfl⟩⟩
theorem tyF21 : TyF Try.prog 21 ⟨1, .sc, [.lit (.int .i32 0)]⟩ :=
  ⟨⟨_, _, (by kernel_rfl : Try.prog.info? 21 = some ((Try.prog.info? 21).get (by kernel_rfl))), by kernel_rfl, (by kernel_rfl : _ = some (((Try.prog.info? 21).get (by kernel_rfl)).zero.get (by kernel_rfl))), by kernel_rfl⟩, rfl, ⟨_, Try.underlying21, rfl⟩⟩
theorem tyF22 : TyF Try.prog 22 ⟨1, .sl 96 1 24, [.sl 96 1]⟩ :=
  ⟨⟨_, _, (by kernel_rfl : Try.prog.info? 22 = some ((Try.prog.info? 22).get (by kernel_rfl))), by kernel_rfl, (by kernel_rfl : _ = some (((Try.prog.info? 22).get (by kernel_rfl)).zero.get (by kernel_rfl))), by kernel_rfl⟩, rfl, ⟨Try.underlying22, _, _, (by kernel_rfl : Try.prog.info? 96 = some ((Try.prog.info? 96).get (by kernel_rfl))), by kernel_rfl, by kernel_rfl, (by kernel_rfl : _ = some (((Try.prog.info? 96).get (by kernel_rfl)).zero.get (by kernel_rfl))), by kernel_rfl, by decide, by kernel_rfl⟩⟩
theorem tyF24 : TyF Try.prog 24 ⟨1, .sl 3 1 8, [.sl 3 1]⟩ :=
  ⟨⟨_, _, (by kernel_rfl : Try.prog.info? 24 = some ((Try.prog.info? 24).get (by kernel_rfl))), by kernel_rfl, (by kernel_rfl : _ = some (((Try.prog.info? 24).get (by kernel_rfl)).zero.get (by kernel_rfl))), by kernel_rfl⟩, rfl, ⟨Try.underlying24, _, _, (by kernel_rfl : Try.prog.info? 3 = some ((Try.prog.info? 3).get (by kernel_rfl))), by kernel_rfl, by kernel_rfl, (by kernel_rfl : _ = some (((Try.prog.info? 3).get (by kernel_rfl)).zero.get (by kernel_rfl))), by kernel_rfl, by decide, by kernel_rfl⟩⟩
theorem tyF25 : TyF Try.prog 25 ⟨2, .st [(0, 1), (1, 1)], [.sl 3 1, .sl 3 1]⟩ :=
  ⟨⟨_, _, (by kernel_rfl : Try.prog.info? 25 = some ((Try.prog.info? 25).get (by kernel_rfl))), by kernel_rfl, (by kernel_rfl : _ = some (((Try.prog.info? 25).get (by kernel_rfl)).zero.get (by kernel_rfl))), by kernel_rfl⟩, rfl, ⟨_, Try.underlying25, by kernel_rfl, rfl⟩⟩
theorem tyF26 : TyF Try.prog 26 ⟨2, .st [(0, 1), (1, 1)], [.sl 3 1, .sl 3 1]⟩ :=
  ⟨⟨_, _, (by kernel_rfl : Try.prog.info? 26 = some ((Try.prog.info? 26).get (by kernel_rfl))), by kernel_rfl, (by kernel_rfl : _ = some (((Try.prog.info? 26).get (by kernel_rfl)).zero.get (by kernel_rfl))), by kernel_rfl⟩, rfl, ⟨_, Try.underlying26, by kernel_rfl, rfl⟩⟩
theorem tyF27 : TyF Try.prog 27 ⟨1, .sl 280 1 24, [.sl 280 1]⟩ :=
  ⟨⟨_, _, (by kernel_rfl : Try.prog.info? 27 = some ((Try.prog.info? 27).get (by kernel_rfl))), by kernel_rfl, (by kernel_rfl : _ = some (((Try.prog.info? 27).get (by kernel_rfl)).zero.get (by kernel_rfl))), by kernel_rfl⟩, rfl, ⟨Try.underlying27, _, _, (by kernel_rfl : Try.prog.info? 280 = some ((Try.prog.info? 280).get (by kernel_rfl))), by kernel_rfl, by kernel_rfl, (by kernel_rfl : _ = some (((Try.prog.info? 280).get (by kernel_rfl)).zero.get (by kernel_rfl))), by kernel_rfl, by decide, by kernel_rfl⟩⟩
theorem tyF28 : TyF Try.prog 28 ⟨2, .st [(0, 1), (1, 1)], [.sl 280 1, .sl 280 1]⟩ :=
  ⟨⟨_, _, (by kernel_rfl : Try.prog.info? 28 = some ((Try.prog.info? 28).get (by kernel_rfl))), by kernel_rfl, (by kernel_rfl : _ = some (((Try.prog.info? 28).get (by kernel_rfl)).zero.get (by kernel_rfl))), by kernel_rfl⟩, rfl, ⟨_, Try.underlying28, by kernel_rfl, rfl⟩⟩
theorem tyF29 : TyF Try.prog 29 ⟨2, .st [(0, 1), (1, 1)], [.sl 280 1, .sl 280 1]⟩ :=
  ⟨⟨_, _, (by kernel_rfl : Try.prog.info? 29 = some ((Try.prog.info? 29).get (by kernel_rfl))), by kernel_rfl, (by kernel_rfl : _ = some (((Try.prog.info? 29).get (by kernel_rfl)).zero.get (by kernel_rfl))), by kernel_rfl⟩, rfl, ⟨_, Try.underlying29, by kernel_rfl, rfl⟩⟩
theorem tyF30 : TyF Try.prog 30 ⟨4, .st [(0, 2), (2, 2)], [.sl 3 1, .sl 3 1, .sl 280 1, .sl 280 1]⟩ :=
  ⟨⟨_, _, (by kernel_rfl : Try.prog.info? 30 = some ((Try.prog.info? 30).get (by kernel_rfl))), by kernel_rfl, (by kernel_rfl : _ = some (((Try.prog.info? 30).get (by kernel_rfl)).zero.get (by kernel_rfl))), by kernel_rfl⟩, rfl, ⟨_, Try.underlying30, by kernel_rfl, rfl⟩⟩
theorem tyF31 : TyF Try.prog 31 ⟨4, .st [(0, 2), (2, 2)], [.sl 3 1, .sl 3 1, .sl 280 1, .sl 280 1]⟩ :=
  ⟨⟨_, _, (by kernel_rfl : Try.prog.info? 31 = some ((Try.prog.info? 31).get (by kernel_rfl))), by kernel_rfl, (by kernel_rfl : _ = some (((Try.prog.info? 31).get (by kernel_rfl)).zero.get (by kernel_rfl))), by kernel_rfl⟩, rfl, ⟨_, Try.underlying31, by kernel_rfl, rfl⟩⟩
theorem tyF32 : TyF Try.prog 32 ⟨1, .sl 240 4 32, [.sl 240 4]⟩ :=
  ⟨⟨_, _, (by kernel_rfl : Try.prog.info? 32 = some ((Try.prog.info? 32).get (by kernel_rfl))), by kernel_rfl, (by kernel_rfl : _ = some (((Try.prog.info? 32).get (by kernel_rfl)).zero.get (by kernel_rfl))), by kernel_rfl⟩, rfl, ⟨Try.underlying32, _, _, (by kernel_rfl : Try.prog.info? 240 = some ((Try.prog.info? 240).get (by kernel_rfl))), by kernel_rfl, by kernel_rfl, (by kernel_rfl : _ = some (((Try.prog.info? 240).get (by kernel_rfl)).zero.get (by kernel_rfl))), by kernel_rfl, by decide, by kernel_rfl⟩⟩
theorem tyF33 : TyF Try.prog 33 ⟨2, .st [(0, 1), (1, 1)], [.lit (.int .i64 0), .sl 240 4]⟩ :=
  ⟨⟨_, _, (by kernel_rfl : Try.prog.info? 33 = some ((Try.prog.info? 33).get (by kernel_rfl))), by kernel_rfl, (by kernel_rfl : _ = some (((Try.prog.info? 33).get (by kernel_rfl)).zero.get (by kernel_rfl))), by kernel_rfl⟩, rfl, ⟨_, Try.underlying33, by kernel_rfl, rfl⟩⟩
theorem tyF34 : TyF Try.prog 34 ⟨2, .st [(0, 1), (1, 1)], [.lit (.int .i64 0), .sl 240 4]⟩ :=
  ⟨⟨_, _, (by kernel_rfl : Try.prog.info? 34 = some ((Try.prog.info? 34).get (by kernel_rfl))), by kernel_rfl, (by kernel_rfl : _ = some (((Try.prog.info? 34).get (by kernel_rfl)).zero.get (by kernel_rfl))), by kernel_rfl⟩, rfl, ⟨_, Try.underlying34, by kernel_rfl, rfl⟩⟩
theorem tyF35 : TyF Try.prog 35 ⟨1, .sl 186 1 24, [.sl 186 1]⟩ :=
  ⟨⟨_, _, (by kernel_rfl : Try.prog.info? 35 = some ((Try.prog.info? 35).get (by kernel_rfl))), by kernel_rfl, (by kernel_rfl : _ = some (((Try.prog.info? 35).get (by kernel_rfl)).zero.get (by kernel_rfl))), by kernel_rfl⟩, rfl, ⟨Try.underlying35, _, _, (by kernel_rfl : Try.prog.info? 186 = some ((Try.prog.info? 186).get (by kernel_rfl))), by kernel_rfl, by kernel_rfl, (by kernel_rfl : _ = some (((Try.prog.info? 186).get (by kernel_rfl)).zero.get (by kernel_rfl))), by kernel_rfl, by decide, by kernel_rfl⟩⟩
theorem tyF36 : TyF Try.prog 36 ⟨8, .st [(0, 4), (4, 2), (6, 1), (7, 1)], [.sl 3 1, .sl 3 1, .sl 280 1, .sl 280 1, .lit (.int .i64 0), .sl 240 4, .sl 186 1, .sl 3 1]⟩ :=
  ⟨⟨_, _, (by kernel_rfl : Try.prog.info? 36 = some ((Try.prog.info? 36).get (by kernel_rfl))), by kernel_rfl, (by kernel_rfl : _ = some (((Try.prog.info? 36).get (by kernel_rfl)).zero.get (by kernel_rfl))), by kernel_rfl⟩, rfl, ⟨_, Try.underlying36, by kernel_rfl, rfl⟩⟩
theorem tyF37 : TyF Try.prog 37 ⟨8, .st [(0, 4), (4, 2), (6, 1), (7, 1)], [.sl 3 1, .sl 3 1, .sl 280 1, .sl 280 1, .lit (.int .i64 0), .sl 240 4, .sl 186 1, .sl 3 1]⟩ :=
  ⟨⟨_, _, (by kernel_rfl : Try.prog.info? 37 = some ((Try.prog.info? 37).get (by kernel_rfl))), by kernel_rfl, (by kernel_rfl : _ = some (((Try.prog.info? 37).get (by kernel_rfl)).zero.get (by kernel_rfl))), by kernel_rfl⟩, rfl, ⟨_, Try.underlying37, by kernel_rfl, rfl⟩⟩
theorem tyF38 : TyF Try.prog 38 ⟨1, .sl 118 21 168, [.sl 118 21]⟩ :=
  ⟨⟨_, _, (by kernel_rfl : Try.prog.info? 38 = some ((Try.prog.info? 38).get (by kernel_rfl))), by kernel_rfl, (by kernel_rfl : _ = some (((Try.prog.info? 38).get (by kernel_rfl)).zero.get (by kernel_rfl))), by kernel_rfl⟩, rfl, ⟨Try.underlying38, _, _, (by kernel_rfl : Try.prog.info? 118 = some ((Try.prog.info? 118).get (by kernel_rfl))), by kernel_rfl, by kernel_rfl, (by kernel_rfl : _ = some (((Try.prog.info? 118).get (by kernel_rfl)).zero.get (by kernel_rfl))), by kernel_rfl, by decide, by kernel_rfl⟩⟩
theorem tyF39 : TyF Try.prog 39 ⟨1, .sl 102 1 24, [.sl 102 1]⟩ :=
  ⟨⟨_, _, (by kernel_rfl : Try.prog.info? 39 = some ((Try.prog.info? 39).get (by kernel_rfl))), by kernel_rfl, (by kernel_rfl : _ = some (((Try.prog.info? 39).get (by kernel_rfl)).zero.get (by kernel_rfl))), by kernel_rfl⟩, rfl, ⟨Try.underlying39, _, _, (by kernel_rfl : Try.prog.info? 102 = some ((Try.prog.info? 102).get (by kernel_rfl))), by kernel_rfl, by kernel_rfl, (by kernel_rfl : _ = some (((Try.prog.info? 102).get (by kernel_rfl)).zero.get (by kernel_rfl))), by kernel_rfl, by decide, by kernel_rfl⟩⟩
theorem tyF40 : TyF Try.prog 40 ⟨1, .sl 120 7 56, [.sl 120 7]⟩ :=
  ⟨⟨_, _, (by kernel_rfl : Try.prog.info? 40 = some ((Try.prog.info? 40).get (by kernel_rfl))), by kernel_rfl, (by kernel_rfl : _ = some (((Try.prog.info? 40).get (by kernel_rfl)).zero.get (by kernel_rfl))), by kernel_rfl⟩, rfl, ⟨Try.underlying40, _, _, (by kernel_rfl : Try.prog.info? 120 = some ((Try.prog.info? 120).get (by kernel_rfl))), by kernel_rfl, by kernel_rfl, (by kernel_rfl : _ = some (((Try.prog.info? 120).get (by kernel_rfl)).zero.get (by kernel_rfl))), by kernel_rfl, by decide, by kernel_rfl⟩⟩
theorem tyF41 : TyF Try.prog 41 ⟨13, .st [(0, 8), (8, 1), (9, 1), (10, 1), (11, 1), (12, 1)], [.sl 3 1, .sl 3 1, .sl 280 1, .sl 280 1, .lit (.int .i64 0), .sl 240 4, .sl 186 1, .sl 3 1, .sl 3 1, .sl 118 21, .sl 102 1, .sl 120 7, .lit (.int .i64 0)]⟩ :=
  ⟨⟨_, _, (by kernel_rfl : Try.prog.info? 41 = some ((Try.prog.info? 41).get (by kernel_rfl))), by kernel_rfl, (by kernel_rfl : _ = some (((Try.prog.info? 41).get (by kernel_rfl)).zero.get (by kernel_rfl))), by kernel_rfl⟩, rfl, ⟨_, Try.underlying41, by kernel_rfl, rfl⟩⟩
theorem tyF42 : TyF Try.prog 42 ⟨13, .st [(0, 8), (8, 1), (9, 1), (10, 1), (11, 1), (12, 1)], [.sl 3 1, .sl 3 1, .sl 280 1, .sl 280 1, .lit (.int .i64 0), .sl 240 4, .sl 186 1, .sl 3 1, .sl 3 1, .sl 118 21, .sl 102 1, .sl 120 7, .lit (.int .i64 0)]⟩ :=
  ⟨⟨_, _, (by kernel_rfl : Try.prog.info? 42 = some ((Try.prog.info? 42).get (by kernel_rfl))), by kernel_rfl, (by kernel_rfl : _ = some (((Try.prog.info? 42).get (by kernel_rfl)).zero.get (by kernel_rfl))), by kernel_rfl⟩, rfl, ⟨_, Try.underlying42, by kernel_rfl, rfl⟩⟩
theorem tyF50 : TyF Try.prog 50 ⟨2, .st [(0, 1), (1, 1)], [.sl 3 1, .sl 3 1]⟩ :=
  ⟨⟨_, _, (by kernel_rfl : Try.prog.info? 50 = some ((Try.prog.info? 50).get (by kernel_rfl))), by kernel_rfl, (by kernel_rfl : _ = some (((Try.prog.info? 50).get (by kernel_rfl)).zero.get (by kernel_rfl))), by kernel_rfl⟩, rfl, ⟨_, Try.underlying50, by kernel_rfl, rfl⟩⟩
theorem tyF51 : TyF Try.prog 51 ⟨1, .sl 307 1 24, [.sl 307 1]⟩ :=
  ⟨⟨_, _, (by kernel_rfl : Try.prog.info? 51 = some ((Try.prog.info? 51).get (by kernel_rfl))), by kernel_rfl, (by kernel_rfl : _ = some (((Try.prog.info? 51).get (by kernel_rfl)).zero.get (by kernel_rfl))), by kernel_rfl⟩, rfl, ⟨Try.underlying51, _, _, (by kernel_rfl : Try.prog.info? 307 = some ((Try.prog.info? 307).get (by kernel_rfl))), by kernel_rfl, by kernel_rfl, (by kernel_rfl : _ = some (((Try.prog.info? 307).get (by kernel_rfl)).zero.get (by kernel_rfl))), by kernel_rfl, by decide, by kernel_rfl⟩⟩
theorem tyF52 : TyF Try.prog 52 ⟨2, .st [(0, 1), (1, 1)], [.sl 307 1, .sl 307 1]⟩ :=
  ⟨⟨_, _, (by kernel_rfl : Try.prog.info? 52 = some ((Try.prog.info? 52).get (by kernel_rfl))), by kernel_rfl, (by kernel_rfl : _ = some (((Try.prog.info? 52).get (by kernel_rfl)).zero.get (by kernel_rfl))), by kernel_rfl⟩, rfl, ⟨_, Try.underlying52, by kernel_rfl, rfl⟩⟩
theorem tyF53 : TyF Try.prog 53 ⟨2, .st [(0, 1), (1, 1)], [.sl 307 1, .sl 307 1]⟩ :=
  ⟨⟨_, _, (by kernel_rfl : Try.prog.info? 53 = some ((Try.prog.info? 53).get (by kernel_rfl))), by kernel_rfl, (by kernel_rfl : _ = some (((Try.prog.info? 53).get (by kernel_rfl)).zero.get (by kernel_rfl))), by kernel_rfl⟩, rfl, ⟨_, Try.underlying53, by kernel_rfl, rfl⟩⟩
theorem tyF54 : TyF Try.prog 54 ⟨4, .st [(0, 2), (2, 2)], [.sl 3 1, .sl 3 1, .sl 307 1, .sl 307 1]⟩ :=
  ⟨⟨_, _, (by kernel_rfl : Try.prog.info? 54 = some ((Try.prog.info? 54).get (by kernel_rfl))), by kernel_rfl, (by kernel_rfl : _ = some (((Try.prog.info? 54).get (by kernel_rfl)).zero.get (by kernel_rfl))), by kernel_rfl⟩, rfl, ⟨_, Try.underlying54, by kernel_rfl, rfl⟩⟩
theorem tyF55 : TyF Try.prog 55 ⟨4, .st [(0, 2), (2, 2)], [.sl 3 1, .sl 3 1, .sl 307 1, .sl 307 1]⟩ :=
  ⟨⟨_, _, (by kernel_rfl : Try.prog.info? 55 = some ((Try.prog.info? 55).get (by kernel_rfl))), by kernel_rfl, (by kernel_rfl : _ = some (((Try.prog.info? 55).get (by kernel_rfl)).zero.get (by kernel_rfl))), by kernel_rfl⟩, rfl, ⟨_, Try.underlying55, by kernel_rfl, rfl⟩⟩
theorem tyF56 : TyF Try.prog 56 ⟨1, .sl 276 4 32, [.sl 276 4]⟩ :=
  ⟨⟨_, _, (by kernel_rfl : Try.prog.info? 56 = some ((Try.prog.info? 56).get (by kernel_rfl))), by kernel_rfl, (by kernel_rfl : _ = some (((Try.prog.info? 56).get (by kernel_rfl)).zero.get (by kernel_rfl))), by kernel_rfl⟩, rfl, ⟨Try.underlying56, _, _, (by kernel_rfl : Try.prog.info? 276 = some ((Try.prog.info? 276).get (by kernel_rfl))), by kernel_rfl, by kernel_rfl, (by kernel_rfl : _ = some (((Try.prog.info? 276).get (by kernel_rfl)).zero.get (by kernel_rfl))), by kernel_rfl, by decide, by kernel_rfl⟩⟩
theorem tyF57 : TyF Try.prog 57 ⟨2, .st [(0, 1), (1, 1)], [.lit (.int .i64 0), .sl 276 4]⟩ :=
  ⟨⟨_, _, (by kernel_rfl : Try.prog.info? 57 = some ((Try.prog.info? 57).get (by kernel_rfl))), by kernel_rfl, (by kernel_rfl : _ = some (((Try.prog.info? 57).get (by kernel_rfl)).zero.get (by kernel_rfl))), by kernel_rfl⟩, rfl, ⟨_, Try.underlying57, by kernel_rfl, rfl⟩⟩
theorem tyF58 : TyF Try.prog 58 ⟨2, .st [(0, 1), (1, 1)], [.lit (.int .i64 0), .sl 276 4]⟩ :=
  ⟨⟨_, _, (by kernel_rfl : Try.prog.info? 58 = some ((Try.prog.info? 58).get (by kernel_rfl))), by kernel_rfl, (by kernel_rfl : _ = some (((Try.prog.info? 58).get (by kernel_rfl)).zero.get (by kernel_rfl))), by kernel_rfl⟩, rfl, ⟨_, Try.underlying58, by kernel_rfl, rfl⟩⟩
theorem tyF59 : TyF Try.prog 59 ⟨1, .sl 238 1 24, [.sl 238 1]⟩ :=
  ⟨⟨_, _, (by kernel_rfl : Try.prog.info? 59 = some ((Try.prog.info? 59).get (by kernel_rfl))), by kernel_rfl, (by kernel_rfl : _ = some (((Try.prog.info? 59).get (by kernel_rfl)).zero.get (by kernel_rfl))), by kernel_rfl⟩, rfl, ⟨Try.underlying59, _, _, (by kernel_rfl : Try.prog.info? 238 = some ((Try.prog.info? 238).get (by kernel_rfl))), by kernel_rfl, by kernel_rfl, (by kernel_rfl : _ = some (((Try.prog.info? 238).get (by kernel_rfl)).zero.get (by kernel_rfl))), by kernel_rfl, by decide, by kernel_rfl⟩⟩
theorem tyF60 : TyF Try.prog 60 ⟨8, .st [(0, 4), (4, 2), (6, 1), (7, 1)], [.sl 3 1, .sl 3 1, .sl 307 1, .sl 307 1, .lit (.int .i64 0), .sl 276 4, .sl 238 1, .sl 3 1]⟩ :=
  ⟨⟨_, _, (by kernel_rfl : Try.prog.info? 60 = some ((Try.prog.info? 60).get (by kernel_rfl))), by kernel_rfl, (by kernel_rfl : _ = some (((Try.prog.info? 60).get (by kernel_rfl)).zero.get (by kernel_rfl))), by kernel_rfl⟩, rfl, ⟨_, Try.underlying60, by kernel_rfl, rfl⟩⟩
theorem tyF61 : TyF Try.prog 61 ⟨8, .st [(0, 4), (4, 2), (6, 1), (7, 1)], [.sl 3 1, .sl 3 1, .sl 307 1, .sl 307 1, .lit (.int .i64 0), .sl 276 4, .sl 238 1, .sl 3 1]⟩ :=
  ⟨⟨_, _, (by kernel_rfl : Try.prog.info? 61 = some ((Try.prog.info? 61).get (by kernel_rfl))), by kernel_rfl, (by kernel_rfl : _ = some (((Try.prog.info? 61).get (by kernel_rfl)).zero.get (by kernel_rfl))), by kernel_rfl⟩, rfl, ⟨_, Try.underlying61, by kernel_rfl, rfl⟩⟩
theorem tyF62 : TyF Try.prog 62 ⟨1, .sl 182 21 168, [.sl 182 21]⟩ :=
  ⟨⟨_, _, (by kernel_rfl : Try.prog.info? 62 = some ((Try.prog.info? 62).get (by kernel_rfl))), by kernel_rfl, (by kernel_rfl : _ = some (((Try.prog.info? 62).get (by kernel_rfl)).zero.get (by kernel_rfl))), by kernel_rfl⟩, rfl, ⟨Try.underlying62, _, _, (by kernel_rfl : Try.prog.info? 182 = some ((Try.prog.info? 182).get (by kernel_rfl))), by kernel_rfl, by kernel_rfl, (by kernel_rfl : _ = some (((Try.prog.info? 182).get (by kernel_rfl)).zero.get (by kernel_rfl))), by kernel_rfl, by decide, by kernel_rfl⟩⟩
theorem tyF63 : TyF Try.prog 63 ⟨1, .sl 184 7 56, [.sl 184 7]⟩ :=
  ⟨⟨_, _, (by kernel_rfl : Try.prog.info? 63 = some ((Try.prog.info? 63).get (by kernel_rfl))), by kernel_rfl, (by kernel_rfl : _ = some (((Try.prog.info? 63).get (by kernel_rfl)).zero.get (by kernel_rfl))), by kernel_rfl⟩, rfl, ⟨Try.underlying63, _, _, (by kernel_rfl : Try.prog.info? 184 = some ((Try.prog.info? 184).get (by kernel_rfl))), by kernel_rfl, by kernel_rfl, (by kernel_rfl : _ = some (((Try.prog.info? 184).get (by kernel_rfl)).zero.get (by kernel_rfl))), by kernel_rfl, by decide, by kernel_rfl⟩⟩
theorem tyF64 : TyF Try.prog 64 ⟨13, .st [(0, 8), (8, 1), (9, 1), (10, 1), (11, 1), (12, 1)], [.sl 3 1, .sl 3 1, .sl 307 1, .sl 307 1, .lit (.int .i64 0), .sl 276 4, .sl 238 1, .sl 3 1, .sl 3 1, .sl 182 21, .sl 96 1, .sl 184 7, .lit (.int .i64 0)]⟩ :=
  ⟨⟨_, _, (by kernel_rfl : Try.prog.info? 64 = some ((Try.prog.info? 64).get (by kernel_rfl))), by kernel_rfl, (by kernel_rfl : _ = some (((Try.prog.info? 64).get (by kernel_rfl)).zero.get (by kernel_rfl))), by kernel_rfl⟩, rfl, ⟨_, Try.underlying64, by kernel_rfl, rfl⟩⟩
theorem tyF65 : TyF Try.prog 65 ⟨13, .st [(0, 8), (8, 1), (9, 1), (10, 1), (11, 1), (12, 1)], [.sl 3 1, .sl 3 1, .sl 307 1, .sl 307 1, .lit (.int .i64 0), .sl 276 4, .sl 238 1, .sl 3 1, .sl 3 1, .sl 182 21, .sl 96 1, .sl 184 7, .lit (.int .i64 0)]⟩ :=
  ⟨⟨_, _, (by kernel_rfl : Try.prog.info? 65 = some ((Try.prog.info? 65).get (by kernel_rfl))), by kernel_rfl, (by kernel_rfl : _ = some (((Try.prog.info? 65).get (by kernel_rfl)).zero.get (by kernel_rfl))), by kernel_rfl⟩, rfl, ⟨_, Try.underlying65, by kernel_rfl, rfl⟩⟩
theorem tyF76 : TyF Try.prog 76 ⟨1, .sl 207 3 24, [.sl 207 3]⟩ :=
  ⟨⟨_, _, (by kernel_rfl : Try.prog.info? 76 = some ((Try.prog.info? 76).get (by kernel_rfl))), by kernel_rfl, (by kernel_rfl : _ = some (((Try.prog.info? 76).get (by kernel_rfl)).zero.get (by kernel_rfl))), by kernel_rfl⟩, rfl, ⟨Try.underlying76, _, _, (by kernel_rfl : Try.prog.info? 207 = some ((Try.prog.info? 207).get (by kernel_rfl))), by kernel_rfl, by kernel_rfl, (by kernel_rfl : _ = some (((Try.prog.info? 207).get (by kernel_rfl)).zero.get (by kernel_rfl))), by kernel_rfl, by decide, by kernel_rfl⟩⟩
theorem tyF77 : TyF Try.prog 77 ⟨1, .sl 196 32 368, [.sl 196 32]⟩ :=
  ⟨⟨_, _, (by kernel_rfl : Try.prog.info? 77 = some ((Try.prog.info? 77).get (by kernel_rfl))), by kernel_rfl, (by kernel_rfl : _ = some (((Try.prog.info? 77).get (by kernel_rfl)).zero.get (by kernel_rfl))), by kernel_rfl⟩, rfl, ⟨Try.underlying77, _, _, (by kernel_rfl : Try.prog.info? 196 = some ((Try.prog.info? 196).get (by kernel_rfl))), by kernel_rfl, by kernel_rfl, (by kernel_rfl : _ = some (((Try.prog.info? 196).get (by kernel_rfl)).zero.get (by kernel_rfl))), by kernel_rfl, by decide, by kernel_rfl⟩⟩
theorem tyF78 : TyF Try.prog 78 ⟨1, .sl 200 1 24, [.sl 200 1]⟩ :=
  ⟨⟨_, _, (by kernel_rfl : Try.prog.info? 78 = some ((Try.prog.info? 78).get (by kernel_rfl))), by kernel_rfl, (by kernel_rfl : _ = some (((Try.prog.info? 78).get (by kernel_rfl)).zero.get (by kernel_rfl))), by kernel_rfl⟩, rfl, ⟨Try.underlying78, _, _, (by kernel_rfl : Try.prog.info? 200 = some ((Try.prog.info? 200).get (by kernel_rfl))), by kernel_rfl, by kernel_rfl, (by kernel_rfl : _ = some (((Try.prog.info? 200).get (by kernel_rfl)).zero.get (by kernel_rfl))), by kernel_rfl, by decide, by kernel_rfl⟩⟩
theorem tyF79 : TyF Try.prog 79 ⟨1, .sl 203 6 80, [.sl 203 6]⟩ :=
  ⟨⟨_, _, (by kernel_rfl : Try.prog.info? 79 = some ((Try.prog.info? 79).get (by kernel_rfl))), by kernel_rfl, (by kernel_rfl : _ = some (((Try.prog.info? 79).get (by kernel_rfl)).zero.get (by kernel_rfl))), by kernel_rfl⟩, rfl, ⟨Try.underlying79, _, _, (by kernel_rfl : Try.prog.info? 203 = some ((Try.prog.info? 203).get (by kernel_rfl))), by kernel_rfl, by kernel_rfl, (by kernel_rfl : _ = some (((Try.prog.info? 203).get (by kernel_rfl)).zero.get (by kernel_rfl))), by kernel_rfl, by decide, by kernel_rfl⟩⟩
theorem tyF80 : TyF Try.prog 80 ⟨13, .st [(0, 8), (8, 1), (9, 1), (10, 1), (11, 1), (12, 1)], [.sl 3 1, .sl 3 1, .sl 307 1, .sl 307 1, .lit (.int .i64 0), .sl 276 4, .sl 238 1, .sl 3 1, .sl 207 3, .sl 196 32, .sl 200 1, .sl 203 6, .lit (.int .i64 0)]⟩ :=
  ⟨⟨_, _, (by kernel_rfl : Try.prog.info? 80 = some ((Try.prog.info? 80).get (by kernel_rfl))), by kernel_rfl, (by kernel_rfl : _ = some (((Try.prog.info? 80).get (by kernel_rfl)).zero.get (by kernel_rfl))), by kernel_rfl⟩, rfl, ⟨_, Try.underlying80, by kernel_rfl, rfl⟩⟩
theorem tyF81 : TyF Try.prog 81 ⟨13, .st [(0, 8), (8, 1), (9, 1), (10, 1), (11, 1), (12, 1)], [.sl 3 1, .sl 3 1, .sl 307 1, .sl 307 1, .lit (.int .i64 0), .sl 276 4, .sl 238 1, .sl 3 1, .sl 207 3, .sl 196 32, .sl 200 1, .sl 203 6, .lit (.int .i64 0)]⟩ :=
  ⟨⟨_, _, (by kernel_rfl : Try.prog.info? 81 = some ((Try.prog.info? 81).get (by kernel_rfl))), by kernel_rfl, (by kernel_rfl : _ = some (((Try.prog.info? 81).get (by kernel_rfl)).zero.get (by kernel_rfl))), by kernel_rfl⟩, rfl, ⟨_, Try.underlying81, by kernel_rfl, rfl⟩⟩
theorem tyF84 : TyF Try.prog 84 ⟨1, .sl 205 3 24, [.sl 205 3]⟩ :=
  ⟨⟨_, _, (by kernel_rfl : Try.prog.info? 84 = some ((Try.prog.info? 84).get (by kernel_rfl))), by kernel_rfl, (by kernel_rfl : _ = some (((Try.prog.info? 84).get (by kernel_rfl)).zero.get (by kernel_rfl))), by kernel_rfl⟩, rfl, ⟨Try.underlying84, _, _, (by kernel_rfl : Try.prog.info? 205 = some ((Try.prog.info? 205).get (by kernel_rfl))), by kernel_rfl, by kernel_rfl, (by kernel_rfl : _ = some (((Try.prog.info? 205).get (by kernel_rfl)).zero.get (by kernel_rfl))), by kernel_rfl, by decide, by kernel_rfl⟩⟩
theorem tyF85 : TyF Try.prog 85 ⟨1, .sl 144 32 368, [.sl 144 32]⟩ :=
  ⟨⟨_, _, (by kernel_rfl : Try.prog.info? 85 = some ((Try.prog.info? 85).get (by kernel_rfl))), by kernel_rfl, (by kernel_rfl : _ = some (((Try.prog.info? 85).get (by kernel_rfl)).zero.get (by kernel_rfl))), by kernel_rfl⟩, rfl, ⟨Try.underlying85, _, _, (by kernel_rfl : Try.prog.info? 144 = some ((Try.prog.info? 144).get (by kernel_rfl))), by kernel_rfl, by kernel_rfl, (by kernel_rfl : _ = some (((Try.prog.info? 144).get (by kernel_rfl)).zero.get (by kernel_rfl))), by kernel_rfl, by decide, by kernel_rfl⟩⟩
theorem tyF86 : TyF Try.prog 86 ⟨1, .sl 147 1 24, [.sl 147 1]⟩ :=
  ⟨⟨_, _, (by kernel_rfl : Try.prog.info? 86 = some ((Try.prog.info? 86).get (by kernel_rfl))), by kernel_rfl, (by kernel_rfl : _ = some (((Try.prog.info? 86).get (by kernel_rfl)).zero.get (by kernel_rfl))), by kernel_rfl⟩, rfl, ⟨Try.underlying86, _, _, (by kernel_rfl : Try.prog.info? 147 = some ((Try.prog.info? 147).get (by kernel_rfl))), by kernel_rfl, by kernel_rfl, (by kernel_rfl : _ = some (((Try.prog.info? 147).get (by kernel_rfl)).zero.get (by kernel_rfl))), by kernel_rfl, by decide, by kernel_rfl⟩⟩
theorem tyF87 : TyF Try.prog 87 ⟨1, .sl 211 6 80, [.sl 211 6]⟩ :=
  ⟨⟨_, _, (by kernel_rfl : Try.prog.info? 87 = some ((Try.prog.info? 87).get (by kernel_rfl))), by kernel_rfl, (by kernel_rfl : _ = some (((Try.prog.info? 87).get (by kernel_rfl)).zero.get (by kernel_rfl))), by kernel_rfl⟩, rfl, ⟨Try.underlying87, _, _, (by kernel_rfl : Try.prog.info? 211 = some ((Try.prog.info? 211).get (by kernel_rfl))), by kernel_rfl, by kernel_rfl, (by kernel_rfl : _ = some (((Try.prog.info? 211).get (by kernel_rfl)).zero.get (by kernel_rfl))), by kernel_rfl, by decide, by kernel_rfl⟩⟩
theorem tyF88 : TyF Try.prog 88 ⟨13, .st [(0, 8), (8, 1), (9, 1), (10, 1), (11, 1), (12, 1)], [.sl 3 1, .sl 3 1, .sl 280 1, .sl 280 1, .lit (.int .i64 0), .sl 240 4, .sl 186 1, .sl 3 1, .sl 205 3, .sl 144 32, .sl 147 1, .sl 211 6, .lit (.int .i64 0)]⟩ :=
  ⟨⟨_, _, (by kernel_rfl : Try.prog.info? 88 = some ((Try.prog.info? 88).get (by kernel_rfl))), by kernel_rfl, (by kernel_rfl : _ = some (((Try.prog.info? 88).get (by kernel_rfl)).zero.get (by kernel_rfl))), by kernel_rfl⟩, rfl, ⟨_, Try.underlying88, by kernel_rfl, rfl⟩⟩
theorem tyF89 : TyF Try.prog 89 ⟨13, .st [(0, 8), (8, 1), (9, 1), (10, 1), (11, 1), (12, 1)], [.sl 3 1, .sl 3 1, .sl 280 1, .sl 280 1, .lit (.int .i64 0), .sl 240 4, .sl 186 1, .sl 3 1, .sl 205 3, .sl 144 32, .sl 147 1, .sl 211 6, .lit (.int .i64 0)]⟩ :=
  ⟨⟨_, _, (by kernel_rfl : Try.prog.info? 89 = some ((Try.prog.info? 89).get (by kernel_rfl))), by kernel_rfl, (by kernel_rfl : _ = some (((Try.prog.info? 89).get (by kernel_rfl)).zero.get (by kernel_rfl))), by kernel_rfl⟩, rfl, ⟨_, Try.underlying89, by kernel_rfl, rfl⟩⟩
theorem tyF94 : TyF Try.prog 94 ⟨1, .sl 179 4 32, [.sl 179 4]⟩ :=
  ⟨⟨_, _, (by kernel_rfl : Try.prog.info? 94 = some ((Try.prog.info? 94).get (by kernel_rfl))), by kernel_rfl, (by kernel_rfl : _ = some (((Try.prog.info? 94).get (by kernel_rfl)).zero.get (by kernel_rfl))), by kernel_rfl⟩, rfl, ⟨Try.underlying94, _, _, (by kernel_rfl : Try.prog.info? 179 = some ((Try.prog.info? 179).get (by kernel_rfl))), by kernel_rfl, by kernel_rfl, (by kernel_rfl : _ = some (((Try.prog.info? 179).get (by kernel_rfl)).zero.get (by kernel_rfl))), by kernel_rfl, by decide, by kernel_rfl⟩⟩
theorem tyF95 : TyF Try.prog 95 ⟨1, .st [(0, 1)], [.sl 179 4]⟩ :=
  ⟨⟨_, _, (by kernel_rfl : Try.prog.info? 95 = some ((Try.prog.info? 95).get (by kernel_rfl))), by kernel_rfl, (by kernel_rfl : _ = some (((Try.prog.info? 95).get (by kernel_rfl)).zero.get (by kernel_rfl))), by kernel_rfl⟩, rfl, ⟨_, Try.underlying95, by kernel_rfl, rfl⟩⟩
theorem tyF96 : TyF Try.prog 96 ⟨1, .st [(0, 1)], [.sl 179 4]⟩ :=
  ⟨⟨_, _, (by kernel_rfl : Try.prog.info? 96 = some ((Try.prog.info? 96).get (by kernel_rfl))), by kernel_rfl, (by kernel_rfl : _ = some (((Try.prog.info? 96).get (by kernel_rfl)).zero.get (by kernel_rfl))), by kernel_rfl⟩, rfl, ⟨_, Try.underlying96, by kernel_rfl, rfl⟩⟩
theorem tyF100 : TyF Try.prog 100 ⟨1, .sl 114 4 32, [.sl 114 4]⟩ :=
  ⟨⟨_, _, (by kernel_rfl : Try.prog.info? 100 = some ((Try.prog.info? 100).get (by kernel_rfl))), by kernel_rfl, (by kernel_rfl : _ = some (((Try.prog.info? 100).get (by kernel_rfl)).zero.get (by kernel_rfl))), by kernel_rfl⟩, rfl, ⟨Try.underlying100, _, _, (by kernel_rfl : Try.prog.info? 114 = some ((Try.prog.info? 114).get (by kernel_rfl))), by kernel_rfl, by kernel_rfl, (by kernel_rfl : _ = some (((Try.prog.info? 114).get (by kernel_rfl)).zero.get (by kernel_rfl))), by kernel_rfl, by decide, by kernel_rfl⟩⟩
theorem tyF101 : TyF Try.prog 101 ⟨1, .st [(0, 1)], [.sl 114 4]⟩ :=
  ⟨⟨_, _, (by kernel_rfl : Try.prog.info? 101 = some ((Try.prog.info? 101).get (by kernel_rfl))), by kernel_rfl, (by kernel_rfl : _ = some (((Try.prog.info? 101).get (by kernel_rfl)).zero.get (by kernel_rfl))), by kernel_rfl⟩, rfl, ⟨_, Try.underlying101, by kernel_rfl, rfl⟩⟩
theorem tyF102 : TyF Try.prog 102 ⟨1, .st [(0, 1)], [.sl 114 4]⟩ :=
  ⟨⟨_, _, (by kernel_rfl : Try.prog.info? 102 = some ((Try.prog.info? 102).get (by kernel_rfl))), by kernel_rfl, (by kernel_rfl : _ = some (((Try.prog.info? 102).get (by kernel_rfl)).zero.get (by kernel_rfl))), by kernel_rfl⟩, rfl, ⟨_, Try.underlying102, by kernel_rfl, rfl⟩⟩
theorem tyF113 : TyF Try.prog 113 ⟨4, .st [(0, 1), (1, 1), (2, 1), (3, 1)], [.lit (.int .i64 0), .lit (.int .i64 0), .lit (.int .i64 0), .lit (.int .i64 0)]⟩ :=
  ⟨⟨_, _, (by kernel_rfl : Try.prog.info? 113 = some ((Try.prog.info? 113).get (by kernel_rfl))), by kernel_rfl, (by kernel_rfl : _ = some (((Try.prog.info? 113).get (by kernel_rfl)).zero.get (by kernel_rfl))), by kernel_rfl⟩, rfl, ⟨_, Try.underlying113, by kernel_rfl, rfl⟩⟩
theorem tyF114 : TyF Try.prog 114 ⟨4, .st [(0, 1), (1, 1), (2, 1), (3, 1)], [.lit (.int .i64 0), .lit (.int .i64 0), .lit (.int .i64 0), .lit (.int .i64 0)]⟩ :=
  ⟨⟨_, _, (by kernel_rfl : Try.prog.info? 114 = some ((Try.prog.info? 114).get (by kernel_rfl))), by kernel_rfl, (by kernel_rfl : _ = some (((Try.prog.info? 114).get (by kernel_rfl)).zero.get (by kernel_rfl))), by kernel_rfl⟩, rfl, ⟨_, Try.underlying114, by kernel_rfl, rfl⟩⟩
theorem tyF115 : TyF Try.prog 115 ⟨10, .st [(0, 1), (1, 1), (2, 1), (3, 1), (4, 1), (5, 1), (6, 1), (7, 1), (8, 1), (9, 1)], [.lit (.int .i64 0), .lit (.int .i64 0), .lit (.int .i64 0), .lit (.int .i64 0), .lit (.int .i64 0), .lit (.int .i64 0), .lit (.int .i64 0), .lit (.int .i64 0), .lit (.int .i64 0), .lit (.bool false)]⟩ :=
  ⟨⟨_, _, (by kernel_rfl : Try.prog.info? 115 = some ((Try.prog.info? 115).get (by kernel_rfl))), by kernel_rfl, (by kernel_rfl : _ = some (((Try.prog.info? 115).get (by kernel_rfl)).zero.get (by kernel_rfl))), by kernel_rfl⟩, rfl, ⟨_, Try.underlying115, by kernel_rfl, rfl⟩⟩
theorem tyF116 : TyF Try.prog 116 ⟨10, .st [(0, 1), (1, 1), (2, 1), (3, 1), (4, 1), (5, 1), (6, 1), (7, 1), (8, 1), (9, 1)], [.lit (.int .i64 0), .lit (.int .i64 0), .lit (.int .i64 0), .lit (.int .i64 0), .lit (.int .i64 0), .lit (.int .i64 0), .lit (.int .i64 0), .lit (.int .i64 0), .lit (.int .i64 0), .lit (.bool false)]⟩ :=
  ⟨⟨_, _, (by kernel_rfl : Try.prog.info? 116 = some ((Try.prog.info? 116).get (by kernel_rfl))), by kernel_rfl, (by kernel_rfl : _ = some (((Try.prog.info? 116).get (by kernel_rfl)).zero.get (by kernel_rfl))), by kernel_rfl⟩, rfl, ⟨_, Try.underlying116, by kernel_rfl, rfl⟩⟩
theorem tyF117 : TyF Try.prog 117 ⟨21, .st [(0, 1), (1, 4), (5, 1), (6, 1), (7, 10), (17, 1), (18, 1), (19, 1), (20, 1)], [.lit (.bool false), .lit (.int .i64 0), .lit (.int .i64 0), .lit (.int .i64 0), .lit (.int .i64 0), .lit (.int .i64 0), .lit (.int .i64 0), .lit (.int .i64 0), .lit (.int .i64 0), .lit (.int .i64 0), .lit (.int .i64 0), .lit (.int .i64 0), .lit (.int .i64 0), .lit (.int .i64 0), .lit (.int .i64 0), .lit (.int .i64 0), .lit (.bool false), .lit (.int .i64 0), .lit (.int .i64 0), .lit (.int .i64 0), .lit (.int .i64 0)]⟩ :=
  ⟨⟨_, _, (by kernel_rfl : Try.prog.info? 117 = some ((Try.prog.info? 117).get (by kernel_rfl))), by kernel_rfl, (by kernel_rfl : _ = some (((Try.prog.info? 117).get (by kernel_rfl)).zero.get (by kernel_rfl))), by kernel_rfl⟩, rfl, ⟨_, Try.underlying117, by kernel_rfl, rfl⟩⟩
theorem tyF118 : TyF Try.prog 118 ⟨21, .st [(0, 1), (1, 4), (5, 1), (6, 1), (7, 10), (17, 1), (18, 1), (19, 1), (20, 1)], [.lit (.bool false), .lit (.int .i64 0), .lit (.int .i64 0), .lit (.int .i64 0), .lit (.int .i64 0), .lit (.int .i64 0), .lit (.int .i64 0), .lit (.int .i64 0), .lit (.int .i64 0), .lit (.int .i64 0), .lit (.int .i64 0), .lit (.int .i64 0), .lit (.int .i64 0), .lit (.int .i64 0), .lit (.int .i64 0), .lit (.int .i64 0), .lit (.bool false), .lit (.int .i64 0), .lit (.int .i64 0), .lit (.int .i64 0), .lit (.int .i64 0)]⟩ :=
  ⟨⟨_, _, (by kernel_rfl : Try.prog.info? 118 = some ((Try.prog.info? 118).get (by kernel_rfl))), by kernel_rfl, (by kernel_rfl : _ = some (((Try.prog.info? 118).get (by kernel_rfl)).zero.get (by kernel_rfl))), by kernel_rfl⟩, rfl, ⟨_, Try.underlying118, by kernel_rfl, rfl⟩⟩
theorem tyF119 : TyF Try.prog 119 ⟨7, .st [(0, 1), (1, 1), (2, 1), (3, 1), (4, 1), (5, 1), (6, 1)], [.lit (.int .i64 0), .lit (.int .i64 0), .lit (.int .i64 0), .lit (.int .i64 0), .lit (.int .i64 0), .lit (.int .i64 0), .lit (.int .i64 0)]⟩ :=
  ⟨⟨_, _, (by kernel_rfl : Try.prog.info? 119 = some ((Try.prog.info? 119).get (by kernel_rfl))), by kernel_rfl, (by kernel_rfl : _ = some (((Try.prog.info? 119).get (by kernel_rfl)).zero.get (by kernel_rfl))), by kernel_rfl⟩, rfl, ⟨_, Try.underlying119, by kernel_rfl, rfl⟩⟩
theorem tyF120 : TyF Try.prog 120 ⟨7, .st [(0, 1), (1, 1), (2, 1), (3, 1), (4, 1), (5, 1), (6, 1)], [.lit (.int .i64 0), .lit (.int .i64 0), .lit (.int .i64 0), .lit (.int .i64 0), .lit (.int .i64 0), .lit (.int .i64 0), .lit (.int .i64 0)]⟩ :=
  ⟨⟨_, _, (by kernel_rfl : Try.prog.info? 120 = some ((Try.prog.info? 120).get (by kernel_rfl))), by kernel_rfl, (by kernel_rfl : _ = some (((Try.prog.info? 120).get (by kernel_rfl)).zero.get (by kernel_rfl))), by kernel_rfl⟩, rfl, ⟨_, Try.underlying120, by kernel_rfl, rfl⟩⟩
theorem tyF127 : TyF Try.prog 127 ⟨1, .sl 130 2 16, [.sl 130 2]⟩ :=
  ⟨⟨_, _, (by kernel_rfl : Try.prog.info? 127 = some ((Try.prog.info? 127).get (by kernel_rfl))), by kernel_rfl, (by kernel_rfl : _ = some (((Try.prog.info? 127).get (by kernel_rfl)).zero.get (by kernel_rfl))), by kernel_rfl⟩, rfl, ⟨Try.underlying127, _, _, (by kernel_rfl : Try.prog.info? 130 = some ((Try.prog.info? 130).get (by kernel_rfl))), by kernel_rfl, by kernel_rfl, (by kernel_rfl : _ = some (((Try.prog.info? 130).get (by kernel_rfl)).zero.get (by kernel_rfl))), by kernel_rfl, by decide, by kernel_rfl⟩⟩
theorem tyF129 : TyF Try.prog 129 ⟨2, .st [(0, 1), (1, 1)], [.lit (.int .i64 0), .lit (.int .i64 0)]⟩ :=
  ⟨⟨_, _, (by kernel_rfl : Try.prog.info? 129 = some ((Try.prog.info? 129).get (by kernel_rfl))), by kernel_rfl, (by kernel_rfl : _ = some (((Try.prog.info? 129).get (by kernel_rfl)).zero.get (by kernel_rfl))), by kernel_rfl⟩, rfl, ⟨_, Try.underlying129, by kernel_rfl, rfl⟩⟩
theorem tyF130 : TyF Try.prog 130 ⟨2, .st [(0, 1), (1, 1)], [.lit (.int .i64 0), .lit (.int .i64 0)]⟩ :=
  ⟨⟨_, _, (by kernel_rfl : Try.prog.info? 130 = some ((Try.prog.info? 130).get (by kernel_rfl))), by kernel_rfl, (by kernel_rfl : _ = some (((Try.prog.info? 130).get (by kernel_rfl)).zero.get (by kernel_rfl))), by kernel_rfl⟩, rfl, ⟨_, Try.underlying130, by kernel_rfl, rfl⟩⟩
theorem tyF135 : TyF Try.prog 135 ⟨1, .sl 295 3 24, [.sl 295 3]⟩ :=
  ⟨⟨_, _, (by kernel_rfl : Try.prog.info? 135 = some ((Try.prog.info? 135).get (by kernel_rfl))), by kernel_rfl, (by kernel_rfl : _ = some (((Try.prog.info? 135).get (by kernel_rfl)).zero.get (by kernel_rfl))), by kernel_rfl⟩, rfl, ⟨Try.underlying135, _, _, (by kernel_rfl : Try.prog.info? 295 = some ((Try.prog.info? 295).get (by kernel_rfl))), by kernel_rfl, by kernel_rfl, (by kernel_rfl : _ = some (((Try.prog.info? 295).get (by kernel_rfl)).zero.get (by kernel_rfl))), by kernel_rfl, by decide, by kernel_rfl⟩⟩
theorem tyF136 : TyF Try.prog 136 ⟨2, .st [(0, 1), (1, 1)], [.lit (.bool false), .sl 295 3]⟩ :=
  ⟨⟨_, _, (by kernel_rfl : Try.prog.info? 136 = some ((Try.prog.info? 136).get (by kernel_rfl))), by kernel_rfl, (by kernel_rfl : _ = some (((Try.prog.info? 136).get (by kernel_rfl)).zero.get (by kernel_rfl))), by kernel_rfl⟩, rfl, ⟨_, Try.underlying136, by kernel_rfl, rfl⟩⟩
theorem tyF137 : TyF Try.prog 137 ⟨2, .st [(0, 1), (1, 1)], [.lit (.bool false), .sl 295 3]⟩ :=
  ⟨⟨_, _, (by kernel_rfl : Try.prog.info? 137 = some ((Try.prog.info? 137).get (by kernel_rfl))), by kernel_rfl, (by kernel_rfl : _ = some (((Try.prog.info? 137).get (by kernel_rfl)).zero.get (by kernel_rfl))), by kernel_rfl⟩, rfl, ⟨_, Try.underlying137, by kernel_rfl, rfl⟩⟩
theorem tyF138 : TyF Try.prog 138 ⟨3, .st [(0, 1), (1, 1), (2, 1)], [.lit (.int .i64 0), .lit (.int .i64 0), .lit (.int .i64 0)]⟩ :=
  ⟨⟨_, _, (by kernel_rfl : Try.prog.info? 138 = some ((Try.prog.info? 138).get (by kernel_rfl))), by kernel_rfl, (by kernel_rfl : _ = some (((Try.prog.info? 138).get (by kernel_rfl)).zero.get (by kernel_rfl))), by kernel_rfl⟩, rfl, ⟨_, Try.underlying138, by kernel_rfl, rfl⟩⟩
theorem tyF139 : TyF Try.prog 139 ⟨3, .st [(0, 1), (1, 1), (2, 1)], [.lit (.int .i64 0), .lit (.int .i64 0), .lit (.int .i64 0)]⟩ :=
  ⟨⟨_, _, (by kernel_rfl : Try.prog.info? 139 = some ((Try.prog.info? 139).get (by kernel_rfl))), by kernel_rfl, (by kernel_rfl : _ = some (((Try.prog.info? 139).get (by kernel_rfl)).zero.get (by kernel_rfl))), by kernel_rfl⟩, rfl, ⟨_, Try.underlying139, by kernel_rfl, rfl⟩⟩
theorem tyF140 : TyF Try.prog 140 ⟨1, .sl 283 2 16, [.sl 283 2]⟩ :=
  ⟨⟨_, _, (by kernel_rfl : Try.prog.info? 140 = some ((Try.prog.info? 140).get (by kernel_rfl))), by kernel_rfl, (by kernel_rfl : _ = some (((Try.prog.info? 140).get (by kernel_rfl)).zero.get (by kernel_rfl))), by kernel_rfl⟩, rfl, ⟨Try.underlying140, _, _, (by kernel_rfl : Try.prog.info? 283 = some ((Try.prog.info? 283).get (by kernel_rfl))), by kernel_rfl, by kernel_rfl, (by kernel_rfl : _ = some (((Try.prog.info? 283).get (by kernel_rfl)).zero.get (by kernel_rfl))), by kernel_rfl, by decide, by kernel_rfl⟩⟩
theorem tyF141 : TyF Try.prog 141 ⟨1, .sl 287 3 24, [.sl 287 3]⟩ :=
  ⟨⟨_, _, (by kernel_rfl : Try.prog.info? 141 = some ((Try.prog.info? 141).get (by kernel_rfl))), by kernel_rfl, (by kernel_rfl : _ = some (((Try.prog.info? 141).get (by kernel_rfl)).zero.get (by kernel_rfl))), by kernel_rfl⟩, rfl, ⟨Try.underlying141, _, _, (by kernel_rfl : Try.prog.info? 287 = some ((Try.prog.info? 287).get (by kernel_rfl))), by kernel_rfl, by kernel_rfl, (by kernel_rfl : _ = some (((Try.prog.info? 287).get (by kernel_rfl)).zero.get (by kernel_rfl))), by kernel_rfl, by decide, by kernel_rfl⟩⟩
theorem tyF142 : TyF Try.prog 142 ⟨1, .sl 291 2 16, [.sl 291 2]⟩ :=
  ⟨⟨_, _, (by kernel_rfl : Try.prog.info? 142 = some ((Try.prog.info? 142).get (by kernel_rfl))), by kernel_rfl, (by kernel_rfl : _ = some (((Try.prog.info? 142).get (by kernel_rfl)).zero.get (by kernel_rfl))), by kernel_rfl⟩, rfl, ⟨Try.underlying142, _, _, (by kernel_rfl : Try.prog.info? 291 = some ((Try.prog.info? 291).get (by kernel_rfl))), by kernel_rfl, by kernel_rfl, (by kernel_rfl : _ = some (((Try.prog.info? 291).get (by kernel_rfl)).zero.get (by kernel_rfl))), by kernel_rfl, by decide, by kernel_rfl⟩⟩
theorem tyF143 : TyF Try.prog 143 ⟨32, .st [(0, 1), (1, 2), (3, 1), (4, 1), (5, 1), (6, 1), (7, 1), (8, 1), (9, 1), (10, 1), (11, 3), (14, 1), (15, 1), (16, 10), (26, 1), (27, 1), (28, 1), (29, 1), (30, 1), (31, 1)], [.lit (.bool false), .lit (.bool false), .sl 295 3, .lit (.int .i64 0), .lit (.int .i64 0), .lit (.int .i64 0), .lit (.int .i64 0), .lit (.int .i64 0), .lit (.int .i64 0), .lit (.int .i64 0), .lit (.int .i64 0), .lit (.int .i64 0), .lit (.int .i64 0), .lit (.int .i64 0), .lit (.bool false), .lit (.int .i64 0), .lit (.int .i64 0), .lit (.int .i64 0), .lit (.int .i64 0), .lit (.int .i64 0), .lit (.int .i64 0), .lit (.int .i64 0), .lit (.int .i64 0), .lit (.int .i64 0), .lit (.int .i64 0), .lit (.bool false), .sl 283 2, .sl 287 3, .sl 291 2, .sl 3 1, .sl 3 1, .sl 3 1]⟩ :=
  ⟨⟨_, _, (by kernel_rfl : Try.prog.info? 143 = some ((Try.prog.info? 143).get (by kernel_rfl))), by kernel_rfl, (by kernel_rfl : _ = some (((Try.prog.info? 143).get (by kernel_rfl)).zero.get (by kernel_rfl))), by kernel_rfl⟩, rfl, ⟨_, Try.underlying143, by kernel_rfl, rfl⟩⟩
theorem tyF144 : TyF Try.prog 144 ⟨32, .st [(0, 1), (1, 2), (3, 1), (4, 1), (5, 1), (6, 1), (7, 1), (8, 1), (9, 1), (10, 1), (11, 3), (14, 1), (15, 1), (16, 10), (26, 1), (27, 1), (28, 1), (29, 1), (30, 1), (31, 1)], [.lit (.bool false), .lit (.bool false), .sl 295 3, .lit (.int .i64 0), .lit (.int .i64 0), .lit (.int .i64 0), .lit (.int .i64 0), .lit (.int .i64 0), .lit (.int .i64 0), .lit (.int .i64 0), .lit (.int .i64 0), .lit (.int .i64 0), .lit (.int .i64 0), .lit (.int .i64 0), .lit (.bool false), .lit (.int .i64 0), .lit (.int .i64 0), .lit (.int .i64 0), .lit (.int .i64 0), .lit (.int .i64 0), .lit (.int .i64 0), .lit (.int .i64 0), .lit (.int .i64 0), .lit (.int .i64 0), .lit (.int .i64 0), .lit (.bool false), .sl 283 2, .sl 287 3, .sl 291 2, .sl 3 1, .sl 3 1, .sl 3 1]⟩ :=
  ⟨⟨_, _, (by kernel_rfl : Try.prog.info? 144 = some ((Try.prog.info? 144).get (by kernel_rfl))), by kernel_rfl, (by kernel_rfl : _ = some (((Try.prog.info? 144).get (by kernel_rfl)).zero.get (by kernel_rfl))), by kernel_rfl⟩, rfl, ⟨_, Try.underlying144, by kernel_rfl, rfl⟩⟩
theorem tyF145 : TyF Try.prog 145 ⟨1, .sl 137 2 32, [.sl 137 2]⟩ :=
  ⟨⟨_, _, (by kernel_rfl : Try.prog.info? 145 = some ((Try.prog.info? 145).get (by kernel_rfl))), by kernel_rfl, (by kernel_rfl : _ = some (((Try.prog.info? 145).get (by kernel_rfl)).zero.get (by kernel_rfl))), by kernel_rfl⟩, rfl, ⟨Try.underlying145, _, _, (by kernel_rfl : Try.prog.info? 137 = some ((Try.prog.info? 137).get (by kernel_rfl))), by kernel_rfl, by kernel_rfl, (by kernel_rfl : _ = some (((Try.prog.info? 137).get (by kernel_rfl)).zero.get (by kernel_rfl))), by kernel_rfl, by decide, by kernel_rfl⟩⟩
theorem tyF146 : TyF Try.prog 146 ⟨1, .st [(0, 1)], [.sl 137 2]⟩ :=
  ⟨⟨_, _, (by kernel_rfl : Try.prog.info? 146 = some ((Try.prog.info? 146).get (by kernel_rfl))), by kernel_rfl, (by kernel_rfl : _ = some (((Try.prog.info? 146).get (by kernel_rfl)).zero.get (by kernel_rfl))), by kernel_rfl⟩, rfl, ⟨_, Try.underlying146, by kernel_rfl, rfl⟩⟩
theorem tyF147 : TyF Try.prog 147 ⟨1, .st [(0, 1)], [.sl 137 2]⟩ :=
  ⟨⟨_, _, (by kernel_rfl : Try.prog.info? 147 = some ((Try.prog.info? 147).get (by kernel_rfl))), by kernel_rfl, (by kernel_rfl : _ = some (((Try.prog.info? 147).get (by kernel_rfl)).zero.get (by kernel_rfl))), by kernel_rfl⟩, rfl, ⟨_, Try.underlying147, by kernel_rfl, rfl⟩⟩
theorem tyF179 : TyF Try.prog 179 ⟨4, .st [(0, 1), (1, 1), (2, 1), (3, 1)], [.lit (.int .i64 0), .lit (.int .i64 0), .lit (.int .i64 0), .lit (.int .i64 0)]⟩ :=
  ⟨⟨_, _, (by kernel_rfl : Try.prog.info? 179 = some ((Try.prog.info? 179).get (by kernel_rfl))), by kernel_rfl, (by kernel_rfl : _ = some (((Try.prog.info? 179).get (by kernel_rfl)).zero.get (by kernel_rfl))), by kernel_rfl⟩, rfl, ⟨_, Try.underlying179, by kernel_rfl, rfl⟩⟩
theorem tyF180 : TyF Try.prog 180 ⟨10, .st [(0, 1), (1, 1), (2, 1), (3, 1), (4, 1), (5, 1), (6, 1), (7, 1), (8, 1), (9, 1)], [.lit (.int .i64 0), .lit (.int .i64 0), .lit (.int .i64 0), .lit (.int .i64 0), .lit (.int .i64 0), .lit (.int .i64 0), .lit (.int .i64 0), .lit (.int .i64 0), .lit (.int .i64 0), .lit (.bool false)]⟩ :=
  ⟨⟨_, _, (by kernel_rfl : Try.prog.info? 180 = some ((Try.prog.info? 180).get (by kernel_rfl))), by kernel_rfl, (by kernel_rfl : _ = some (((Try.prog.info? 180).get (by kernel_rfl)).zero.get (by kernel_rfl))), by kernel_rfl⟩, rfl, ⟨_, Try.underlying180, by kernel_rfl, rfl⟩⟩
theorem tyF181 : TyF Try.prog 181 ⟨21, .st [(0, 1), (1, 4), (5, 1), (6, 1), (7, 10), (17, 1), (18, 1), (19, 1), (20, 1)], [.lit (.bool false), .lit (.int .i64 0), .lit (.int .i64 0), .lit (.int .i64 0), .lit (.int .i64 0), .lit (.int .i64 0), .lit (.int .i64 0), .lit (.int .i64 0), .lit (.int .i64 0), .lit (.int .i64 0), .lit (.int .i64 0), .lit (.int .i64 0), .lit (.int .i64 0), .lit (.int .i64 0), .lit (.int .i64 0), .lit (.int .i64 0), .lit (.bool false), .lit (.int .i64 0), .lit (.int .i64 0), .lit (.int .i64 0), .lit (.int .i64 0)]⟩ :=
  ⟨⟨_, _, (by kernel_rfl : Try.prog.info? 181 = some ((Try.prog.info? 181).get (by kernel_rfl))), by kernel_rfl, (by kernel_rfl : _ = some (((Try.prog.info? 181).get (by kernel_rfl)).zero.get (by kernel_rfl))), by kernel_rfl⟩, rfl, ⟨_, Try.underlying181, by kernel_rfl, rfl⟩⟩
theorem tyF182 : TyF Try.prog 182 ⟨21, .st [(0, 1), (1, 4), (5, 1), (6, 1), (7, 10), (17, 1), (18, 1), (19, 1), (20, 1)], [.lit (.bool false), .lit (.int .i64 0), .lit (.int .i64 0), .lit (.int .i64 0), .lit (.int .i64 0), .lit (.int .i64 0), .lit (.int .i64 0), .lit (.int .i64 0), .lit (.int .i64 0), .lit (.int .i64 0), .lit (.int .i64 0), .lit (.int .i64 0), .lit (.int .i64 0), .lit (.int .i64 0), .lit (.int .i64 0), .lit (.int .i64 0), .lit (.bool false), .lit (.int .i64 0), .lit (.int .i64 0), .lit (.int .i64 0), .lit (.int .i64 0)]⟩ :=
  ⟨⟨_, _, (by kernel_rfl : Try.prog.info? 182 = some ((Try.prog.info? 182).get (by kernel_rfl))), by kernel_rfl, (by kernel_rfl : _ = some (((Try.prog.info? 182).get (by kernel_rfl)).zero.get (by kernel_rfl))), by kernel_rfl⟩, rfl, ⟨_, Try.underlying182, by kernel_rfl, rfl⟩⟩
theorem tyF184 : TyF Try.prog 184 ⟨7, .st [(0, 1), (1, 1), (2, 1), (3, 1), (4, 1), (5, 1), (6, 1)], [.lit (.int .i64 0), .lit (.int .i64 0), .lit (.int .i64 0), .lit (.int .i64 0), .lit (.int .i64 0), .lit (.int .i64 0), .lit (.int .i64 0)]⟩ :=
  ⟨⟨_, _, (by kernel_rfl : Try.prog.info? 184 = some ((Try.prog.info? 184).get (by kernel_rfl))), by kernel_rfl, (by kernel_rfl : _ = some (((Try.prog.info? 184).get (by kernel_rfl)).zero.get (by kernel_rfl))), by kernel_rfl⟩, rfl, ⟨_, Try.underlying184, by kernel_rfl, rfl⟩⟩
theorem tyF185 : TyF Try.prog 185 ⟨1, .st [(0, 1)], [.sl 130 2]⟩ :=
  ⟨⟨_, _, (by kernel_rfl : Try.prog.info? 185 = some ((Try.prog.info? 185).get (by kernel_rfl))), by kernel_rfl, (by kernel_rfl : _ = some (((Try.prog.info? 185).get (by kernel_rfl)).zero.get (by kernel_rfl))), by kernel_rfl⟩, rfl, ⟨_, Try.underlying185, by kernel_rfl, rfl⟩⟩
theorem tyF186 : TyF Try.prog 186 ⟨1, .st [(0, 1)], [.sl 130 2]⟩ :=
  ⟨⟨_, _, (by kernel_rfl : Try.prog.info? 186 = some ((Try.prog.info? 186).get (by kernel_rfl))), by kernel_rfl, (by kernel_rfl : _ = some (((Try.prog.info? 186).get (by kernel_rfl)).zero.get (by kernel_rfl))), by kernel_rfl⟩, rfl, ⟨_, Try.underlying186, by kernel_rfl, rfl⟩⟩
theorem tyF188 : TyF Try.prog 188 ⟨1, .sl 297 3 24, [.sl 297 3]⟩ :=
  ⟨⟨_, _, (by kernel_rfl : Try.prog.info? 188 = some ((Try.prog.info? 188).get (by kernel_rfl))), by kernel_rfl, (by kernel_rfl : _ = some (((Try.prog.info? 188).get (by kernel_rfl)).zero.get (by kernel_rfl))), by kernel_rfl⟩, rfl, ⟨Try.underlying188, _, _, (by kernel_rfl : Try.prog.info? 297 = some ((Try.prog.info? 297).get (by kernel_rfl))), by kernel_rfl, by kernel_rfl, (by kernel_rfl : _ = some (((Try.prog.info? 297).get (by kernel_rfl)).zero.get (by kernel_rfl))), by kernel_rfl, by decide, by kernel_rfl⟩⟩
theorem tyF189 : TyF Try.prog 189 ⟨2, .st [(0, 1), (1, 1)], [.lit (.bool false), .sl 297 3]⟩ :=
  ⟨⟨_, _, (by kernel_rfl : Try.prog.info? 189 = some ((Try.prog.info? 189).get (by kernel_rfl))), by kernel_rfl, (by kernel_rfl : _ = some (((Try.prog.info? 189).get (by kernel_rfl)).zero.get (by kernel_rfl))), by kernel_rfl⟩, rfl, ⟨_, Try.underlying189, by kernel_rfl, rfl⟩⟩
theorem tyF190 : TyF Try.prog 190 ⟨2, .st [(0, 1), (1, 1)], [.lit (.bool false), .sl 297 3]⟩ :=
  ⟨⟨_, _, (by kernel_rfl : Try.prog.info? 190 = some ((Try.prog.info? 190).get (by kernel_rfl))), by kernel_rfl, (by kernel_rfl : _ = some (((Try.prog.info? 190).get (by kernel_rfl)).zero.get (by kernel_rfl))), by kernel_rfl⟩, rfl, ⟨_, Try.underlying190, by kernel_rfl, rfl⟩⟩
theorem tyF191 : TyF Try.prog 191 ⟨3, .st [(0, 1), (1, 1), (2, 1)], [.lit (.int .i64 0), .lit (.int .i64 0), .lit (.int .i64 0)]⟩ :=
  ⟨⟨_, _, (by kernel_rfl : Try.prog.info? 191 = some ((Try.prog.info? 191).get (by kernel_rfl))), by kernel_rfl, (by kernel_rfl : _ = some (((Try.prog.info? 191).get (by kernel_rfl)).zero.get (by kernel_rfl))), by kernel_rfl⟩, rfl, ⟨_, Try.underlying191, by kernel_rfl, rfl⟩⟩
theorem tyF192 : TyF Try.prog 192 ⟨1, .sl 285 2 16, [.sl 285 2]⟩ :=
  ⟨⟨_, _, (by kernel_rfl : Try.prog.info? 192 = some ((Try.prog.info? 192).get (by kernel_rfl))), by kernel_rfl, (by kernel_rfl : _ = some (((Try.prog.info? 192).get (by kernel_rfl)).zero.get (by kernel_rfl))), by kernel_rfl⟩, rfl, ⟨Try.underlying192, _, _, (by kernel_rfl : Try.prog.info? 285 = some ((Try.prog.info? 285).get (by kernel_rfl))), by kernel_rfl, by kernel_rfl, (by kernel_rfl : _ = some (((Try.prog.info? 285).get (by kernel_rfl)).zero.get (by kernel_rfl))), by kernel_rfl, by decide, by kernel_rfl⟩⟩
theorem tyF193 : TyF Try.prog 193 ⟨1, .sl 289 3 24, [.sl 289 3]⟩ :=
  ⟨⟨_, _, (by kernel_rfl : Try.prog.info? 193 = some ((Try.prog.info? 193).get (by kernel_rfl))), by kernel_rfl, (by kernel_rfl : _ = some (((Try.prog.info? 193).get (by kernel_rfl)).zero.get (by kernel_rfl))), by kernel_rfl⟩, rfl, ⟨Try.underlying193, _, _, (by kernel_rfl : Try.prog.info? 289 = some ((Try.prog.info? 289).get (by kernel_rfl))), by kernel_rfl, by kernel_rfl, (by kernel_rfl : _ = some (((Try.prog.info? 289).get (by kernel_rfl)).zero.get (by kernel_rfl))), by kernel_rfl, by decide, by kernel_rfl⟩⟩
theorem tyF194 : TyF Try.prog 194 ⟨1, .sl 293 2 16, [.sl 293 2]⟩ :=
  ⟨⟨_, _, (by kernel_rfl : Try.prog.info? 194 = some ((Try.prog.info? 194).get (by kernel_rfl))), by kernel_rfl, (by kernel_rfl : _ = some (((Try.prog.info? 194).get (by kernel_rfl)).zero.get (by kernel_rfl))), by kernel_rfl⟩, rfl, ⟨Try.underlying194, _, _, (by kernel_rfl : Try.prog.info? 293 = some ((Try.prog.info? 293).get (by kernel_rfl))), by kernel_rfl, by kernel_rfl, (by kernel_rfl : _ = some (((Try.prog.info? 293).get (by kernel_rfl)).zero.get (by kernel_rfl))), by kernel_rfl, by decide, by kernel_rfl⟩⟩
theorem tyF195 : TyF Try.prog 195 ⟨32, .st [(0, 1), (1, 2), (3, 1), (4, 1), (5, 1), (6, 1), (7, 1), (8, 1), (9, 1), (10, 1), (11, 3), (14, 1), (15, 1), (16, 10), (26, 1), (27, 1), (28, 1), (29, 1), (30, 1), (31, 1)], [.lit (.bool false), .lit (.bool false), .sl 297 3, .lit (.int .i64 0), .lit (.int .i64 0), .lit (.int .i64 0), .lit (.int .i64 0), .lit (.int .i64 0), .lit (.int .i64 0), .lit (.int .i64 0), .lit (.int .i64 0), .lit (.int .i64 0), .lit (.int .i64 0), .lit (.int .i64 0), .lit (.bool false), .lit (.int .i64 0), .lit (.int .i64 0), .lit (.int .i64 0), .lit (.int .i64 0), .lit (.int .i64 0), .lit (.int .i64 0), .lit (.int .i64 0), .lit (.int .i64 0), .lit (.int .i64 0), .lit (.int .i64 0), .lit (.bool false), .sl 285 2, .sl 289 3, .sl 293 2, .sl 3 1, .sl 3 1, .sl 3 1]⟩ :=
  ⟨⟨_, _, (by kernel_rfl : Try.prog.info? 195 = some ((Try.prog.info? 195).get (by kernel_rfl))), by kernel_rfl, (by kernel_rfl : _ = some (((Try.prog.info? 195).get (by kernel_rfl)).zero.get (by kernel_rfl))), by kernel_rfl⟩, rfl, ⟨_, Try.underlying195, by kernel_rfl, rfl⟩⟩
theorem tyF196 : TyF Try.prog 196 ⟨32, .st [(0, 1), (1, 2), (3, 1), (4, 1), (5, 1), (6, 1), (7, 1), (8, 1), (9, 1), (10, 1), (11, 3), (14, 1), (15, 1), (16, 10), (26, 1), (27, 1), (28, 1), (29, 1), (30, 1), (31, 1)], [.lit (.bool false), .lit (.bool false), .sl 297 3, .lit (.int .i64 0), .lit (.int .i64 0), .lit (.int .i64 0), .lit (.int .i64 0), .lit (.int .i64 0), .lit (.int .i64 0), .lit (.int .i64 0), .lit (.int .i64 0), .lit (.int .i64 0), .lit (.int .i64 0), .lit (.int .i64 0), .lit (.bool false), .lit (.int .i64 0), .lit (.int .i64 0), .lit (.int .i64 0), .lit (.int .i64 0), .lit (.int .i64 0), .lit (.int .i64 0), .lit (.int .i64 0), .lit (.int .i64 0), .lit (.int .i64 0), .lit (.int .i64 0), .lit (.bool false), .sl 285 2, .sl 289 3, .sl 293 2, .sl 3 1, .sl 3 1, .sl 3 1]⟩ :=
  ⟨⟨_, _, (by kernel_rfl : Try.prog.info? 196 = some ((Try.prog.info? 196).get (by kernel_rfl))), by kernel_rfl, (by kernel_rfl : _ = some (((Try.prog.info? 196).get (by kernel_rfl)).zero.get (by kernel_rfl))), by kernel_rfl⟩, rfl, ⟨_, Try.underlying196, by kernel_rfl, rfl⟩⟩
theorem tyF198 : TyF Try.prog 198 ⟨1, .sl 190 2 32, [.sl 190 2]⟩ :=
  ⟨⟨_, _, (by kernel_rfl : Try.prog.info? 198 = some ((Try.prog.info? 198).get (by kernel_rfl))), by kernel_rfl, (by kernel_rfl : _ = some (((Try.prog.info? 198).get (by kernel_rfl)).zero.get (by kernel_rfl))), by kernel_rfl⟩, rfl, ⟨Try.underlying198, _, _, (by kernel_rfl : Try.prog.info? 190 = some ((Try.prog.info? 190).get (by kernel_rfl))), by kernel_rfl, by kernel_rfl, (by kernel_rfl : _ = some (((Try.prog.info? 190).get (by kernel_rfl)).zero.get (by kernel_rfl))), by kernel_rfl, by decide, by kernel_rfl⟩⟩
theorem tyF199 : TyF Try.prog 199 ⟨1, .st [(0, 1)], [.sl 190 2]⟩ :=
  ⟨⟨_, _, (by kernel_rfl : Try.prog.info? 199 = some ((Try.prog.info? 199).get (by kernel_rfl))), by kernel_rfl, (by kernel_rfl : _ = some (((Try.prog.info? 199).get (by kernel_rfl)).zero.get (by kernel_rfl))), by kernel_rfl⟩, rfl, ⟨_, Try.underlying199, by kernel_rfl, rfl⟩⟩
theorem tyF200 : TyF Try.prog 200 ⟨1, .st [(0, 1)], [.sl 190 2]⟩ :=
  ⟨⟨_, _, (by kernel_rfl : Try.prog.info? 200 = some ((Try.prog.info? 200).get (by kernel_rfl))), by kernel_rfl, (by kernel_rfl : _ = some (((Try.prog.info? 200).get (by kernel_rfl)).zero.get (by kernel_rfl))), by kernel_rfl⟩, rfl, ⟨_, Try.underlying200, by kernel_rfl, rfl⟩⟩
theorem tyF202 : TyF Try.prog 202 ⟨6, .st [(0, 1), (1, 1), (2, 1), (3, 1), (4, 1), (5, 1)], [.lit (.int .i64 0), .lit (.int .i64 0), .lit (.int .i64 0), .lit (.int .i64 0), .sl 297 3, .sl 293 2]⟩ :=
  ⟨⟨_, _, (by kernel_rfl : Try.prog.info? 202 = some ((Try.prog.info? 202).get (by kernel_rfl))), by kernel_rfl, (by kernel_rfl : _ = some (((Try.prog.info? 202).get (by kernel_rfl)).zero.get (by kernel_rfl))), by kernel_rfl⟩, rfl, ⟨_, Try.underlying202, by kernel_rfl, rfl⟩⟩
theorem tyF203 : TyF Try.prog 203 ⟨6, .st [(0, 1), (1, 1), (2, 1), (3, 1), (4, 1), (5, 1)], [.lit (.int .i64 0), .lit (.int .i64 0), .lit (.int .i64 0), .lit (.int .i64 0), .sl 297 3, .sl 293 2]⟩ :=
  ⟨⟨_, _, (by kernel_rfl : Try.prog.info? 203 = some ((Try.prog.info? 203).get (by kernel_rfl))), by kernel_rfl, (by kernel_rfl : _ = some (((Try.prog.info? 203).get (by kernel_rfl)).zero.get (by kernel_rfl))), by kernel_rfl⟩, rfl, ⟨_, Try.underlying203, by kernel_rfl, rfl⟩⟩
theorem tyF204 : TyF Try.prog 204 ⟨3, .st [(0, 1), (1, 1), (2, 1)], [.lit (.int .i64 0), .lit (.int .i64 0), .lit (.int .i64 0)]⟩ :=
  ⟨⟨_, _, (by kernel_rfl : Try.prog.info? 204 = some ((Try.prog.info? 204).get (by kernel_rfl))), by kernel_rfl, (by kernel_rfl : _ = some (((Try.prog.info? 204).get (by kernel_rfl)).zero.get (by kernel_rfl))), by kernel_rfl⟩, rfl, ⟨_, Try.underlying204, by kernel_rfl, rfl⟩⟩
theorem tyF205 : TyF Try.prog 205 ⟨3, .st [(0, 1), (1, 1), (2, 1)], [.lit (.int .i64 0), .lit (.int .i64 0), .lit (.int .i64 0)]⟩ :=
  ⟨⟨_, _, (by kernel_rfl : Try.prog.info? 205 = some ((Try.prog.info? 205).get (by kernel_rfl))), by kernel_rfl, (by kernel_rfl : _ = some (((Try.prog.info? 205).get (by kernel_rfl)).zero.get (by kernel_rfl))), by kernel_rfl⟩, rfl, ⟨_, Try.underlying205, by kernel_rfl, rfl⟩⟩
theorem tyF207 : TyF Try.prog 207 ⟨3, .st [(0, 1), (1, 1), (2, 1)], [.lit (.int .i64 0), .lit (.int .i64 0), .lit (.int .i64 0)]⟩ :=
  ⟨⟨_, _, (by kernel_rfl : Try.prog.info? 207 = some ((Try.prog.info? 207).get (by kernel_rfl))), by kernel_rfl, (by kernel_rfl : _ = some (((Try.prog.info? 207).get (by kernel_rfl)).zero.get (by kernel_rfl))), by kernel_rfl⟩, rfl, ⟨_, Try.underlying207, by kernel_rfl, rfl⟩⟩
theorem tyF210 : TyF Try.prog 210 ⟨6, .st [(0, 1), (1, 1), (2, 1), (3, 1), (4, 1), (5, 1)], [.lit (.int .i64 0), .lit (.int .i64 0), .lit (.int .i64 0), .lit (.int .i64 0), .sl 295 3, .sl 291 2]⟩ :=
  ⟨⟨_, _, (by kernel_rfl : Try.prog.info? 210 = some ((Try.prog.info? 210).get (by kernel_rfl))), by kernel_rfl, (by kernel_rfl : _ = some (((Try.prog.info? 210).get (by kernel_rfl)).zero.get (by kernel_rfl))), by kernel_rfl⟩, rfl, ⟨_, Try.underlying210, by kernel_rfl, rfl⟩⟩
theorem tyF211 : TyF Try.prog 211 ⟨6, .st [(0, 1), (1, 1), (2, 1), (3, 1), (4, 1), (5, 1)], [.lit (.int .i64 0), .lit (.int .i64 0), .lit (.int .i64 0), .lit (.int .i64 0), .sl 295 3, .sl 291 2]⟩ :=
  ⟨⟨_, _, (by kernel_rfl : Try.prog.info? 211 = some ((Try.prog.info? 211).get (by kernel_rfl))), by kernel_rfl, (by kernel_rfl : _ = some (((Try.prog.info? 211).get (by kernel_rfl)).zero.get (by kernel_rfl))), by kernel_rfl⟩, rfl, ⟨_, Try.underlying211, by kernel_rfl, rfl⟩⟩
theorem tyF236 : TyF Try.prog 236 ⟨1, .sl 310 2 16, [.sl 310 2]⟩ :=
  ⟨⟨_, _, (by kernel_rfl : Try.prog.info? 236 = some ((Try.prog.info? 236).get (by kernel_rfl))), by kernel_rfl, (by kernel_rfl : _ = some (((Try.prog.info? 236).get (by kernel_rfl)).zero.get (by kernel_rfl))), by kernel_rfl⟩, rfl, ⟨Try.underlying236, _, _, (by kernel_rfl : Try.prog.info? 310 = some ((Try.prog.info? 310).get (by kernel_rfl))), by kernel_rfl, by kernel_rfl, (by kernel_rfl : _ = some (((Try.prog.info? 310).get (by kernel_rfl)).zero.get (by kernel_rfl))), by kernel_rfl, by decide, by kernel_rfl⟩⟩
theorem tyF237 : TyF Try.prog 237 ⟨1, .st [(0, 1)], [.sl 310 2]⟩ :=
  ⟨⟨_, _, (by kernel_rfl : Try.prog.info? 237 = some ((Try.prog.info? 237).get (by kernel_rfl))), by kernel_rfl, (by kernel_rfl : _ = some (((Try.prog.info? 237).get (by kernel_rfl)).zero.get (by kernel_rfl))), by kernel_rfl⟩, rfl, ⟨_, Try.underlying237, by kernel_rfl, rfl⟩⟩
theorem tyF238 : TyF Try.prog 238 ⟨1, .st [(0, 1)], [.sl 310 2]⟩ :=
  ⟨⟨_, _, (by kernel_rfl : Try.prog.info? 238 = some ((Try.prog.info? 238).get (by kernel_rfl))), by kernel_rfl, (by kernel_rfl : _ = some (((Try.prog.info? 238).get (by kernel_rfl)).zero.get (by kernel_rfl))), by kernel_rfl⟩, rfl, ⟨_, Try.underlying238, by kernel_rfl, rfl⟩⟩
theorem tyF239 : TyF Try.prog 239 ⟨4, .st [(0, 1), (1, 1), (2, 1), (3, 1)], [.lit (.bool false), .lit (.int .i64 0), .lit (.bool false), .lit (.int .i64 0)]⟩ :=
  ⟨⟨_, _, (by kernel_rfl : Try.prog.info? 239 = some ((Try.prog.info? 239).get (by kernel_rfl))), by kernel_rfl, (by kernel_rfl : _ = some (((Try.prog.info? 239).get (by kernel_rfl)).zero.get (by kernel_rfl))), by kernel_rfl⟩, rfl, ⟨_, Try.underlying239, by kernel_rfl, rfl⟩⟩
theorem tyF240 : TyF Try.prog 240 ⟨4, .st [(0, 1), (1, 1), (2, 1), (3, 1)], [.lit (.bool false), .lit (.int .i64 0), .lit (.bool false), .lit (.int .i64 0)]⟩ :=
  ⟨⟨_, _, (by kernel_rfl : Try.prog.info? 240 = some ((Try.prog.info? 240).get (by kernel_rfl))), by kernel_rfl, (by kernel_rfl : _ = some (((Try.prog.info? 240).get (by kernel_rfl)).zero.get (by kernel_rfl))), by kernel_rfl⟩, rfl, ⟨_, Try.underlying240, by kernel_rfl, rfl⟩⟩
theorem tyF276 : TyF Try.prog 276 ⟨4, .st [(0, 1), (1, 1), (2, 1), (3, 1)], [.lit (.bool false), .lit (.int .i64 0), .lit (.bool false), .lit (.int .i64 0)]⟩ :=
  ⟨⟨_, _, (by kernel_rfl : Try.prog.info? 276 = some ((Try.prog.info? 276).get (by kernel_rfl))), by kernel_rfl, (by kernel_rfl : _ = some (((Try.prog.info? 276).get (by kernel_rfl)).zero.get (by kernel_rfl))), by kernel_rfl⟩, rfl, ⟨_, Try.underlying276, by kernel_rfl, rfl⟩⟩
theorem tyF279 : TyF Try.prog 279 ⟨1, .st [(0, 1)], [.sl 3 1]⟩ :=
  ⟨⟨_, _, (by kernel_rfl : Try.prog.info? 279 = some ((Try.prog.info? 279).get (by kernel_rfl))), by kernel_rfl, (by kernel_rfl : _ = some (((Try.prog.info? 279).get (by kernel_rfl)).zero.get (by kernel_rfl))), by kernel_rfl⟩, rfl, ⟨_, Try.underlying279, by kernel_rfl, rfl⟩⟩
theorem tyF280 : TyF Try.prog 280 ⟨1, .st [(0, 1)], [.sl 3 1]⟩ :=
  ⟨⟨_, _, (by kernel_rfl : Try.prog.info? 280 = some ((Try.prog.info? 280).get (by kernel_rfl))), by kernel_rfl, (by kernel_rfl : _ = some (((Try.prog.info? 280).get (by kernel_rfl)).zero.get (by kernel_rfl))), by kernel_rfl⟩, rfl, ⟨_, Try.underlying280, by kernel_rfl, rfl⟩⟩
theorem tyF282 : TyF Try.prog 282 ⟨2, .st [(0, 1), (1, 1)], [.lit (.int .i64 0), .lit (.int .i64 0)]⟩ :=
  ⟨⟨_, _, (by kernel_rfl : Try.prog.info? 282 = some ((Try.prog.info? 282).get (by kernel_rfl))), by kernel_rfl, (by kernel_rfl : _ = some (((Try.prog.info? 282).get (by kernel_rfl)).zero.get (by kernel_rfl))), by kernel_rfl⟩, rfl, ⟨_, Try.underlying282, by kernel_rfl, rfl⟩⟩
theorem tyF283 : TyF Try.prog 283 ⟨2, .st [(0, 1), (1, 1)], [.lit (.int .i64 0), .lit (.int .i64 0)]⟩ :=
  ⟨⟨_, _, (by kernel_rfl : Try.prog.info? 283 = some ((Try.prog.info? 283).get (by kernel_rfl))), by kernel_rfl, (by kernel_rfl : _ = some (((Try.prog.info? 283).get (by kernel_rfl)).zero.get (by kernel_rfl))), by kernel_rfl⟩, rfl, ⟨_, Try.underlying283, by kernel_rfl, rfl⟩⟩
theorem tyF285 : TyF Try.prog 285 ⟨2, .st [(0, 1), (1, 1)], [.lit (.int .i64 0), .lit (.int .i64 0)]⟩ :=
  ⟨⟨_, _, (by kernel_rfl : Try.prog.info? 285 = some ((Try.prog.info? 285).get (by kernel_rfl))), by kernel_rfl, (by kernel_rfl : _ = some (((Try.prog.info? 285).get (by kernel_rfl)).zero.get (by kernel_rfl))), by kernel_rfl⟩, rfl, ⟨_, Try.underlying285, by kernel_rfl, rfl⟩⟩
theorem tyF286 : TyF Try.prog 286 ⟨3, .st [(0, 1), (1, 1), (2, 1)], [.lit (.int .i64 0), .lit (.bool false), .lit (.int .i64 0)]⟩ :=
  ⟨⟨_, _, (by kernel_rfl : Try.prog.info? 286 = some ((Try.prog.info? 286).get (by kernel_rfl))), by kernel_rfl, (by kernel_rfl : _ = some (((Try.prog.info? 286).get (by kernel_rfl)).zero.get (by kernel_rfl))), by kernel_rfl⟩, rfl, ⟨_, Try.underlying286, by kernel_rfl, rfl⟩⟩
theorem tyF287 : TyF Try.prog 287 ⟨3, .st [(0, 1), (1, 1), (2, 1)], [.lit (.int .i64 0), .lit (.bool false), .lit (.int .i64 0)]⟩ :=
  ⟨⟨_, _, (by kernel_rfl : Try.prog.info? 287 = some ((Try.prog.info? 287).get (by kernel_rfl))), by kernel_rfl, (by kernel_rfl : _ = some (((Try.prog.info? 287).get (by kernel_rfl)).zero.get (by kernel_rfl))), by kernel_rfl⟩, rfl, ⟨_, Try.underlying287, by kernel_rfl, rfl⟩⟩
theorem tyF289 : TyF Try.prog 289 ⟨3, .st [(0, 1), (1, 1), (2, 1)], [.lit (.int .i64 0), .lit (.bool false), .lit (.int .i64 0)]⟩ :=
  ⟨⟨_, _, (by kernel_rfl : Try.prog.info? 289 = some ((Try.prog.info? 289).get (by kernel_rfl))), by kernel_rfl, (by kernel_rfl : _ = some (((Try.prog.info? 289).get (by kernel_rfl)).zero.get (by kernel_rfl))), by kernel_rfl⟩, rfl, ⟨_, Try.underlying289, by kernel_rfl, rfl⟩⟩
theorem tyF290 : TyF Try.prog 290 ⟨2, .st [(0, 1), (1, 1)], [.lit (.bool false), .lit (.int .i64 0)]⟩ :=
  ⟨⟨_, _, (by kernel_rfl : Try.prog.info? 290 = some ((Try.prog.info? 290).get (by kernel_rfl))), by kernel_rfl, (by kernel_rfl : _ = some (((Try.prog.info? 290).get (by kernel_rfl)).zero.get (by kernel_rfl))), by kernel_rfl⟩, rfl, ⟨_, Try.underlying290, by kernel_rfl, rfl⟩⟩
theorem tyF291 : TyF Try.prog 291 ⟨2, .st [(0, 1), (1, 1)], [.lit (.bool false), .lit (.int .i64 0)]⟩ :=
  ⟨⟨_, _, (by kernel_rfl : Try.prog.info? 291 = some ((Try.prog.info? 291).get (by kernel_rfl))), by kernel_rfl, (by kernel_rfl : _ = some (((Try.prog.info? 291).get (by kernel_rfl)).zero.get (by kernel_rfl))), by kernel_rfl⟩, rfl, ⟨_, Try.underlying291, by kernel_rfl, rfl⟩⟩
theorem tyF293 : TyF Try.prog 293 ⟨2, .st [(0, 1), (1, 1)], [.lit (.bool false), .lit (.int .i64 0)]⟩ :=
  ⟨⟨_, _, (by kernel_rfl : Try.prog.info? 293 = some ((Try.prog.info? 293).get (by kernel_rfl))), by kernel_rfl, (by kernel_rfl : _ = some (((Try.prog.info? 293).get (by kernel_rfl)).zero.get (by kernel_rfl))), by kernel_rfl⟩, rfl, ⟨_, Try.underlying293, by kernel_rfl, rfl⟩⟩
theorem tyF294 : TyF Try.prog 294 ⟨3, .st [(0, 1), (1, 1), (2, 1)], [.lit (.int .i64 0), .lit (.int .i64 0), .lit (.int .i64 0)]⟩ :=
  ⟨⟨_, _, (by kernel_rfl : Try.prog.info? 294 = some ((Try.prog.info? 294).get (by kernel_rfl))), by kernel_rfl, (by kernel_rfl : _ = some (((Try.prog.info? 294).get (by kernel_rfl)).zero.get (by kernel_rfl))), by kernel_rfl⟩, rfl, ⟨_, Try.underlying294, by kernel_rfl, rfl⟩⟩
theorem tyF295 : TyF Try.prog 295 ⟨3, .st [(0, 1), (1, 1), (2, 1)], [.lit (.int .i64 0), .lit (.int .i64 0), .lit (.int .i64 0)]⟩ :=
  ⟨⟨_, _, (by kernel_rfl : Try.prog.info? 295 = some ((Try.prog.info? 295).get (by kernel_rfl))), by kernel_rfl, (by kernel_rfl : _ = some (((Try.prog.info? 295).get (by kernel_rfl)).zero.get (by kernel_rfl))), by kernel_rfl⟩, rfl, ⟨_, Try.underlying295, by kernel_rfl, rfl⟩⟩
theorem tyF297 : TyF Try.prog 297 ⟨3, .st [(0, 1), (1, 1), (2, 1)], [.lit (.int .i64 0), .lit (.int .i64 0), .lit (.int .i64 0)]⟩ :=
  ⟨⟨_, _, (by kernel_rfl : Try.prog.info? 297 = some ((Try.prog.info? 297).get (by kernel_rfl))), by kernel_rfl, (by kernel_rfl : _ = some (((Try.prog.info? 297).get (by kernel_rfl)).zero.get (by kernel_rfl))), by kernel_rfl⟩, rfl, ⟨_, Try.underlying297, by kernel_rfl, rfl⟩⟩
theorem tyF302 : TyF Try.prog 302 ⟨1, .sc, [.lit (.int .u64 0)]⟩ :=
  ⟨⟨_, _, (by kernel_rfl : Try.prog.info? 302 = some ((Try.prog.info? 302).get (by kernel_rfl))), by kernel_rfl, (by kernel_rfl : _ = some (((Try.prog.info? 302).get (by kernel_rfl)).zero.get (by kernel_rfl))), by kernel_rfl⟩, rfl, ⟨_, Try.underlying302, rfl⟩⟩
theorem tyF307 : TyF Try.prog 307 ⟨1, .st [(0, 1)], [.sl 3 1]⟩ :=
  ⟨⟨_, _, (by kernel_rfl : Try.prog.info? 307 = some ((Try.prog.info? 307).get (by kernel_rfl))), by kernel_rfl, (by kernel_rfl : _ = some (((Try.prog.info? 307).get (by kernel_rfl)).zero.get (by kernel_rfl))), by kernel_rfl⟩, rfl, ⟨_, Try.underlying307, by kernel_rfl, rfl⟩⟩
theorem tyF310 : TyF Try.prog 310 ⟨2, .st [(0, 1), (1, 1)], [.lit (.int .i64 0), .lit (.int .i64 0)]⟩ :=
  ⟨⟨_, _, (by kernel_rfl : Try.prog.info? 310 = some ((Try.prog.info? 310).get (by kernel_rfl))), by kernel_rfl, (by kernel_rfl : _ = some (((Try.prog.info? 310).get (by kernel_rfl)).zero.get (by kernel_rfl))), by kernel_rfl⟩, rfl, ⟨_, Try.underlying310, by kernel_rfl, rfl⟩⟩
theorem tyF311 : TyF Try.prog 311 ⟨1, .sc, [.lit (.int .u32 0)]⟩ :=
  ⟨⟨_, _, (by kernel_rfl : Try.prog.info? 311 = some ((Try.prog.info? 311).get (by kernel_rfl))), by kernel_rfl, (by kernel_rfl : _ = some (((Try.prog.info? 311).get (by kernel_rfl)).zero.get (by kernel_rfl))), by kernel_rfl⟩, rfl, ⟨_, Try.underlying311, rfl⟩⟩
theorem tyF314 : TyF Try.prog 314 ⟨1, .sc, [.lit (.int .u64 0)]⟩ :=
  ⟨⟨_, _, (by kernel_rfl : Try.prog.info? 314 = some ((Try.prog.info? 314).get (by kernel_rfl))), by kernel_rfl, (by kernel_rfl : _ = some (((Try.prog.info? 314).get (by kernel_rfl)).zero.get (by kernel_rfl))), by kernel_rfl⟩, rfl, ⟨_, Try.underlying314, rfl⟩⟩
theorem tyF324 : TyF Try.prog 324 ⟨1, .sc, [.lit (.int .u8 0)]⟩ :=
  ⟨⟨_, _, (by kernel_rfl : Try.prog.info? 324 = some ((Try.prog.info? 324).get (by kernel_rfl))), by kernel_rfl, (by kernel_rfl : _ = some (((Try.prog.info? 324).get (by kernel_rfl)).zero.get (by kernel_rfl))), by kernel_rfl⟩, rfl, ⟨_, Try.underlying324, rfl⟩⟩
theorem tyF325 : TyF Try.prog 325 ⟨1, .sc, [.lit (.int .u8 0)]⟩ :=
  ⟨⟨_, _, (by kernel_rfl : Try.prog.info? 325 = some ((Try.prog.info? 325).get (by kernel_rfl))), by kernel_rfl, (by kernel_rfl : _ = some (((Try.prog.info? 325).get (by kernel_rfl)).zero.get (by kernel_rfl))), by kernel_rfl⟩, rfl, ⟨_, Try.underlying325, rfl⟩⟩
theorem tyF328 : TyF Try.prog 328 ⟨1, .sc, [.lit (.int .i32 0)]⟩ :=
  ⟨⟨_, _, (by kernel_rfl : Try.prog.info? 328 = some ((Try.prog.info? 328).get (by kernel_rfl))), by kernel_rfl, (by kernel_rfl : _ = some (((Try.prog.info? 328).get (by kernel_rfl)).zero.get (by kernel_rfl))), by kernel_rfl⟩, rfl, ⟨_, Try.underlying328, rfl⟩⟩
theorem tyF329 : TyF Try.prog 329 ⟨1, .sc, [.lit (.int .i32 0)]⟩ :=
  ⟨⟨_, _, (by kernel_rfl : Try.prog.info? 329 = some ((Try.prog.info? 329).get (by kernel_rfl))), by kernel_rfl, (by kernel_rfl : _ = some (((Try.prog.info? 329).get (by kernel_rfl)).zero.get (by kernel_rfl))), by kernel_rfl⟩, rfl, ⟨_, Try.underlying329, rfl⟩⟩
theorem tyOk : TOk Try.prog tyT := by
  intro t i h
  unfold tyT at h
  split at h
  · injection h with h; subst h; exact tyF2
  · injection h with h; subst h; exact tyF3
  · injection h with h; subst h; exact tyF4
  · injection h with h; subst h; exact tyF5
  · injection h with h; subst h; exact tyF6
  · injection h with h; subst h; exact tyF7
  · injection h with h; subst h; exact tyF8
  · injection h with h; subst h; exact tyF12
  · injection h with h; subst h; exact tyF21
  · injection h with h; subst h; exact tyF22
  · injection h with h; subst h; exact tyF24
  · injection h with h; subst h; exact tyF25
  · injection h with h; subst h; exact tyF26
  · injection h with h; subst h; exact tyF27
  · injection h with h; subst h; exact tyF28
  · injection h with h; subst h; exact tyF29
  · injection h with h; subst h; exact tyF30
  · injection h with h; subst h; exact tyF31
  · injection h with h; subst h; exact tyF32
  · injection h with h; subst h; exact tyF33
  · injection h with h; subst h; exact tyF34
  · injection h with h; subst h; exact tyF35
  · injection h with h; subst h; exact tyF36
  · injection h with h; subst h; exact tyF37
  · injection h with h; subst h; exact tyF38
  · injection h with h; subst h; exact tyF39
  · injection h with h; subst h; exact tyF40
  · injection h with h; subst h; exact tyF41
  · injection h with h; subst h; exact tyF42
  · injection h with h; subst h; exact tyF50
  · injection h with h; subst h; exact tyF51
  · injection h with h; subst h; exact tyF52
  · injection h with h; subst h; exact tyF53
  · injection h with h; subst h; exact tyF54
  · injection h with h; subst h; exact tyF55
  · injection h with h; subst h; exact tyF56
  · injection h with h; subst h; exact tyF57
  · injection h with h; subst h; exact tyF58
  · injection h with h; subst h; exact tyF59
  · injection h with h; subst h; exact tyF60
  · injection h with h; subst h; exact tyF61
  · injection h with h; subst h; exact tyF62
  · injection h with h; subst h; exact tyF63
  · injection h with h; subst h; exact tyF64
  · injection h with h; subst h; exact tyF65
  · injection h with h; subst h; exact tyF76
  · injection h with h; subst h; exact tyF77
  · injection h with h; subst h; exact tyF78
  · injection h with h; subst h; exact tyF79
  · injection h with h; subst h; exact tyF80
  · injection h with h; subst h; exact tyF81
  · injection h with h; subst h; exact tyF84
  · injection h with h; subst h; exact tyF85
  · injection h with h; subst h; exact tyF86
  · injection h with h; subst h; exact tyF87
  · injection h with h; subst h; exact tyF88
  · injection h with h; subst h; exact tyF89
  · injection h with h; subst h; exact tyF94
  · injection h with h; subst h; exact tyF95
  · injection h with h; subst h; exact tyF96
  · injection h with h; subst h; exact tyF100
  · injection h with h; subst h; exact tyF101
  · injection h with h; subst h; exact tyF102
  · injection h with h; subst h; exact tyF113
  · injection h with h; subst h; exact tyF114
  · injection h with h; subst h; exact tyF115
  · injection h with h; subst h; exact tyF116
  · injection h with h; subst h; exact tyF117
  · injection h with h; subst h; exact tyF118
  · injection h with h; subst h; exact tyF119
  · injection h with h; subst h; exact tyF120
  · injection h with h; subst h; exact tyF127
  · injection h with h; subst h; exact tyF129
  · injection h with h; subst h; exact tyF130
  · injection h with h; subst h; exact tyF135
  · injection h with h; subst h; exact tyF136
  · injection h with h; subst h; exact tyF137
  · injection h with h; subst h; exact tyF138
  · injection h with h; subst h; exact tyF139
  · injection h with h; subst h; exact tyF140
  · injection h with h; subst h; exact tyF141
  · injection h with h; subst h; exact tyF142
  · injection h with h; subst h; exact tyF143
  · injection h with h; subst h; exact tyF144
  · injection h with h; subst h; exact tyF145
  · injection h with h; subst h; exact tyF146
  · injection h with h; subst h; exact tyF147
  · injection h with h; subst h; exact tyF179
  · injection h with h; subst h; exact tyF180
  · injection h with h; subst h; exact tyF181
  · injection h with h; subst h; exact tyF182
  · injection h with h; subst h; exact tyF184
  · injection h with h; subst h; exact tyF185
  · injection h with h; subst h; exact tyF186
  · injection h with h; subst h; exact tyF188
  · injection h with h; subst h; exact tyF189
  · injection h with h; subst h; exact tyF190
  · injection h with h; subst h; exact tyF191
  · injection h with h; subst h; exact tyF192
  · injection h with h; subst h; exact tyF193
  · injection h with h; subst h; exact tyF194
  · injection h with h; subst h; exact tyF195
  · injection h with h; subst h; exact tyF196
  · injection h with h; subst h; exact tyF198
  · injection h with h; subst h; exact tyF199
  · injection h with h; subst h; exact tyF200
  · injection h with h; subst h; exact tyF202
  · injection h with h; subst h; exact tyF203
  · injection h with h; subst h; exact tyF204
  · injection h with h; subst h; exact tyF205
  · injection h with h; subst h; exact tyF207
  · injection h with h; subst h; exact tyF210
  · injection h with h; subst h; exact tyF211
  · injection h with h; subst h; exact tyF236
  · injection h with h; subst h; exact tyF237
  · injection h with h; subst h; exact tyF238
  · injection h with h; subst h; exact tyF239
  · injection h with h; subst h; exact tyF240
  · injection h with h; subst h; exact tyF276
  · injection h with h; subst h; exact tyF279
  · injection h with h; subst h; exact tyF280
  · injection h with h; subst h; exact tyF282
  · injection h with h; subst h; exact tyF283
  · injection h with h; subst h; exact tyF285
  · injection h with h; subst h; exact tyF286
  · injection h with h; subst h; exact tyF287
  · injection h with h; subst h; exact tyF289
  · injection h with h; subst h; exact tyF290
  · injection h with h; subst h; exact tyF291
  · injection h with h; subst h; exact tyF293
  · injection h with h; subst h; exact tyF294
  · injection h with h; subst h; exact tyF295
  · injection h with h; subst h; exact tyF297
  · injection h with h; subst h; exact tyF302
  · injection h with h; subst h; exact tyF307
  · injection h with h; subst h; exact tyF310
  · injection h with h; subst h; exact tyF311
  · injection h with h; subst h; exact tyF314
  · injection h with h; subst h; exact tyF324
  · injection h with h; subst h; exact tyF325
  · injection h with h; subst h; exact tyF328
  · injection h with h; subst h; exact tyF329
  · cases h
end Go.Proofs.Ytjlphbhmjicdhaa

