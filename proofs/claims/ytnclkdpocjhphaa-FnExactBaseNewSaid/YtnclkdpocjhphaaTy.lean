/- The types of the program that the proofs speak of. -/
import Derived.Test.YtnclkdpocjhphaaProg
import Derived.Test.YtnclkdpocjhphaaTrc
import Derived.KernelRfl
namespace Go.Proofs.Ytnclkdpocjhphaa
open Go Go.Tr
set_option linter.unusedVariables false
set_option linter.unusedSimpArgs false
set_option maxRecDepth 100000
def tyT : Nat → Option TyI
  | 2 => some ⟨1, .sc, [.lit (.int .i64 0)]⟩
  | 3 => some ⟨1, .sc, [.lit (.int .i64 0)]⟩
  | 4 => some ⟨1, .sc, [.lit (.bool false)]⟩
  | 5 => some ⟨1, .sc, [.lit (.int .u8 0)]⟩
  | 6 => some ⟨1, .sc, [.lit (.int .u8 0)]⟩
  | 7 => some ⟨4, .st [(0, 1), (1, 1), (2, 1), (3, 1)], [.lit (.int .i64 0), .lit (.int .i64 0), .lit (.bool false), .lit (.int .u8 0)]⟩
  | 8 => some ⟨4, .st [(0, 1), (1, 1), (2, 1), (3, 1)], [.lit (.int .i64 0), .lit (.int .i64 0), .lit (.bool false), .lit (.int .u8 0)]⟩
  | 12 => some ⟨1, .sc, [.lit (.int .u64 0)]⟩
  | 21 => some ⟨1, .sc, [.lit (.int .i32 0)]⟩
  | 22 => some ⟨1, .sl 198 1 24, [.sl 198 1]⟩
  | 23 => some ⟨2, .st [(0, 1), (1, 1)], [.sl 198 1, .sl 198 1]⟩
  | 24 => some ⟨2, .st [(0, 1), (1, 1)], [.sl 198 1, .sl 198 1]⟩
  | 26 => some ⟨1, .sl 115 1 24, [.sl 115 1]⟩
  | 27 => some ⟨2, .st [(0, 1), (1, 1)], [.sl 115 1, .sl 115 1]⟩
  | 28 => some ⟨2, .st [(0, 1), (1, 1)], [.sl 115 1, .sl 115 1]⟩
  | 40 => some ⟨1, .sl 3 1 8, [.sl 3 1]⟩
  | 41 => some ⟨2, .st [(0, 1), (1, 1)], [.sl 3 1, .sl 3 1]⟩
  | 42 => some ⟨2, .st [(0, 1), (1, 1)], [.sl 3 1, .sl 3 1]⟩
  | 47 => some ⟨4, .st [(0, 2), (2, 2)], [.sl 3 1, .sl 3 1, .sl 115 1, .sl 115 1]⟩
  | 48 => some ⟨4, .st [(0, 2), (2, 2)], [.sl 3 1, .sl 3 1, .sl 115 1, .sl 115 1]⟩
  | 52 => some ⟨1, .sl 274 4 32, [.sl 274 4]⟩
  | 53 => some ⟨2, .st [(0, 1), (1, 1)], [.lit (.int .i64 0), .sl 274 4]⟩
  | 54 => some ⟨2, .st [(0, 1), (1, 1)], [.lit (.int .i64 0), .sl 274 4]⟩
  | 55 => some ⟨1, .sl 210 1 24, [.sl 210 1]⟩
  | 56 => some ⟨8, .st [(0, 4), (4, 2), (6, 1), (7, 1)], [.sl 3 1, .sl 3 1, .sl 115 1, .sl 115 1, .lit (.int .i64 0), .sl 274 4, .sl 210 1, .sl 3 1]⟩
  | 57 => some ⟨8, .st [(0, 4), (4, 2), (6, 1), (7, 1)], [.sl 3 1, .sl 3 1, .sl 115 1, .sl 115 1, .lit (.int .i64 0), .sl 274 4, .sl 210 1, .sl 3 1]⟩
  | 61 => some ⟨2, .st [(0, 1), (1, 1)], [.sl 3 1, .sl 3 1]⟩
  | 62 => some ⟨4, .st [(0, 2), (2, 2)], [.sl 3 1, .sl 3 1, .sl 198 1, .sl 198 1]⟩
  | 63 => some ⟨4, .st [(0, 2), (2, 2)], [.sl 3 1, .sl 3 1, .sl 198 1, .sl 198 1]⟩
  | 64 => some ⟨1, .sl 315 4 32, [.sl 315 4]⟩
  | 65 => some ⟨2, .st [(0, 1), (1, 1)], [.lit (.int .i64 0), .sl 315 4]⟩
  | 66 => some ⟨2, .st [(0, 1), (1, 1)], [.lit (.int .i64 0), .sl 315 4]⟩
  | 67 => some ⟨1, .sl 283 1 24, [.sl 283 1]⟩
  | 68 => some ⟨8, .st [(0, 4), (4, 2), (6, 1), (7, 1)], [.sl 3 1, .sl 3 1, .sl 198 1, .sl 198 1, .lit (.int .i64 0), .sl 315 4, .sl 283 1, .sl 3 1]⟩
  | 69 => some ⟨8, .st [(0, 4), (4, 2), (6, 1), (7, 1)], [.sl 3 1, .sl 3 1, .sl 198 1, .sl 198 1, .lit (.int .i64 0), .sl 315 4, .sl 283 1, .sl 3 1]⟩
  | 70 => some ⟨1, .sl 223 21 168, [.sl 223 21]⟩
  | 71 => some ⟨1, .sl 190 1 24, [.sl 190 1]⟩
  | 72 => some ⟨1, .sl 225 7 56, [.sl 225 7]⟩
  | 73 => some ⟨13, .st [(0, 8), (8, 1), (9, 1), (10, 1), (11, 1), (12, 1)], [.sl 3 1, .sl 3 1, .sl 198 1, .sl 198 1, .lit (.int .i64 0), .sl 315 4, .sl 283 1, .sl 3 1, .sl 3 1, .sl 223 21, .sl 190 1, .sl 225 7, .lit (.int .i64 0)]⟩
  | 74 => some ⟨13, .st [(0, 8), (8, 1), (9, 1), (10, 1), (11, 1), (12, 1)], [.sl 3 1, .sl 3 1, .sl 198 1, .sl 198 1, .lit (.int .i64 0), .sl 315 4, .sl 283 1, .sl 3 1, .sl 3 1, .sl 223 21, .sl 190 1, .sl 225 7, .lit (.int .i64 0)]⟩
  | 77 => some ⟨1, .sl 148 21 168, [.sl 148 21]⟩
  | 78 => some ⟨1, .sl 151 1 24, [.sl 151 1]⟩
  | 79 => some ⟨1, .sl 159 7 56, [.sl 159 7]⟩
  | 80 => some ⟨13, .st [(0, 8), (8, 1), (9, 1), (10, 1), (11, 1), (12, 1)], [.sl 3 1, .sl 3 1, .sl 115 1, .sl 115 1, .lit (.int .i64 0), .sl 274 4, .sl 210 1, .sl 3 1, .sl 3 1, .sl 148 21, .sl 151 1, .sl 159 7, .lit (.int .i64 0)]⟩
  | 81 => some ⟨13, .st [(0, 8), (8, 1), (9, 1), (10, 1), (11, 1), (12, 1)], [.sl 3 1, .sl 3 1, .sl 115 1, .sl 115 1, .lit (.int .i64 0), .sl 274 4, .sl 210 1, .sl 3 1, .sl 3 1, .sl 148 21, .sl 151 1, .sl 159 7, .lit (.int .i64 0)]⟩
  | 86 => some ⟨1, .sl 249 3 24, [.sl 249 3]⟩
  | 87 => some ⟨1, .sl 238 32 368, [.sl 238 32]⟩
  | 88 => some ⟨1, .sl 242 1 24, [.sl 242 1]⟩
  | 89 => some ⟨1, .sl 245 6 80, [.sl 245 6]⟩
  | 90 => some ⟨13, .st [(0, 8), (8, 1), (9, 1), (10, 1), (11, 1), (12, 1)], [.sl 3 1, .sl 3 1, .sl 198 1, .sl 198 1, .lit (.int .i64 0), .sl 315 4, .sl 283 1, .sl 3 1, .sl 249 3, .sl 238 32, .sl 242 1, .sl 245 6, .lit (.int .i64 0)]⟩
  | 91 => some ⟨13, .st [(0, 8), (8, 1), (9, 1), (10, 1), (11, 1), (12, 1)], [.sl 3 1, .sl 3 1, .sl 198 1, .sl 198 1, .lit (.int .i64 0), .sl 315 4, .sl 283 1, .sl 3 1, .sl 249 3, .sl 238 32, .sl 242 1, .sl 245 6, .lit (.int .i64 0)]⟩
  | 94 => some ⟨1, .sl 247 3 24, [.sl 247 3]⟩
  | 95 => some ⟨1, .sl 175 32 368, [.sl 175 32]⟩
  | 96 => some ⟨1, .sl 178 1 24, [.sl 178 1]⟩
  | 97 => some ⟨1, .sl 253 6 80, [.sl 253 6]⟩
  | 98 => some ⟨13, .st [(0, 8), (8, 1), (9, 1), (10, 1), (11, 1), (12, 1)], [.sl 3 1, .sl 3 1, .sl 115 1, .sl 115 1, .lit (.int .i64 0), .sl 274 4, .sl 210 1, .sl 3 1, .sl 247 3, .sl 175 32, .sl 178 1, .sl 253 6, .lit (.int .i64 0)]⟩
  | 99 => some ⟨13, .st [(0, 8), (8, 1), (9, 1), (10, 1), (11, 1), (12, 1)], [.sl 3 1, .sl 3 1, .sl 115 1, .sl 115 1, .lit (.int .i64 0), .sl 274 4, .sl 210 1, .sl 3 1, .sl 247 3, .sl 175 32, .sl 178 1, .sl 253 6, .lit (.int .i64 0)]⟩
  | 114 => some ⟨1, .st [(0, 1)], [.sl 3 1]⟩
  | 115 => some ⟨1, .st [(0, 1)], [.sl 3 1]⟩
  | 143 => some ⟨4, .st [(0, 1), (1, 1), (2, 1), (3, 1)], [.lit (.int .i64 0), .lit (.int .i64 0), .lit (.int .i64 0), .lit (.int .i64 0)]⟩
  | 144 => some ⟨4, .st [(0, 1), (1, 1), (2, 1), (3, 1)], [.lit (.int .i64 0), .lit (.int .i64 0), .lit (.int .i64 0), .lit (.int .i64 0)]⟩
  | 145 => some ⟨10, .st [(0, 1), (1, 1), (2, 1), (3, 1), (4, 1), (5, 1), (6, 1), (7, 1), (8, 1), (9, 1)], [.lit (.int .i64 0), .lit (.int .i64 0), .lit (.int .i64 0), .lit (.int .i64 0), .lit (.int .i64 0), .lit (.int .i64 0), .lit (.int .i64 0), .lit (.int .i64 0), .lit (.int .i64 0), .lit (.bool false)]⟩
  | 146 => some ⟨10, .st [(0, 1), (1, 1), (2, 1), (3, 1), (4, 1), (5, 1), (6, 1), (7, 1), (8, 1), (9, 1)], [.lit (.int .i64 0), .lit (.int .i64 0), .lit (.int .i64 0), .lit (.int .i64 0), .lit (.int .i64 0), .lit (.int .i64 0), .lit (.int .i64 0), .lit (.int .i64 0), .lit (.int .i64 0), .lit (.bool false)]⟩
  | 147 => some ⟨21, .st [(0, 1), (1, 4), (5, 1), (6, 1), (7, 10), (17, 1), (18, 1), (19, 1), (20, 1)], [.lit (.bool false), .lit (.int .i64 0), .lit (.int .i64 0), .lit (.int .i64 0), .lit (.int .i64 0), .lit (.int .i64 0), .lit (.int .i64 0), .lit (.int .i64 0), .lit (.int .i64 0), .lit (.int .i64 0), .lit (.int .i64 0), .lit (.int .i64 0), .lit (.int .i64 0), .lit (.int .i64 0), .lit (.int .i64 0), .lit (.int .i64 0), .lit (.bool false), .lit (.int .i64 0), .lit (.int .i64 0), .lit (.int .i64 0), .lit (.int .i64 0)]⟩
  | 148 => some ⟨21, .st [(0, 1), (1, 4), (5, 1), (6, 1), (7, 10), (17, 1), (18, 1), (19, 1), (20, 1)], [.lit (.bool false), .lit (.int .i64 0), .lit (.int .i64 0), .lit (.int .i64 0), .lit (.int .i64 0), .lit (.int .i64 0), .lit (.int .i64 0), .lit (.int .i64 0), .lit (.int .i64 0), .lit (.int .i64 0), .lit (.int .i64 0), .lit (.int .i64 0), .lit (.int .i64 0), .lit (.int .i64 0), .lit (.int .i64 0), .lit (.int .i64 0), .lit (.bool false), .lit (.int .i64 0), .lit (.int .i64 0), .lit (.int .i64 0), .lit (.int .i64 0)]⟩
  | 149 => some ⟨1, .sl 144 4 32, [.sl 144 4]⟩
  | 150 => some ⟨1, .st [(0, 1)], [.sl 144 4]⟩
  | 151 => some ⟨1, .st [(0, 1)], [.sl 144 4]⟩
  | 158 => some ⟨7, .st [(0, 1), (1, 1), (2, 1), (3, 1), (4, 1), (5, 1), (6, 1)], [.lit (.int .i64 0), .lit (.int .i64 0), .lit (.int .i64 0), .lit (.int .i64 0), .lit (.int .i64 0), .lit (.int .i64 0), .lit (.int .i64 0)]⟩
  | 159 => some ⟨7, .st [(0, 1), (1, 1), (2, 1), (3, 1), (4, 1), (5, 1), (6, 1)], [.lit (.int .i64 0), .lit (.int .i64 0), .lit (.int .i64 0), .lit (.int .i64 0), .lit (.int .i64 0), .lit (.int .i64 0), .lit (.int .i64 0)]⟩
  | 166 => some ⟨1, .sl 331 3 24, [.sl 331 3]⟩
  | 167 => some ⟨2, .st [(0, 1), (1, 1)], [.lit (.bool false), .sl 331 3]⟩
  | 168 => some ⟨2, .st [(0, 1), (1, 1)], [.lit (.bool false), .sl 331 3]⟩
  | 169 => some ⟨3, .st [(0, 1), (1, 1), (2, 1)], [.lit (.int .i64 0), .lit (.int .i64 0), .lit (.int .i64 0)]⟩
  | 170 => some ⟨3, .st [(0, 1), (1, 1), (2, 1)], [.lit (.int .i64 0), .lit (.int .i64 0), .lit (.int .i64 0)]⟩
  | 171 => some ⟨1, .sl 319 2 16, [.sl 319 2]⟩
  | 172 => some ⟨1, .sl 323 3 24, [.sl 323 3]⟩
  | 173 => some ⟨1, .sl 327 2 16, [.sl 327 2]⟩
  | 174 => some ⟨32, .st [(0, 1), (1, 2), (3, 1), (4, 1), (5, 1), (6, 1), (7, 1), (8, 1), (9, 1), (10, 1), (11, 3), (14, 1), (15, 1), (16, 10), (26, 1), (27, 1), (28, 1), (29, 1), (30, 1), (31, 1)], [.lit (.bool false), .lit (.bool false), .sl 331 3, .lit (.int .i64 0), .lit (.int .i64 0), .lit (.int .i64 0), .lit (.int .i64 0), .lit (.int .i64 0), .lit (.int .i64 0), .lit (.int .i64 0), .lit (.int .i64 0), .lit (.int .i64 0), .lit (.int .i64 0), .lit (.int .i64 0), .lit (.bool false), .lit (.int .i64 0), .lit (.int .i64 0), .lit (.int .i64 0), .lit (.int .i64 0), .lit (.int .i64 0), .lit (.int .i64 0), .lit (.int .i64 0), .lit (.int .i64 0), .lit (.int .i64 0), .lit (.int .i64 0), .lit (.bool false), .sl 319 2, .sl 323 3, .sl 327 2, .sl 3 1, .sl 3 1, .sl 3 1]⟩
  | 175 => some ⟨32, .st [(0, 1), (1, 2), (3, 1), (4, 1), (5, 1), (6, 1), (7, 1), (8, 1), (9, 1), (10, 1), (11, 3), (14, 1), (15, 1), (16, 10), (26, 1), (27, 1), (28, 1), (29, 1), (30, 1), (31, 1)], [.lit (.bool false), .lit (.bool false), .sl 331 3, .lit (.int .i64 0), .lit (.int .i64 0), .lit (.int .i64 0), .lit (.int .i64 0), .lit (.int .i64 0), .lit (.int .i64 0), .lit (.int .i64 0), .lit (.int .i64 0), .lit (.int .i64 0), .lit (.int .i64 0), .lit (.int .i64 0), .lit (.bool false), .lit (.int .i64 0), .lit (.int .i64 0), .lit (.int .i64 0), .lit (.int .i64 0), .lit (.int .i64 0), .lit (.int .i64 0), .lit (.int .i64 0), .lit (.int .i64 0), .lit (.int .i64 0), .lit (.int .i64 0), .lit (.bool false), .sl 319 2, .sl 323 3, .sl 327 2, .sl 3 1, .sl 3 1, .sl 3 1]⟩
  | 176 => some ⟨1, .sl 168 2 32, [.sl 168 2]⟩
  | 177 => some ⟨1, .st [(0, 1)], [.sl 168 2]⟩
  | 178 => some ⟨1, .st [(0, 1)], [.sl 168 2]⟩
  | 188 => some ⟨1, .sl 220 4 32, [.sl 220 4]⟩
  | 189 => some ⟨1, .st [(0, 1)], [.sl 220 4]⟩
  | 190 => some ⟨1, .st [(0, 1)], [.sl 220 4]⟩
  | 198 => some ⟨1, .st [(0, 1)], [.sl 3 1]⟩
  | 203 => some ⟨1, .sc, [.lit (.int .u64 0)]⟩
  | 208 => some ⟨1, .sl 277 2 16, [.sl 277 2]⟩
  | 209 => some ⟨1, .st [(0, 1)], [.sl 277 2]⟩
  | 210 => some ⟨1, .st [(0, 1)], [.sl 277 2]⟩
  | 220 => some ⟨4, .st [(0, 1), (1, 1), (2, 1), (3, 1)], [.lit (.int .i64 0), .lit (.int .i64 0), .lit (.int .i64 0), .lit (.int .i64 0)]⟩
  | 221 => some ⟨10, .st [(0, 1), (1, 1), (2, 1), (3, 1), (4, 1), (5, 1), (6, 1), (7, 1), (8, 1), (9, 1)], [.lit (.int .i64 0), .lit (.int .i64 0), .lit (.int .i64 0), .lit (.int .i64 0), .lit (.int .i64 0), .lit (.int .i64 0), .lit (.int .i64 0), .lit (.int .i64 0), .lit (.int .i64 0), .lit (.bool false)]⟩
  | 222 => some ⟨21, .st [(0, 1), (1, 4), (5, 1), (6, 1), (7, 10), (17, 1), (18, 1), (19, 1), (20, 1)], [.lit (.bool false), .lit (.int .i64 0), .lit (.int .i64 0), .lit (.int .i64 0), .lit (.int .i64 0), .lit (.int .i64 0), .lit (.int .i64 0), .lit (.int .i64 0), .lit (.int .i64 0), .lit (.int .i64 0), .lit (.int .i64 0), .lit (.int .i64 0), .lit (.int .i64 0), .lit (.int .i64 0), .lit (.int .i64 0), .lit (.int .i64 0), .lit (.bool false), .lit (.int .i64 0), .lit (.int .i64 0), .lit (.int .i64 0), .lit (.int .i64 0)]⟩
  | 223 => some ⟨21, .st [(0, 1), (1, 4), (5, 1), (6, 1), (7, 10), (17, 1), (18, 1), (19, 1), (20, 1)], [.lit (.bool false), .lit (.int .i64 0), .lit (.int .i64 0), .lit (.int .i64 0), .lit (.int .i64 0), .lit (.int .i64 0), .lit (.int .i64 0), .lit (.int .i64 0), .lit (.int .i64 0), .lit (.int .i64 0), .lit (.int .i64 0), .lit (.int .i64 0), .lit (.int .i64 0), .lit (.int .i64 0), .lit (.int .i64 0), .lit (.int .i64 0), .lit (.bool false), .lit (.int .i64 0), .lit (.int .i64 0), .lit (.int .i64 0), .lit (.int .i64 0)]⟩
  | 225 => some ⟨7, .st [(0, 1), (1, 1), (2, 1), (3, 1), (4, 1), (5, 1), (6, 1)], [.lit (.int .i64 0), .lit (.int .i64 0), .lit (.int .i64 0), .lit (.int .i64 0), .lit (.int .i64 0), .lit (.int .i64 0), .lit (.int .i64 0)]⟩
  | 230 => some ⟨1, .sl 333 3 24, [.sl 333 3]⟩
  | 231 => some ⟨2, .st [(0, 1), (1, 1)], [.lit (.bool false), .sl 333 3]⟩
  | 232 => some ⟨2, .st [(0, 1), (1, 1)], [.lit (.bool false), .sl 333 3]⟩
  | 233 => some ⟨3, .st [(0, 1), (1, 1), (2, 1)], [.lit (.int .i64 0), .lit (.int .i64 0), .lit (.int .i64 0)]⟩
  | 234 => some ⟨1, .sl 321 2 16, [.sl 321 2]⟩
  | 235 => some ⟨1, .sl 325 3 24, [.sl 325 3]⟩
  | 236 => some ⟨1, .sl 329 2 16, [.sl 329 2]⟩
  | 237 => some ⟨32, .st [(0, 1), (1, 2), (3, 1), (4, 1), (5, 1), (6, 1), (7, 1), (8, 1), (9, 1), (10, 1), (11, 3), (14, 1), (15, 1), (16, 10), (26, 1), (27, 1), (28, 1), (29, 1), (30, 1), (31, 1)], [.lit (.bool false), .lit (.bool false), .sl 333 3, .lit (.int .i64 0), .lit (.int .i64 0), .lit (.int .i64 0), .lit (.int .i64 0), .lit (.int .i64 0), .lit (.int .i64 0), .lit (.int .i64 0), .lit (.int .i64 0), .lit (.int .i64 0), .lit (.int .i64 0), .lit (.int .i64 0), .lit (.bool false), .lit (.int .i64 0), .lit (.int .i64 0), .lit (.int .i64 0), .lit (.int .i64 0), .lit (.int .i64 0), .lit (.int .i64 0), .lit (.int .i64 0), .lit (.int .i64 0), .lit (.int .i64 0), .lit (.int .i64 0), .lit (.bool false), .sl 321 2, .sl 325 3, .sl 329 2, .sl 3 1, .sl 3 1, .sl 3 1]⟩
  | 238 => some ⟨32, .st [(0, 1), (1, 2), (3, 1), (4, 1), (5, 1), (6, 1), (7, 1), (8, 1), (9, 1), (10, 1), (11, 3), (14, 1), (15, 1), (16, 10), (26, 1), (27, 1), (28, 1), (29, 1), (30, 1), (31, 1)], [.lit (.bool false), .lit (.bool false), .sl 333 3, .lit (.int .i64 0), .lit (.int .i64 0), .lit (.int .i64 0), .lit (.int .i64 0), .lit (.int .i64 0), .lit (.int .i64 0), .lit (.int .i64 0), .lit (.int .i64 0), .lit (.int .i64 0), .lit (.int .i64 0), .lit (.int .i64 0), .lit (.bool false), .lit (.int .i64 0), .lit (.int .i64 0), .lit (.int .i64 0), .lit (.int .i64 0), .lit (.int .i64 0), .lit (.int .i64 0), .lit (.int .i64 0), .lit (.int .i64 0), .lit (.int .i64 0), .lit (.int .i64 0), .lit (.bool false), .sl 321 2, .sl 325 3, .sl 329 2, .sl 3 1, .sl 3 1, .sl 3 1]⟩
  | 240 => some ⟨1, .sl 232 2 32, [.sl 232 2]⟩
  | 241 => some ⟨1, .st [(0, 1)], [.sl 232 2]⟩
  | 242 => some ⟨1, .st [(0, 1)], [.sl 232 2]⟩
  | 244 => some ⟨6, .st [(0, 1), (1, 1), (2, 1), (3, 1), (4, 1), (5, 1)], [.lit (.int .i64 0), .lit (.int .i64 0), .lit (.int .i64 0), .lit (.int .i64 0), .sl 333 3, .sl 329 2]⟩
  | 245 => some ⟨6, .st [(0, 1), (1, 1), (2, 1), (3, 1), (4, 1), (5, 1)], [.lit (.int .i64 0), .lit (.int .i64 0), .lit (.int .i64 0), .lit (.int .i64 0), .sl 333 3, .sl 329 2]⟩
  | 246 => some ⟨3, .st [(0, 1), (1, 1), (2, 1)], [.lit (.int .i64 0), .lit (.int .i64 0), .lit (.int .i64 0)]⟩
  | 247 => some ⟨3, .st [(0, 1), (1, 1), (2, 1)], [.lit (.int .i64 0), .lit (.int .i64 0), .lit (.int .i64 0)]⟩
  | 249 => some ⟨3, .st [(0, 1), (1, 1), (2, 1)], [.lit (.int .i64 0), .lit (.int .i64 0), .lit (.int .i64 0)]⟩
  | 252 => some ⟨6, .st [(0, 1), (1, 1), (2, 1), (3, 1), (4, 1), (5, 1)], [.lit (.int .i64 0), .lit (.int .i64 0), .lit (.int .i64 0), .lit (.int .i64 0), .sl 331 3, .sl 327 2]⟩
  | 253 => some ⟨6, .st [(0, 1), (1, 1), (2, 1), (3, 1), (4, 1), (5, 1)], [.lit (.int .i64 0), .lit (.int .i64 0), .lit (.int .i64 0), .lit (.int .i64 0), .sl 331 3, .sl 327 2]⟩
  | 263 => some ⟨24, .arr 24 4 1, [.lit (.bool false), .lit (.bool false), .lit (.bool false), .lit (.bool false), .lit (.bool false), .lit (.bool false), .lit (.bool false), .lit (.bool false), .lit (.bool false), .lit (.bool false), .lit (.bool false), .lit (.bool false), .lit (.bool false), .lit (.bool false), .lit (.bool false), .lit (.bool false), .lit (.bool false), .lit (.bool false), .lit (.bool false), .lit (.bool false), .lit (.bool false), .lit (.bool false), .lit (.bool false), .lit (.bool false)]⟩
  | 264 => some ⟨1, .sl 26 1 24, [.sl 26 1]⟩
  | 266 => some ⟨1, .sc, [.lit (.int .u32 0)]⟩
  | 269 => some ⟨1, .sc, [.lit (.int .u64 0)]⟩
  | 273 => some ⟨4, .st [(0, 1), (1, 1), (2, 1), (3, 1)], [.lit (.bool false), .lit (.int .i64 0), .lit (.bool false), .lit (.int .i64 0)]⟩
  | 274 => some ⟨4, .st [(0, 1), (1, 1), (2, 1), (3, 1)], [.lit (.bool false), .lit (.int .i64 0), .lit (.bool false), .lit (.int .i64 0)]⟩
  | 276 => some ⟨2, .st [(0, 1), (1, 1)], [.lit (.int .i64 0), .lit (.int .i64 0)]⟩
  | 277 => some ⟨2, .st [(0, 1), (1, 1)], [.lit (.int .i64 0), .lit (.int .i64 0)]⟩
  | 281 => some ⟨1, .sl 339 2 16, [.sl 339 2]⟩
  | 282 => some ⟨1, .st [(0, 1)], [.sl 339 2]⟩
  | 283 => some ⟨1, .st [(0, 1)], [.sl 339 2]⟩
  | 315 => some ⟨4, .st [(0, 1), (1, 1), (2, 1), (3, 1)], [.lit (.bool false), .lit (.int .i64 0), .lit (.bool false), .lit (.int .i64 0)]⟩
  | 318 => some ⟨2, .st [(0, 1), (1, 1)], [.lit (.int .i64 0), .lit (.int .i64 0)]⟩
  | 319 => some ⟨2, .st [(0, 1), (1, 1)], [.lit (.int .i64 0), .lit (.int .i64 0)]⟩
  | 321 => some ⟨2, .st [(0, 1), (1, 1)], [.lit (.int .i64 0), .lit (.int .i64 0)]⟩
  | 322 => some ⟨3, .st [(0, 1), (1, 1), (2, 1)], [.lit (.int .i64 0), .lit (.bool false), .lit (.int .i64 0)]⟩
  | 323 => some ⟨3, .st [(0, 1), (1, 1), (2, 1)], [.lit (.int .i64 0), .lit (.bool false), .lit (.int .i64 0)]⟩
  | 325 => some ⟨3, .st [(0, 1), (1, 1), (2, 1)], [.lit (.int .i64 0), .lit (.bool false), .lit (.int .i64 0)]⟩
  | 326 => some ⟨2, .st [(0, 1), (1, 1)], [.lit (.bool false), .lit (.int .i64 0)]⟩
  | 327 => some ⟨2, .st [(0, 1), (1, 1)], [.lit (.bool false), .lit (.int .i64 0)]⟩
  | 329 => some ⟨2, .st [(0, 1), (1, 1)], [.lit (.bool false), .lit (.int .i64 0)]⟩
  | 330 => some ⟨3, .st [(0, 1), (1, 1), (2, 1)], [.lit (.int .i64 0), .lit (.int .i64 0), .lit (.int .i64 0)]⟩
  | 331 => some ⟨3, .st [(0, 1), (1, 1), (2, 1)], [.lit (.int .i64 0), .lit (.int .i64 0), .lit (.int .i64 0)]⟩
  | 333 => some ⟨3, .st [(0, 1), (1, 1), (2, 1)], [.lit (.int .i64 0), .lit (.int .i64 0), .lit (.int .i64 0)]⟩
  | 339 => some ⟨2, .st [(0, 1), (1, 1)], [.lit (.int .i64 0), .lit (.int .i64 0)]⟩
  | 347 => some ⟨1, .sc, [.lit (.int .u8 0)]⟩
  | 348 => some ⟨1, .sc, [.lit (.int .u8 0)]⟩
  | 351 => some ⟨1, .sc, [.lit (.int .i32 0)]⟩
  | 352 => some ⟨1, .sc, [.lit (.int .i32 0)]⟩
  | _ => none
theorem tyF2 : TyF Try.prog 2 ⟨1, .sc, [.lit (.int .i64 0)]⟩ :=
  ⟨⟨_, _, (by kernel_rfl : Try.prog.info? 2 = some ((Try.prog.info? 2).get (by kernel_rfl))), by kernel_rfl, (by kernel_rfl : _ = some (((Try.prog.info? 2).get (by kernel_rfl)).zero.get (by kernel_rfl))), by kernel_rfl⟩, rfl, ⟨_, Try.underlying2, rfl⟩⟩
theorem tyF3 : TyF Try.prog 3 ⟨1, .sc, [.lit (.int .i64 0)]⟩ :=
  ⟨⟨_, _, (by kernel_rfl : Try.prog.info? 3 = some ((Try.prog.info? 3).get (by kernel_rfl))), by kernel_rfl, (by kernel_rfl : _ = some (((Try.prog.info? 3).get (by kernel_rfl)).zero.get (by kernel_rfl))), by kernel_rfl⟩, rfl, ⟨_, Try.underlying3, rfl⟩⟩
theorem tyF4 : TyF Try.prog 4 ⟨1, .sc, [.lit (.bool false)]⟩ :=
  ⟨⟨_, _, (by kernel_rfl : Try.prog.info? 4 = some ((Try.prog.info? 4).get (by kernel_rfl))), by kernel_rfl, (by kernel_rfl : _ = some (((Try.prog.info? 4).get (by kernel_rfl)).zero.get (by kernel_rfl))), by kernel_rfl⟩, rfl, ⟨_, Try.underlying4, rfl⟩⟩
theorem tyF5 : TyF Try.prog 5 ⟨1, .sc, [.lit (.int .u8 0)]⟩ :=
  ⟨⟨_, _, (by kernel_rfl : Try.prog.info? 5 = some ((Try.prog.info? 5).get (by kernel_rfl))), by kernel_rfl, (by kernel_rfl : _ = some (((Try.prog.info? 5).get (by kernel_rfl)).zero.get (by kernel_rfl))), by kernel_rfl⟩, rfl, ⟨_, Try.underlying5, rfl⟩⟩
theorem tyF6 : TyF Try.prog 6 ⟨1, .sc, [.lit (.int .u8 0)]⟩ :=
  ⟨⟨_, _, (by kernel_rfl : Try.prog.info? 6 = some ((Try.prog.info? 6).get (by kernel_rfl))), by kernel_rfl, (by kernel_rfl : _ = some (((Try.prog.info? 6).get (by kernel_rfl)).zero.get (by kernel_rfl))), by kernel_rfl⟩, rfl, ⟨_, Try.underlying6, rfl⟩⟩
theorem tyF7 : TyF Try.prog 7 ⟨4, .st [(0, 1), (1, 1), (2, 1), (3, 1)], [.lit (.int .i64 0), .lit (.int .i64 0), .lit (.bool false), .lit (.int .u8 0)]⟩ :=
  ⟨⟨_, _, (by kernel_rfl : Try.prog.info? 7 = some ((Try.prog.info? 7).get (by kernel_rfl))), by kernel_rfl, (by kernel_rfl : _ = some (((Try.prog.info? 7).get (by kernel_rfl)).zero.get (by kernel_rfl))), by kernel_rfl⟩, rfl, ⟨_, Try.underlying7, by kernel_rfl, rfl⟩⟩
theorem tyF8 : TyF Try.prog 8 ⟨4, .st [(0, 1), (1, 1), (2, 1), (3, 1)], [.lit (.int .i64 0), .lit (.int .i64 0), .lit (.bool false), .lit (.int .u8 0)]⟩ :=
  ⟨⟨_, _, (by kernel_rfl : Try.prog.info? 8 = some ((Try.prog.info? 8).get (by kernel_rfl))), by kernel_rfl, (by kernel_rfl : _ = some (((Try.prog.info? 8).get (by kernel_rfl)).zero.get (by kernel_rfl))), by kernel_rfl⟩, rfl, ⟨_, Try.underlying8, by kernel_rfl, rfl⟩⟩
theorem tyF12 : TyF Try.prog 12 ⟨1, .sc, [.lit (.int .u64 0)]⟩ :=
  ⟨⟨_, _, (by kernel_rfl : Try.prog.info? 12 = some ((Try.prog.info? 12).get (by kernel_rfl))), by kernel_rfl, (by kernel_rfl : _ = some (((Try.prog.info? 12).get (by kernel_rfl)).zero.get (by kernel_rfl))), by kernel_rfl⟩, rfl, ⟨_, Try.underlying12, rfl⟩⟩
theorem tyF21 : TyF Try.prog 21 ⟨1, .sc, [.lit (.int .i32 0)]⟩ :=
  ⟨⟨_, _, (by kernel_rfl : Try.prog.info? 21 = some ((Try.prog.info? 21).get (by kernel_rfl))), by kernel_rfl, (by kernel_rfl : _ = some (((Try.prog.info? 21).get (by kernel_rfl)).zero.get (by kernel_rfl))), by kernel_rfl⟩, rfl, ⟨_, Try.underlying21, rfl⟩⟩
theorem tyF22 : TyF Try.prog 22 ⟨1, .sl 198 1 24, [.sl 198 1]⟩ :=
  ⟨⟨_, _, (by kernel_rfl : Try.prog.info? 22 = some ((Try.prog.info? 22).get (by kernel_rfl))), by kernel_rfl, (by kernel_rfl : _ = some (((Try.prog.info? 22).get (by kernel_rfl)).zero.get (by kernel_rfl))), by kernel_rfl⟩, rfl, ⟨Try.underlying22, _, _, (by kernel_rfl : Try.prog.info? 198 = some ((Try.prog.info? 198).get (by kernel_rfl))), by kernel_rfl, by kernel_rfl, (by kernel_rfl : _ = some (((Try.prog.info? 198).get (by kernel_rfl)).zero.get (by kernel_rfl))), by kernel_rfl, by decide, by kernel_rfl⟩⟩
theorem tyF23 : TyF Try.prog 23 ⟨2, .st [(0, 1), (1, 1)], [.sl 198 1, .sl 198 1]⟩ :=
  ⟨⟨_, _, (by kernel_rfl : Try.prog.info? 23 = some ((Try.prog.info? 23).get (by kernel_rfl))), by kernel_rfl, (by kernel_rfl : _ = some (((Try.prog.info? 23).get (by kernel_rfl)).zero.get (by kernel_rfl))), by kernel_rfl⟩, rfl, ⟨_, Try.underlying23, by kernel_rfl, rfl⟩⟩
theorem tyF24 : TyF Try.prog 24 ⟨2, .st [(0, 1), (1, 1)], [.sl 198 1, .sl 198 1]⟩ :=
  ⟨⟨_, _, (by kernel_rfl : Try.prog.info? 24 = some ((Try.prog.info? 24).get (by kernel_rfl))), by kernel_rfl, (by kernel_rfl : _ = some (((Try.prog.info? 24).get (by kernel_rfl)).zero.get (by kernel_rfl))), by kernel_rfl⟩, rfl, ⟨_, Try.underlying24, by kernel_rfl, rfl⟩⟩
theorem tyF26 : TyF Try.prog 26 ⟨1, .sl 115 1 24, [.sl 115 1]⟩ :=
  ⟨⟨_, _, (by kernel_rfl : Try.prog.info? 26 = some ((Try.prog.info? 26).get (by kernel_rfl))), by kernel_rfl, (by kernel_rfl : _ = some (((Try.prog.info? 26).get (by kernel_rfl)).zero.get (by kernel_rfl))), by kernel_rfl⟩, rfl, ⟨Try.underlying26, _, _, (by kernel_rfl : Try.prog.info? 115 = some ((Try.prog.info? 115).get (by kernel_rfl))), by kernel_rfl, by kernel_rfl, (by kernel_rfl : _ = some (((Try.prog.info? 115).get (by kernel_rfl)).zero.get (by kernel_rfl))), by kernel_rfl, by decide, by kernel_rfl⟩⟩
theorem tyF27 : TyF Try.prog 27 ⟨2, .st [(0, 1), (1, 1)], [.sl 115 1, .sl 115 1]⟩ :=
  ⟨⟨_, _, (by kernel_rfl : Try.prog.info? 27 = some ((Try.prog.info? 27).get (by kernel_rfl))), by kernel_rfl, (by kernel_rfl : _ = some (((Try.prog.info? 27).get (by kernel_rfl)).zero.get (by kernel_rfl))), by kernel_rfl⟩, rfl, ⟨_, Try.underlying27, by kernel_rfl, rfl⟩⟩
theorem tyF28 : TyF Try.prog 28 ⟨2, .st [(0, 1), (1, 1)], [.sl 115 1, .sl 115 1]⟩ :=
  ⟨⟨_, _, (by kernel_rfl : Try.prog.info? 28 = some ((Try.prog.info? 28).get (by kernel_rfl))), by kernel_rfl, (by kernel_rfl : _ = some (((Try.prog.info? 28).get (by kernel_rfl)).zero.get (by kernel_rfl))), by kernel_rfl⟩, rfl, ⟨_, Try.underlying28, by kernel_rfl, rfl⟩⟩
theorem tyF40 : TyF Try.prog 40 ⟨1, .sl 3 1 8, [.sl 3 1]⟩ :=
  ⟨⟨_, _, (by kernel_rfl : Try.prog.info? 40 = some ((Try.prog.info? 40).get (by kernel_rfl))), by kernel_rfl, (by kernel_rfl : _ = some (((Try.prog.info? 40).get (by kernel_rfl)).zero.get (by kernel_rfl))), by kernel_rfl⟩, rfl, ⟨Try.underlying40, _, _, (by kernel_rfl : Try.prog.info? 3 = some ((Try.prog.info? 3).get (by kernel_rfl))), by kernel_rfl, by kernel_rfl, (by kernel_rfl : _ = some (((Try.prog.info? 3).get (by kernel_rfl)).zero.get (by kernel_rfl))), by kernel_rfl, by decide, by kernel_rfl⟩⟩
theorem tyF41 : TyF Try.prog 41 ⟨2, .st [(0, 1), (1, 1)], [.sl 3 1, .sl 3 1]⟩ :=
  ⟨⟨_, _, (by kernel_rfl : Try.prog.info? 41 = some ((Try.prog.info? 41).get (by kernel_rfl))), by kernel_rfl, (by kernel_rfl : _ = some (((Try.prog.info? 41).get (by kernel_rfl)).zero.get (by kernel_rfl))), by kernel_rfl⟩, rfl, ⟨_, Try.underlying41, by kernel_rfl, rfl⟩⟩
theorem tyF42 : TyF Try.prog 42 ⟨2, .st [(0, 1), (1, 1)], [.sl 3 1, .sl 3 1]⟩ :=
  ⟨⟨_, _, (by kernel_rfl : Try.prog.info? 42 = some ((Try.prog.info? 42).get (by kernel_rfl))), by kernel_rfl, (by kernel_rfl : _ = some (((Try.prog.info? 42).get (by kernel_rfl)).zero.get (by kernel_rfl))), by kernel_rfl⟩, rfl, ⟨_, Try.underlying42, by kernel_rfl, rfl⟩⟩
theorem tyF47 : TyF Try.prog 47 ⟨4, .st [(0, 2), (2, 2)], [.sl 3 1, .sl 3 1, .sl 115 1, .sl 115 1]⟩ :=
  ⟨⟨_, _, (by kernel_rfl : Try.prog.info? 47 = some ((Try.prog.info? 47).get (by kernel_rfl))), by kernel_rfl, (by kernel_rfl : _ = some (((Try.prog.info? 47).get (by kernel_rfl)).zero.get (by kernel_rfl))), by kernel_rfl⟩, rfl, ⟨_, Try.underlying47, by kernel_rfl, rfl⟩⟩
theorem tyF48 : TyF Try.prog 48 ⟨4, .st [(0, 2), (2, 2)], [.sl 3 1, .sl 3 1, .sl 115 1, .sl 115 1]⟩ :=
  ⟨⟨_, _, (by kernel_rfl : Try.prog.info? 48 = some ((Try.prog.info? 48).get (by kernel_rfl))), by kernel_rfl, (by kernel_rfl : _ = some (((Try.prog.info? 48).get (by kernel_rfl)).zero.get (by kernel_rfl))), by kernel_rfl⟩, rfl, ⟨_, Try.underlying48, by kernel_rfl, rfl⟩⟩
theorem tyF52 : TyF Try.prog 52 ⟨1, .sl 274 4 32, [.sl 274 4]⟩ :=
  ⟨⟨_, _, (by kernel_rfl : Try.prog.info? 52 = some ((Try.prog.info? 52).get (by kernel_rfl))), by kernel_rfl, (by kernel_rfl : _ = some (((Try.prog.info? 52).get (by kernel_rfl)).zero.get (by kernel_rfl))), by kernel_rfl⟩, rfl, ⟨Try.underlying52, _, _, (by kernel_rfl : Try.prog.info? 274 = some ((Try.prog.info? 274).get (by kernel_rfl))), by kernel_rfl, by kernel_rfl, (by kernel_rfl : _ = some (((Try.prog.info? 274).get (by kernel_rfl)).zero.get (by kernel_rfl))), by kernel_rfl, by decide, by kernel_rfl⟩⟩
theorem tyF53 : TyF Try.prog 53 ⟨2, .st [(0, 1), (1, 1)], [.lit (.int .i64 0), .sl 274 4]⟩ :=
  ⟨⟨_, _, (by kernel_rfl : Try.prog.info? 53 = some ((Try.prog.info? 53).get (by kernel_rfl))), by kernel_rfl, (by kernel_rfl : _ = some (((Try.prog.info? 53).get (by kernel_rfl)).zero.get (by kernel_rfl))), by kernel_rfl⟩, rfl, ⟨_, Try.underlying53, by kernel_rfl, rfl⟩⟩
theorem tyF54 : TyF Try.prog 54 ⟨2, .st [(0, 1), (1, 1)], [.lit (.int .i64 0), .sl 274 4]⟩ :=
  ⟨⟨_, _, (by kernel_rfl : Try.prog.info? 54 = some ((Try.prog.info? 54).get (by kernel_rfl))), by kernel_rfl, (by kernel_rfl : _ = some (((Try.prog.info? 54).get (by kernel_rfl)).zero.get (by kernel_rfl))), by kernel_rfl⟩, rfl, ⟨_, Try.underlying54, by kernel_rfl, rfl⟩⟩
theorem tyF55 : TyF Try.prog 55 ⟨1, .sl 210 1 24, [.sl 210 1]⟩ :=
  ⟨⟨_, _, (by kernel_rfl : Try.prog.info? 55 = some ((Try.prog.info? 55).get (by kernel_rfl))), by kernel_rfl, (by kernel_rfl : _ = some (((Try.prog.info? 55).get (by kernel_rfl)).zero.get (by kernel_rfl))), by kernel_rfl⟩, rfl, ⟨Try.underlying55, _, _, (by kernel_rfl : Try.prog.info? 210 = some ((Try.prog.info? 210).get (by kernel_rfl))), by kernel_rfl, by kernel_rfl, (by kernel_rfl : _ = some (((Try.prog.info? 210).get (by kernel_rfl)).zero.get (by kernel_rfl))), by kernel_rfl, by decide, by kernel_rfl⟩⟩
theorem tyF56 : TyF Try.prog 56 ⟨8, .st [(0, 4), (4, 2), (6, 1), (7, 1)], [.sl 3 1, .sl 3 1, .sl 115 1, .sl 115 1, .lit (.int .i64 0), .sl 274 4, .sl 210 1, .sl 3 1]⟩ :=
  ⟨⟨_, _, (by kernel_rfl : Try.prog.info? 56 = some ((Try.prog.info? 56).get (by kernel_rfl))), by kernel_rfl, (by kernel_rfl : _ = some (((Try.prog.info? 56).get (by kernel_rfl)).zero.get (by kernel_rfl))), by kernel_rfl⟩, rfl, ⟨_, Try.underlying56, by kernel_rfl, rfl⟩⟩
theorem tyF57 : TyF Try.prog 57 ⟨8, .st [(0, 4), (4, 2), (6, 1), (7, 1)], [.sl 3 1, .sl 3 1, .sl 115 1, .sl 115 1, .lit (.int .i64 0), .sl 274 4, .sl 210 1, .sl 3 1]⟩ :=
  ⟨⟨_, _, (by kernel_rfl : Try.prog.info? 57 = some ((Try.prog.info? 57).get (by kernel_rfl))), by kernel_rfl, (by kernel_rfl : _ = some (((Try.prog.info? 57).get (by kernel_rfl)).zero.get (by kernel_rfl))), by kernel_rfl⟩, rfl, ⟨_, Try.underlying57, by kernel_rfl, rfl⟩⟩
theorem tyF61 : TyF Try.prog 61 ⟨2, .st [(0, 1), (1, 1)], [.sl 3 1, .sl 3 1]⟩ :=
  ⟨⟨_, _, (by kernel_rfl : Try.prog.info? 61 = some ((Try.prog.info? 61).get (by kernel_rfl))), by kernel_rfl, (by kernel_rfl : _ = some (((Try.prog.info? 61).get (by kernel_rfl)).zero.get (by kernel_rfl))), by kernel_rfl⟩, rfl, ⟨_, Try.underlying61, by kernel_rfl, rfl⟩⟩
theorem tyF62 : TyF Try.prog 62 ⟨4, .st [(0, 2), (2, 2)], [.sl 3 1, .sl 3 1, .sl 198 1, .sl 198 1]⟩ :=
  ⟨⟨_, _, (by kernel_rfl : Try.prog.info? 62 = some ((Try.prog.info? 62).get (by kernel_rfl))), by kernel_rfl, (by kernel_rfl : _ = some (((Try.prog.info? 62).get (by kernel_rfl)).zero.get (by kernel_rfl))), by kernel_rfl⟩, rfl, ⟨_, Try.underlying62, by kernel_rfl, rfl⟩⟩
theorem tyF63 : TyF Try.prog 63 ⟨4, .st [(0, 2), (2, 2)], [.sl 3 1, .sl 3 1, .sl 198 1, .sl 198 1]⟩ :=
  ⟨⟨_, _, (by kernel_rfl : Try.prog.info? 63 = some ((Try.prog.info? 63).get (by kernel_rfl))), by kernel_rfl, (by kernel_rfl : _ = some (((Try.prog.info? 63).get (by kernel_rfl)).zero.get (by kernel_rfl))), by kernel_rfl⟩, rfl, ⟨_, Try.underlying63, by kernel_rfl, rfl⟩⟩
theorem tyF64 : TyF Try.prog 64 ⟨1, .sl 315 4 32, [.sl 315 4]⟩ :=
  ⟨⟨_, _, (by kernel_rfl : Try.prog.info? 64 = some ((Try.prog.info? 64).get (by kernel_rfl))), by kernel_rfl, (by kernel_rfl : _ = some (((Try.prog.info? 64).get (by kernel_rfl)).zero.get (by kernel_rfl))), by kernel_rfl⟩, rfl, ⟨Try.underlying64, _, _, (by kernel_rfl : Try.prog.info? 315 = some ((Try.prog.info? 315).get (by kernel_rfl))), by kernel_rfl, by kernel_rfl, (by kernel_rfl : _ = some (((Try.prog.info? 315).get (by kernel_rfl)).zero.get (by kernel_rfl))), by kernel_rfl, by decide, by kernel_rfl⟩⟩
theorem tyF65 : TyF Try.prog 65 ⟨2, .st [(0, 1), (1, 1)], [.lit (.int .i64 0), .sl 315 4]⟩ :=
  ⟨⟨_, _, (by kernel_rfl : Try.prog.info? 65 = some ((Try.prog.info? 65).get (by kernel_rfl))), by kernel_rfl, (by kernel_rfl : _ = some (((Try.prog.info? 65).get (by kernel_rfl)).zero.get (by kernel_rfl))), by kernel_rfl⟩, rfl, ⟨_, Try.underlying65, by kernel_rfl, rfl⟩⟩
theorem tyF66 : TyF Try.prog 66 ⟨2, .st [(0, 1), (1, 1)], [.lit (.int .i64 0), .sl 315 4]⟩ :=
  ⟨⟨_, _, (by kernel_rfl : Try.prog.info? 66 = some ((Try.prog.info? 66).get (by kernel_rfl))), by kernel_rfl, (by kernel_rfl : _ = some (((Try.prog.info? 66).get (by kernel_rfl)).zero.get (by kernel_rfl))), by kernel_rfl⟩, rfl, ⟨_, Try.underlying66, by kernel_rfl, rfl⟩⟩
theorem tyF67 : TyF Try.prog 67 ⟨1, .sl 283 1 24, [.sl 283 1]⟩ :=
  ⟨⟨_, _, (by kernel_rfl : Try.prog.info? 67 = some ((Try.prog.info? 67).get (by kernel_rfl))), by kernel_rfl, (by kernel_rfl : _ = some (((Try.prog.info? 67).get (by kernel_rfl)).zero.get (by kernel_rfl))), by kernel_rfl⟩, rfl, ⟨Try.underlying67, _, _, (by kernel_rfl : Try.prog.info? 283 = some ((Try.prog.info? 283).get (by kernel_rfl))), by kernel_rfl, by kernel_rfl, (by kernel_rfl : _ = some (((Try.prog.info? 283).get (by kernel_rfl)).zero.get (by kernel_rfl))), by kernel_rfl, by decide, by kernel_rfl⟩⟩
theorem tyF68 : TyF Try.prog 68 ⟨8, .st [(0, 4), (4, 2), (6, 1), (7, 1)], [.sl 3 1, .sl 3 1, .sl 198 1, .sl 198 1, .lit (.int .i64 0), .sl 315 4, .sl 283 1, .sl 3 1]⟩ :=
  ⟨⟨_, _, (by kernel_rfl : Try.prog.info? 68 = some ((Try.prog.info? 68).get (by kernel_rfl))), by kernel_rfl, (by kernel_rfl : _ = some (((Try.prog.info? 68).get (by kernel_rfl)).zero.get (by kernel_rfl))), by kernel_rfl⟩, rfl, ⟨_, Try.underlying68, by kernel_rfl, rfl⟩⟩
theorem tyF69 : TyF Try.prog 69 ⟨8, .st [(0, 4), (4, 2), (6, 1), (7, 1)], [.sl 3 1, .sl 3 1, .sl 198 1, .sl 198 1, .lit (.int .i64 0), .sl 315 4, .sl 283 1, .sl 3 1]⟩ :=
  ⟨⟨_, _, (by kernel_rfl : Try.prog.info? 69 = some ((Try.prog.info? 69).get (by kernel_rfl))), by kernel_rfl, (by kernel_rfl : _ = some (((Try.prog.info? 69).get (by kernel_rfl)).zero.get (by kernel_rfl))), by kernel_rfl⟩, rfl, ⟨_, Try.underlying69, by kernel_rfl, rfl⟩⟩
theorem tyF70 : TyF Try.prog 70 ⟨1, .sl 223 21 168, [.sl 223 21]⟩ :=
  ⟨⟨_, _, (by kernel_rfl : Try.prog.info? 70 = some ((Try.prog.info? 70).get (by kernel_rfl))), by kernel_rfl, (by kernel_rfl : _ = some (((Try.prog.info? 70).get (by kernel_rfl)).zero.get (by kernel_rfl))), by kernel_rfl⟩, rfl, ⟨Try.underlying70, _, _, (by kernel_rfl : Try.prog.info? 223 = some ((Try.prog.info? 223).get (by kernel_rfl))), by kernel_rfl, by kernel_rfl, (by kernel_rfl : _ = some (((Try.prog.info? 223).get (by kernel_rfl)).zero.get (by kernel_rfl))), by kernel_rfl, by decide, by kernel_rfl⟩⟩
theorem tyF71 : TyF Try.prog 71 ⟨1, .sl 190 1 24, [.sl 190 1]⟩ :=
  ⟨⟨_, _, (by kernel_rfl : Try.prog.info? 71 = some ((Try.prog.info? 71).get (by kernel_rfl))), by kernel_rfl, (by kernel_rfl : _ = some (((Try.prog.info? 71).get (by kernel_rfl)).zero.get (by kernel_rfl))), by kernel_rfl⟩, rfl, ⟨Try.underlying71, _, _, (by kernel_rfl : Try.prog.info? 190 = some ((Try.prog.info? 190).get (by kernel_rfl))), by kernel_rfl, by kernel_rfl, (by kernel_rfl : _ = some (((Try.prog.info? 190).get (by kernel_rfl)).zero.get (by kernel_rfl))), by kernel_rfl, by decide, by kernel_rfl⟩⟩
theorem tyF72 : TyF Try.prog 72 ⟨1, .sl 225 7 56, [.sl 225 7]⟩ :=
  ⟨⟨_, _, (by kernel_rfl : Try.prog.info? 72 = some ((Try.prog.info? 72).get (by kernel_rfl))), by kernel_rfl, (by kernel_rfl : _ = some (((Try.prog.info? 72).get (by kernel_rfl)).zero.get (by kernel_rfl))), by kernel_rfl⟩, rfl, ⟨Try.underlying72, _, _, (by kernel_rfl : Try.prog.info? 225 = some ((Try.prog.info? 225).get (by kernel_rfl))), by kernel_rfl, by kernel_rfl, (by kernel_rfl : _ = some (((Try.prog.info? 225).get (by kernel_rfl)).zero.get (by kernel_rfl))), by kernel_rfl, by decide, by kernel_rfl⟩⟩
theorem tyF73 : TyF Try.prog 73 ⟨13, .st [(0, 8), (8, 1), (9, 1), (10, 1), (11, 1), (12, 1)], [.sl 3 1, .sl 3 1, .sl 198 1, .sl 198 1, .lit (.int .i64 0), .sl 315 4, .sl 283 1, .sl 3 1, .sl 3 1, .sl 223 21, .sl 190 1, .sl 225 7, .lit (.int .i64 0)]⟩ :=
  ⟨⟨_, _, (by kernel_rfl : Try.prog.info? 73 = some ((Try.prog.info? 73).get (by kernel_rfl))), by kernel_rfl, (by kernel_rfl : _ = some (((Try.prog.info? 73).get (by kernel_rfl)).zero.get (by kernel_rfl))), by kernel_rfl⟩, rfl, ⟨_, Try.underlying73, by kernel_rfl, rfl⟩⟩
theorem tyF74 : TyF Try.prog 74 ⟨13, .st [(0, 8), (8, 1), (9, 1), (10, 1), (11, 1), (12, 1)], [.sl 3 1, .sl 3 1, .sl 198 1, .sl 198 1, .lit (.int .i64 0), .sl 315 4, .sl 283 1, .sl 3 1, .sl 3 1, .sl 223 21, .sl 190 1, .sl 225 7, .lit (.int .i64 0)]⟩ :=
  ⟨⟨_, _, (by kernel_rfl : Try.prog.info? 74 = some ((Try.prog.info? 74).get (by kernel_rfl))), by kernel_rfl, (by kernel_rfl : _ = some (((Try.prog.info? 74).get (by kernel_rfl)).zero.get (by kernel_rfl))), by kernel_rfl⟩, rfl, ⟨_, Try.underlying74, by kernel_rfl, rfl⟩⟩
theorem tyF77 : TyF Try.prog 77 ⟨1, .sl 148 21 168, [.sl 148 21]⟩ :=
  ⟨⟨_, _, (by kernel_rfl : Try.prog.info? 77 = some ((Try.prog.info? 77).get (by kernel_rfl))), by kernel_rfl, (by kernel_rfl : _ = some (((Try.prog.info? 77).get (by kernel_rfl)).zero.get (by kernel_rfl))), by kernel_rfl⟩, rfl, ⟨Try.underlying77, _, _, (by kernel_rfl : Try.prog.info? 148 = some ((Try.prog.info? 148).get (by kernel_rfl))), by kernel_rfl, by kernel_rfl, (by kernel_rfl : _ = some (((Try.prog.info? 148).get (by kernel_rfl)).zero.get (by kernel_rfl))), by kernel_rfl, by decide, by kernel_rfl⟩⟩
theorem tyF78 : TyF Try.prog 78 ⟨1, .sl 151 1 24, [.sl 151 1]⟩ :=
  ⟨⟨_, _, (by kernel_rfl : Try.prog.info? 78 = some ((Try.prog.info? 78).get (by kernel_rfl))), by kernel_rfl, (by kernel_rfl : _ = some (((Try.prog.info? 78).get (by kernel_rfl)).zero.get (by kernel_rfl))), by kernel_rfl⟩, rfl, ⟨Try.underlying78, _, _, (by kernel_rfl : Try.prog.info? 151 = some ((Try.prog.info? 151).get (by kernel_rfl))), by kernel_rfl, by kernel_rfl, (by kernel_rfl : _ = some (((Try.prog.info? 151).get (by kernel_rfl)).zero.get (by kernel_rfl))), by kernel_rfl, by decide, by kernel_rfl⟩⟩
theorem tyF79 : TyF Try.prog 79 ⟨1, .sl 159 7 56, [.sl 159 7]⟩ :=
  ⟨⟨_, _, (by kernel_rfl : Try.prog.info? 79 = some ((Try.prog.info? 79).get (by kernel_rfl))), by kernel_rfl, (by kernel_rfl : _ = some (((Try.prog.info? 79).get (by kernel_rfl)).zero.get (by kernel_rfl))), by kernel_rfl⟩, rfl, ⟨Try.underlying79, _, _, (by kernel_rfl : Try.prog.info? 159 = some ((Try.prog.info? 159).get (by kernel_rfl))), by kernel_rfl, by kernel_rfl, (by kernel_rfl : _ = some (((Try.prog.info? 159).get (by kernel_rfl)).zero.get (by kernel_rfl))), by kernel_rfl, by decide, by kernel_rfl⟩⟩
theorem tyF80 : TyF Try.prog 80 ⟨13, .st [(0, 8), (8, 1), (9, 1), (10, 1), (11, 1), (12, 1)], [.sl 3 1, .sl 3 1, .sl 115 1, .sl 115 1, .lit (.int .i64 0), .sl 274 4, .sl 210 1, .sl 3 1, .sl 3 1, .sl 148 21, .sl 151 1, .sl 159 7, .lit (.int .i64 0)]⟩ :=
  ⟨⟨_, _, (by kernel_rfl : Try.prog.info? 80 = some ((Try.prog.info? 80).get (by kernel_rfl))), by kernel_rfl, (by kernel_rfl : _ = some (((Try.prog.info? 80).get (by kernel_rfl)).zero.get (by kernel_rfl))), by kernel_rfl⟩, rfl, ⟨_, Try.underlying80, by kernel_rfl, rfl⟩⟩
theorem tyF81 : TyF Try.prog 81 ⟨13, .st [(0, 8), (8, 1), (9, 1), (10, 1), (11, 1), (12, 1)], [.sl 3 1, .sl 3 1, .sl 115 1, .sl 115 1, .lit (.int .i64 0), .sl 274 4, .sl 210 1, .sl 3 1, .sl 3 1, .sl 148 21, .sl 151 1, .sl 159 7, .lit (.int .i64 0)]⟩ :=
  ⟨⟨_, _, (by kernel_rfl : Try.prog.info? 81 = some ((Try.prog.info? 81).get (by kernel_rfl))), by kernel_rfl, (by kernel_rfl : _ = some (((Try.prog.info? 81).get (by kernel_rfl)).zero.get (by kernel_rfl))), by kernel_rfl⟩, rfl, ⟨_, Try.underlying81, by kernel_rfl, rfl⟩⟩
theorem tyF86 : TyF Try.prog 86 ⟨1, .sl 249 3 24, [.sl 249 3]⟩ :=
  ⟨⟨_, _, (by kernel_rfl : Try.prog.info? 86 = some ((Try.prog.info? 86).get (by kernel_rfl))), by kernel_rfl, (by kernel_rfl : _ = some (((Try.prog.info? 86).get (by kernel_rfl)).zero.get (by kernel_rfl))), by kernel_rfl⟩, rfl, ⟨Try.underlying86, _, _, (by kernel_rfl : Try.prog.info? 249 = some ((Try.prog.info? 249).get (by kernel_rfl))), by kernel_rfl, by kernel_rfl, (by kernel_rfl : _ = some (((Try.prog.info? 249).get (by kernel_rfl)).zero.get (by kernel_rfl))), by kernel_rfl, by decide, by kernel_rfl⟩⟩
theorem tyF87 : TyF Try.prog 87 ⟨1, .sl 238 32 368, [.sl 238 32]⟩ :=
  ⟨⟨_, _, (by kernel_rfl : Try.prog.info? 87 = some ((Try.prog.info? 87).get (by kernel_rfl))), by kernel_rfl, (by kernel_rfl : _ = some (((Try.prog.info? 87).get (by kernel_rfl)).zero.get (by kernel_rfl))), by kernel_rfl⟩, rfl, ⟨Try.underlying87, _, _, (by kernel_rfl : Try.prog.info? 238 = some ((Try.prog.info? 238).get (by kernel_rfl))), by kernel_rfl, by kernel_rfl, (by kernel_rfl : _ = some (((Try.prog.info? 238).get (by kernel_rfl)).zero.get (by kernel_rfl))), by kernel_rfl, by decide, by kernel_rfl⟩⟩
theorem tyF88 : TyF Try.prog 88 ⟨1, .sl 242 1 24, [.sl 242 1]⟩ :=
  ⟨⟨_, _, (by kernel_rfl : Try.prog.info? 88 = some ((Try.prog.info? 88).get (by kernel_rfl))), by kernel_rfl, (by kernel_rfl : _ = some (((Try.prog.info? 88).get (by kernel_rfl)).zero.get (by kernel_rfl))), by kernel_rfl⟩, rfl, ⟨Try.underlying88, _, _, (by kernel_rfl : Try.prog.info? 242 = some ((Try.prog.info? 242).get (by kernel_rfl))), by kernel_rfl, by kernel_rfl, (by kernel_rfl : _ = some (((Try.prog.info? 242).get (by kernel_rfl)).zero.get (by kernel_rfl))), by kernel_rfl, by decide, by kernel_rfl⟩⟩
theorem tyF89 : TyF Try.prog 89 ⟨1, .sl 245 6 80, [.sl 245 6]⟩ :=
  ⟨⟨_, _, (by kernel_rfl : Try.prog.info? 89 = some ((Try.prog.info? 89).get (by kernel_rfl))), by kernel_rfl, (by kernel_rfl : _ = some (((Try.prog.info? 89).get (by kernel_rfl)).zero.get (by kernel_rfl))), by kernel_rfl⟩, rfl, ⟨Try.underlying89, _, _, (by kernel_rfl : Try.prog.info? 245 = some ((Try.prog.info? 245).get (by kernel_rfl))), by kernel_rfl, by kernel_rfl, (by kernel_rfl : _ = some (((Try.prog.info? 245).get (by kernel_rfl)).zero.get (by kernel_rfl))), by kernel_rfl, by decide, by kernel_rfl⟩⟩
theorem tyF90 : TyF Try.prog 90 ⟨13, .st [(0, 8), (8, 1), (9, 1), (10, 1), (11, 1), (12, 1)], [.sl 3 1, .sl 3 1, .sl 198 1, .sl 198 1, .lit (.int .i64 0), .sl 315 4, .sl 283 1, .sl 3 1, .sl 249 3, .sl 238 32, .sl 242 1, .sl 245 6, .lit (.int .i64 0)]⟩ :=
  ⟨⟨_, _, (by kernel_rfl : Try.prog.info? 90 = some ((Try.prog.info? 90).get (by kernel_rfl))), by kernel_rfl, (by kernel_rfl : _ = some (((Try.prog.info? 90).get (by kernel_rfl)).zero.get (by kernel_rfl))), by kernel_rfl⟩, rfl, ⟨_, Try.underlying90, by kernel_rfl, rfl⟩⟩
theorem tyF91 : TyF Try.prog 91 ⟨13, .st [(0, 8), (8, 1), (9, 1), (10, 1), (11, 1), (12, 1)], [.sl 3 1, .sl 3 1, .sl 198 1, .sl 198 1, .lit (.int .i64 0), .sl 315 4, .sl 283 1, .sl 3 1, .sl 249 3, .sl 238 32, .sl 242 1, .sl 245 6, .lit (.int .i64 0)]⟩ :=
  ⟨⟨_, _, (by kernel_rfl : Try.prog.info? 91 = some ((Try.prog.info? 91).get (by kernel_rfl))), by kernel_rfl, (by kernel_rfl : _ = some (((Try.prog.info? 91).get (by kernel_rfl)).zero.get (by kernel_rfl))), by kernel_rfl⟩, rfl, ⟨_, Try.underlying91, by kernel_rfl, rfl⟩⟩
theorem tyF94 : TyF Try.prog 94 ⟨1, .sl 247 3 24, [.sl 247 3]⟩ :=
  ⟨⟨_, _, (by kernel_rfl : Try.prog.info? 94 = some ((Try.prog.info? 94).get (by kernel_rfl))), by kernel_rfl, (by kernel_rfl : _ = some (((Try.prog.info? 94).get (by kernel_rfl)).zero.get (by kernel_rfl))), by kernel_rfl⟩, rfl, ⟨Try.underlying94, _, _, (by kernel_rfl : Try.prog.info? 247 = some ((Try.prog.info? 247).get (by kernel_rfl))), by kernel_rfl, by kernel_rfl, (by kernel_rfl : _ = some (((Try.prog.info? 247).get (by kernel_rfl)).zero.get (by kernel_rfl))), by kernel_rfl, by decide, by kernel_rfl⟩⟩
theorem tyF95 : TyF Try.prog 95 ⟨1, .sl 175 32 368, [.sl 175 32]⟩ :=
  ⟨⟨_, _, (by kernel_rfl : Try.prog.info? 95 = some ((Try.prog.info? 95).get (by kernel_rfl))), by kernel_rfl, (by kernel_rfl : _ = some (((Try.prog.info? 95).get (by kernel_rfl)).zero.get (by kernel_rfl))), by kernel_rfl⟩, rfl, ⟨Try.underlying95, _, _, (by kernel_rfl : Try.prog.info? 175 = some ((Try.prog.info? 175).get (by kernel_rfl))), by kernel_rfl, by kernel_rfl, (by kernel_rfl : _ = some (((Try.prog.info? 175).get (by kernel_rfl)).zero.get (by kernel_rfl))), by kernel_rfl, by decide, by kernel_rfl⟩⟩
theorem tyF96 : TyF Try.prog 96 ⟨1, .sl 178 1 24, [.sl 178 1]⟩ :=
  ⟨⟨_, _, (by kernel_rfl : Try.prog.info? 96 = some ((Try.prog.info? 96).get (by kernel_rfl))), by kernel_rfl, (by kernel_rfl : _ = some (((Try.prog.info? 96).get (by kernel_rfl)).zero.get (by kernel_rfl))), by kernel_rfl⟩, rfl, ⟨Try.underlying96, _, _, (by kernel_rfl : Try.prog.info? 178 = some ((Try.prog.info? 178).get (by kernel_rfl))), by kernel_rfl, by kernel_rfl, (by kernel_rfl : _ = some (((Try.prog.info? 178).get (by kernel_rfl)).zero.get (by kernel_rfl))), by kernel_rfl, by decide, by kernel_rfl⟩⟩
theorem tyF97 : TyF Try.prog 97 ⟨1, .sl 253 6 80, [.sl 253 6]⟩ :=
  ⟨⟨_, _, (by kernel_rfl : Try.prog.info? 97 = some ((Try.prog.info? 97).get (by kernel_rfl))), by kernel_rfl, (by kernel_rfl : _ = some (((Try.prog.info? 97).get (by kernel_rfl)).zero.get (by kernel_rfl))), by kernel_rfl⟩, rfl, ⟨Try.underlying97, _, _, (by kernel_rfl : Try.prog.info? 253 = some ((Try.prog.info? 253).get (by kernel_rfl))), by kernel_rfl, by kernel_rfl, (by kernel_rfl : _ = some (((Try.prog.info? 253).get (by kernel_rfl)).zero.get (by kernel_rfl))), by kernel_rfl, by decide, by kernel_rfl⟩⟩
theorem tyF98 : TyF Try.prog 98 ⟨13, .st [(0, 8), (8, 1), (9, 1), (10, 1), (11, 1), (12, 1)], [.sl 3 1, .sl 3 1, .sl 115 1, .sl 115 1, .lit (.int .i64 0), .sl 274 4, .sl 210 1, .sl 3 1, .sl 247 3, .sl 175 32, .sl 178 1, .sl 253 6, .lit (.int .i64 0)]⟩ :=
  ⟨⟨_, _, (by kernel_rfl : Try.prog.info? 98 = some ((Try.prog.info? 98).get (by kernel_rfl))), by kernel_rfl, (by kernel_rfl : _ = some (((Try.prog.info? 98).get (by kernel_rfl)).zero.get (by kernel_rfl))), by kernel_rfl⟩, rfl, ⟨_, Try.underlying98, by kernel_rfl, rfl⟩⟩
theorem tyF99 : TyF Try.prog 99 ⟨13, .st [(0, 8), (8, 1), (9, 1), (10, 1), (11, 1), (12, 1)], [.sl 3 1, .sl 3 1, .sl 115 1, .sl 115 1, .lit (.int .i64 0), .sl 274 4, .sl 210 1, .sl 3 1, .sl 247 3, .sl 175 32, .sl 178 1, .sl 253 6, .lit (.int .i64 0)]⟩ :=
  ⟨⟨_, _, (by kernel_rfl : Try.prog.info? 99 = some ((Try.prog.info? 99).get (by kernel_rfl))), by kernel_rfl, (by kernel_rfl : _ = some (((Try.prog.info? 99).get (by kernel_rfl)).zero.get (by kernel_rfl))), by kernel_rfl⟩, rfl, ⟨_, Try.underlying99, by kernel_rfl, rfl⟩⟩
theorem tyF114 : TyF Try.prog 114 ⟨1, .st [(0, 1)], [.sl 3 1]⟩ :=
  ⟨⟨_, _, (by kernel_rfl : Try.prog.info? 114 = some ((Try.prog.info? 114).get (by kernel_rfl))), by kernel_rfl, (by kernel_rfl : _ = some (((Try.prog.info? 114).get (by kernel_rfl)).zero.get (by kernel_rfl))), by kernel_rfl⟩, rfl, ⟨_, Try.underlying114, by kernel_rfl, rfl⟩⟩
theorem tyF115 : TyF Try.prog 115 ⟨1, .st [(0, 1)], [.sl 3 1]⟩ :=
  ⟨⟨_, _, (by kernel_rfl : Try.prog.info? 115 = some ((Try.prog.info? 115).get (by kernel_rfl))), by kernel_rfl, (by kernel_rfl : _ = some (((Try.prog.info? 115).get (by kernel_rfl)).zero.get (by kernel_rfl))), by kernel_rfl⟩, rfl, ⟨_, Try.underlying115, by kernel_rfl, rfl⟩⟩
theorem tyF143 : TyF Try.prog 143 ⟨4, .st [(0, 1), (1, 1), (2, 1), (3, 1)], [.lit (.int .i64 0), .lit (.int .i64 0), .lit (.int .i64 0), .lit (.int .i64 0)]⟩ :=
  ⟨⟨_, _, (by kernel_rfl : Try.prog.info? 143 = some ((Try.prog.info? 143).get (by kernel_rfl))), by kernel_rfl, (by kernel_rfl : _ = some (((Try.prog.info? 143).get (by kernel_rfl)).zero.get (by kernel_rfl))), by kernel_rfl⟩, rfl, ⟨_, Try.underlying143, by kernel_rfl, rfl⟩⟩
theorem tyF144 : TyF Try.prog 144 ⟨4, .st [(0, 1), (1, 1), (2, 1), (3, 1)], [.lit (.int .i64 0), .lit (.int .i64 0), .lit (.int .i64 0), .lit (.int .i64 0)]⟩ :=
  ⟨⟨_, _, (by kernel_rfl : Try.prog.info? 144 = some ((Try.prog.info? 144).get (by kernel_rfl))), by kernel_rfl, (by kernel_rfl : _ = some (((Try.prog.info? 144).get (by kernel_rfl)).zero.get (by kernel_rfl))), by kernel_rfl⟩, rfl, ⟨_, Try.underlying144, by kernel_rfl, rfl⟩⟩
theorem tyF145 : TyF Try.prog 145 ⟨10, .st [(0, 1), (1, 1), (2, 1), (3, 1), (4, 1), (5, 1), (6, 1), (7, 1), (8, 1), (9, 1)], [.lit (.int .i64 0), .lit (.int .i64 0), .lit (.int .i64 0), .lit (.int .i64 0), .lit (.int .i64 0), .lit (.int .i64 0), .lit (.int .i64 0), .lit (.int .i64 0), .lit (.int .i64 0), .lit (.bool false)]⟩ :=
  ⟨⟨_, _, (by kernel_rfl : Try.prog.info? 145 = some ((Try.prog.info? 145).get (by kernel_rfl))), by kernel_rfl, (by kernel_rfl : _ = some (((Try.prog.info? 145).get (by kernel_rfl)).zero.get (by kernel_rfl))), by kernel_rfl⟩, rfl, ⟨_, Try.underlying145, by kernel_rfl, rfl⟩⟩
theorem tyF146 : TyF Try.prog 146 ⟨10, .st [(0, 1), (1, 1), (2, 1), (3, 1), (4, 1), (5, 1), (6, 1), (7, 1), (8, 1), (9, 1)], [.lit (.int .i64 0), .lit (.int .i64 0), .lit (.int .i64 0), .lit (.int .i64 0), .lit (.int .i64 0), .lit (.int .i64 0), .lit (.int .i64 0), .lit (.int .i64 0), .lit (.int .i64 0), .lit (.bool false)]⟩ :=
  ⟨⟨_, _, (by kernel_rfl : Try.prog.info? 146 = some ((Try.prog.info? 146).get (by kernel_rfl))), by kernel_rfl, (by kernel_rfl : _ = some (((Try.prog.info? 146).get (by kernel_rfl)).zero.get (by kernel_rfl))), by kernel_rfl⟩, rfl, ⟨_, Try.underlying146, by kernel_rfl, rfl⟩⟩
theorem tyF147 : TyF Try.prog 147 ⟨21, .st [(0, 1), (1, 4), (5, 1), (6, 1), (7, 10), (17, 1), (18, 1), (19, 1), (20, 1)], [.lit (.bool false), .lit (.int .i64 0), .lit (.int .i64 0), .lit (.int .i64 0), .lit (.int .i64 0), .lit (.int .i64 0), .lit (.int .i64 0), .lit (.int .i64 0), .lit (.int .i64 0), .lit (.int .i64 0), .lit (.int .i64 0), .lit (.int .i64 0), .lit (.int .i64 0), .lit (.int .i64 0), .lit (.int .i64 0), .lit (.int .i64 0), .lit (.bool false), .lit (.int .i64 0), .lit (.int .i64 0), .lit (.int .i64 0), .lit (.int .i64 0)]⟩ :=
  ⟨⟨_, _, (by kernel_rfl : Try.prog.info? 147 = some ((Try.prog.info? 147).get (by kernel_rfl))), by kernel_rfl, (by kernel_rfl : _ = some (((Try.prog.info? 147).get (by kernel_rfl)).zero.get (by kernel_rfl))), by kernel_rfl⟩, rfl, ⟨_, Try.underlying147, by kernel_rfl, rfl⟩⟩
theorem tyF148 : TyF Try.prog 148 ⟨21, .st [(0, 1), (1, 4), (5, 1), (6, 1), (7, 10), (17, 1), (18, 1), (19, 1), (20, 1)], [.lit (.bool false), .lit (.int .i64 0), .lit (.int .i64 0), .lit (.int .i64 0), .lit (.int .i64 0), .lit (.int .i64 0), .lit (.int .i64 0), .lit (.int .i64 0), .lit (.int .i64 0), .lit (.int .i64 0), .lit (.int .i64 0), .lit (.int .i64 0), .lit (.int .i64 0), .lit (.int .i64 0), .lit (.int .i64 0), .lit (.int .i64 0), .lit (.bool false), .lit (.int .i64 0), .lit (.int .i64 0), .lit (.int .i64 0), .lit (.int .i64 0)]⟩ :=
  ⟨⟨_, _, (by kernel_rfl : Try.prog.info? 148 = some ((Try.prog.info? 148).get (by kernel_rfl))), by kernel_rfl, (by kernel_rfl : _ = some (((Try.prog.info? 148).get (by kernel_rfl)).zero.get (by kernel_rfl))), by kernel_rfl⟩, rfl, ⟨_, Try.underlying148, by kernel_rfl, rfl⟩⟩
theorem tyF149 : TyF Try.prog 149 ⟨1, .sl 144 4 32, [.sl 144 4]⟩ :=
  ⟨⟨_, _, (by kernel_rfl : Try.prog.info? 149 = some ((Try.prog.info? 149).get (by kernel_rfl))), by kernel_rfl, (by kernel_rfl : _ = some (((Try.prog.info? 149).get (by kernel_rfl)).zero.get (by kernel_rfl))), by kernel_rfl⟩, rfl, ⟨Try.underlying149, _, _, (by kernel_rfl : Try.prog.info? 144 = some ((Try.prog.info? 144).get (by kernel_rfl))), by kernel_rfl, by kernel_rfl, (by kernel_rfl : _ = some (((Try.prog.info? 144).get (by kernel_rfl)).zero.get (by kernel_rfl))), by kernel_rfl, by decide, by kernel_rfl⟩⟩
theorem tyF150 : TyF Try.prog 150 ⟨1, .st [(0, 1)], [.sl 144 4]⟩ :=
  ⟨⟨_, _, (by kernel_rfl : Try.prog.info? 150 = some ((Try.prog.info? 150).get (by kernel_rfl))), by kernel_rfl, (by kernel_rfl : _ = some (((Try.prog.info? 150).get (by kernel_rfl)).zero.get (by kernel_rfl))), by kernel_rfl⟩, rfl, ⟨_, Try.underlying150, by kernel_rfl, rfl⟩⟩
theorem tyF151 : TyF Try.prog 151 ⟨1, .st [(0, 1)], [.sl 144 4]⟩ :=
  ⟨⟨_, _, (by kernel_rfl : Try.prog.info? 151 = some ((Try.prog.info? 151).get (by kernel_rfl))), by kernel_rfl, (by kernel_rfl : _ = some (((Try.prog.info? 151).get (by kernel_rfl)).zero.get (by kernel_rfl))), by kernel_rfl⟩, rfl, ⟨_, Try.underlying151, by kernel_rfl, rfl⟩⟩
theorem tyF158 : TyF Try.prog 158 ⟨7, .st [(0, 1), (1, 1), (2, 1), (3, 1), (4, 1), (5, 1), (6, 1)], [.lit (.int .i64 0), .lit (.int .i64 0), .lit (.int .i64 0), .lit (.int .i64 0), .lit (.int .i64 0), .lit (.int .i64 0), .lit (.int .i64 0)]⟩ :=
  ⟨⟨_, _, (by kernel_rfl : Try.prog.info? 158 = some ((Try.prog.info? 158).get (by kernel_rfl))), by kernel_rfl, (by kernel_rfl : _ = some (((Try.prog.info? 158).get (by kernel_rfl)).zero.get (by kernel_rfl))), by kernel_rfl⟩, rfl, ⟨_, Try.underlying158, by kernel_rfl, rfl⟩⟩
theorem tyF159 : TyF Try.prog 159 ⟨7, .st [(0, 1), (1, 1), (2, 1), (3, 1), (4, 1), (5, 1), (6, 1)], [.lit (.int .i64 0), .lit (.int .i64 0), .lit (.int .i64 0), .lit (.int .i64 0), .lit (.int .i64 0), .lit (.int .i64 0), .lit (.int .i64 0)]⟩ :=
  ⟨⟨_, _, (by kernel_rfl : Try.prog.info? 159 = some ((Try.prog.info? 159).get (by kernel_rfl))), by kernel_rfl, (by kernel_rfl : _ = some (((Try.prog.info? 159).get (by kernel_rfl)).zero.get (by kernel_rfl))), by kernel_rfl⟩, rfl, ⟨_, Try.underlying159, by kernel_rfl, rfl⟩⟩
theorem tyF166 : TyF Try.prog 166 ⟨1, .sl 331 3 24, [.sl 331 3]⟩ :=
  ⟨⟨_, _, (by kernel_rfl : Try.prog.info? 166 = some ((Try.prog.info? 166).get (by kernel_rfl))), by kernel_rfl, (by kernel_rfl : _ = some (((Try.prog.info? 166).get (by kernel_rfl)).zero.get (by kernel_rfl))), by kernel_rfl⟩, rfl, ⟨Try.underlying166, _, _, (by kernel_rfl : Try.prog.info? 331 = some ((Try.prog.info? 331).get (by kernel_rfl))), by kernel_rfl, by kernel_rfl, (by kernel_rfl : _ = some (((Try.prog.info? 331).get (by kernel_rfl)).zero.get (by kernel_rfl))), by kernel_rfl, by decide, by kernel_rfl⟩⟩
theorem tyF167 : TyF Try.prog 167 ⟨2, .st [(0, 1), (1, 1)], [.lit (.bool false), .sl 331 3]⟩ :=
  ⟨⟨_, _, (by kernel_rfl : Try.prog.info? 167 = some ((Try.prog.info? 167).get (by kernel_rfl))), by kernel_rfl, (by kernel_rfl : _ = some (((Try.prog.info? 167).get (by kernel_rfl)).zero.get (by kernel_rfl))), by kernel_rfl⟩, rfl, ⟨_, Try.underlying167, by kernel_rfl, rfl⟩⟩
theorem tyF168 : TyF Try.prog 168 ⟨2, .st [(0, 1), (1, 1)], [.lit (.bool false), .sl 331 3]⟩ :=
  ⟨⟨_, _, (by kernel_rfl : Try.prog.info? 168 = some ((Try.prog.info? 168).get (by kernel_rfl))), by kernel_rfl, (by kernel_rfl : _ = some (((Try.prog.info? 168).get (by kernel_rfl)).zero.get (by kernel_rfl))), by kernel_rfl⟩, rfl, ⟨_, Try.underlying168, by kernel_rfl, rfl⟩⟩
theorem tyF169 : TyF Try.prog 169 ⟨3, .st [(0, 1), (1, 1), (2, 1)], [.lit (.int .i64 0), .lit (.int .i64 0), .lit (.int .i64 0)]⟩ :=
  ⟨⟨_, _, (by kernel_rfl : Try.prog.info? 169 = some ((Try.prog.info? 169).get (by kernel_rfl))), by kernel_rfl, (by kernel_rfl : _ = some (((Try.prog.info? 169).get (by kernel_rfl)).zero.get (by kernel_rfl))), by kernel_rfl⟩, rfl, ⟨_, Try.underlying169, by kernel_rfl, rfl⟩⟩
theorem tyF170 : TyF Try.prog 170 ⟨3, .st [(0, 1), (1, 1), (2, 1)], [.lit (.int .i64 0), .lit (.int .i64 0), .lit (.int .i64 0)]⟩ :=
  ⟨⟨_, _, (by kernel_rfl : Try.prog.info? 170 = some ((Try.prog.info? 170).get (by kernel_rfl))), by kernel_rfl, (by kernel_rfl : _ = some (((Try.prog.info? 170).get (by kernel_rfl)).zero.get (by kernel_rfl))), by kernel_rfl⟩, rfl, ⟨_, Try.underlying170, by kernel_rfl, rfl⟩⟩
theorem tyF171 : TyF Try.prog 171 ⟨1, .sl 319 2 16, [.sl 319 2]⟩ :=
  ⟨⟨_, _, (by kernel_rfl : Try.prog.info? 171 = some ((Try.prog.info? 171).get (by kernel_rfl))), by kernel_rfl, (by kernel_rfl : _ = some (((Try.prog.info? 171).get (by kernel_rfl)).zero.get (by kernel_rfl))), by kernel_rfl⟩, rfl, ⟨Try.underlying171, _, _, (by kernel_rfl : Try.prog.info? 319 = some ((Try.prog.info? 319).get (by kernel_rfl))), by kernel_rfl, by kernel_rfl, (by kernel_rfl : _ = some (((Try.prog.info? 319).get (by kernel_rfl)).zero.get (by kernel_rfl))), by kernel_rfl, by decide, by kernel_rfl⟩⟩
theorem tyF172 : TyF Try.prog 172 ⟨1, .sl 323 3 24, [.sl 323 3]⟩ :=
  ⟨⟨_, _, (by kernel_rfl : Try.prog.info? 172 = some ((Try.prog.info? 172).get (by kernel_rfl))), by kernel_rfl, (by kernel_rfl : _ = some (((Try.prog.info? 172).get (by kernel_rfl)).zero.get (by kernel_rfl))), by kernel_rfl⟩, rfl, ⟨Try.underlying172, _, _, (by kernel_rfl : Try.prog.info? 323 = some ((Try.prog.info? 323).get (by kernel_rfl))), by kernel_rfl, by kernel_rfl, (by kernel_rfl : _ = some (((Try.prog.info? 323).get (by kernel_rfl)).zero.get (by kernel_rfl))), by kernel_rfl, by decide, by kernel_rfl⟩⟩
theorem tyF173 : TyF Try.prog 173 ⟨1, .sl 327 2 16, [.sl 327 2]⟩ :=
  ⟨⟨_, _, (by kernel_rfl : Try.prog.info? 173 = some ((Try.prog.info? 173).get (by kernel_rfl))), by kernel_rfl, (by kernel_rfl : _ = some (((Try.prog.info? 173).get (by kernel_rfl)).zero.get (by kernel_rfl))), by kernel_rfl⟩, rfl, ⟨Try.underlying173, _, _, (by kernel_rfl : Try.prog.info? 327 = some ((Try.prog.info? 327).get (by kernel_rfl))), by kernel_rfl, by kernel_rfl, (by kernel_rfl : _ = some (((Try.prog.info? 327).get (by kernel_rfl)).zero.get (by kernel_rfl))), by kernel_rfl, by decide, by kernel_rfl⟩⟩
theorem tyF174 : TyF Try.prog 174 ⟨32, .st [(0, 1), (1, 2), (3, 1), (4, 1), (5, 1), (6, 1), (7, 1), (8, 1), (9, 1), (10, 1), (11, 3), (14, 1), (15, 1), (16, 10), (26, 1), (27, 1), (28, 1), (29, 1), (30, 1), (31, 1)], [.lit (.bool false), .lit (.bool false), .sl 331 3, .lit (.int .i64 0), .lit (.int .i64 0), .lit (.int .i64 0), .lit (.int .i64 0), .lit (.int .i64 0), .lit (.int .i64 0), .lit (.int .i64 0), .lit (.int .i64 0), .lit (.int .i64 0), .lit (.int .i64 0), .lit (.int .i64 0), .lit (.bool false), .lit (.int .i64 0), .lit (.int .i64 0), .lit (.int .i64 0), .lit (.int .i64 0), .lit (.int .i64 0), .lit (.int .i64 0), .lit (.int .i64 0), .lit (.int .i64 0), .lit (.int .i64 0), .lit (.int .i64 0), .lit (.bool false), .sl 319 2, .sl 323 3, .sl 327 2, .sl 3 1, .sl 3 1, .sl 3 1]⟩ :=
  ⟨⟨_, _, (by kernel_rfl : Try.prog.info? 174 = some ((Try.prog.info? 174).get (by kernel_rfl))), by kernel_rfl, (by kernel_rfl : _ = some (((Try.prog.info? 174).get (by kernel_rfl)).zero.get (by kernel_rfl))), by kernel_rfl⟩, rfl, ⟨_, Try.underlying174, by kernel_rfl, rfl⟩⟩
theorem tyF175 : TyF Try.prog 175 ⟨32, .st [(0, 1), (1, 2), (3, 1), (4, 1), (5, 1), (6, 1), (7, 1), (8, 1), (9, 1), (10, 1), (11, 3), (14, 1), (15, 1), (16, 10), (26, 1), (27, 1), (28, 1), (29, 1), (30, 1), (31, 1)], [.lit (.bool false), .lit (.bool false), .sl 331 3, .lit (.int .i64 0), .lit (.int .i64 0), .lit (.int .i64 0), .lit (.int .i64 0), .lit (.int .i64 0), .lit (.int .i64 0), .lit (.int .i64 0), .lit (.int .i64 0), .lit (.int .i64 0), .lit (.int .i64 0), .lit (.int .i64 0), .lit (.bool false), .lit (.int .i64 0), .lit (.int .i64 0), .lit (.int .i64 0), .lit (.int .i64 0), .lit (.int .i64 0), .lit (.int .i64 0), .lit (.int .i64 0), .lit (.int .i64 0), .lit (.int .i64 0), .lit (.int .i64 0), .lit (.bool false), .sl 319 2, .sl 323 3, .sl 327 2, .sl 3 1, .sl 3 1, .sl 3 1]⟩ :=
  ⟨⟨_, _, (by kernel_rfl : Try.prog.info? 175 = some ((Try.prog.info? 175).get (by kernel_rfl))), by kernel_rfl, (by kernel_rfl : _ = some (((Try.prog.info? 175).get (by kernel_rfl)).zero.get (by kernel_rfl))), by kernel_rfl⟩, rfl, ⟨_, Try.underlying175, by kernel_rfl, rfl⟩⟩
theorem tyF176 : TyF Try.prog 176 ⟨1, .sl 168 2 32, [.sl 168 2]⟩ :=
  ⟨⟨_, _, (by kernel_rfl : Try.prog.info? 176 = some ((Try.prog.info? 176).get (by kernel_rfl))), by kernel_rfl, (by kernel_rfl : _ = some (((Try.prog.info? 176).get (by kernel_rfl)).zero.get (by kernel_rfl))), by kernel_rfl⟩, rfl, ⟨Try.underlying176, _, _, (by kernel_rfl : Try.prog.info? 168 = some ((Try.prog.info? 168).get (by kernel_rfl))), by kernel_rfl, by kernel_rfl, (by kernel_rfl : _ = some (((Try.prog.info? 168).get (by kernel_rfl)).zero.get (by kernel_rfl))), by kernel_rfl, by decide, by kernel_rfl⟩⟩
theorem tyF177 : TyF Try.prog 177 ⟨1, .st [(0, 1)], [.sl 168 2]⟩ :=
  ⟨⟨_, _, (by kernel_rfl : Try.prog.info? 177 = some ((Try.prog.info? 177).get (by kernel_rfl))), by kernel_rfl, (by kernel_rfl : _ = some (((Try.prog.info? 177).get (by kernel_rfl)).zero.get (by kernel_rfl))), by kernel_rfl⟩, rfl, ⟨_, Try.underlying177, by kernel_rfl, rfl⟩⟩
theorem tyF178 : TyF Try.prog 178 ⟨1, .st [(0, 1)], [.sl 168 2]⟩ :=
  ⟨⟨_, _, (by kernel_rfl : Try.prog.info? 178 = some ((Try.prog.info? 178).get (by kernel_rfl))), by kernel_rfl, (by kernel_rfl : _ = some (((Try.prog.info? 178).get (by kernel_rfl)).zero.get (by kernel_rfl))), by kernel_rfl⟩, rfl, ⟨_, Try.underlying178, by kernel_rfl, rfl⟩⟩
theorem tyF188 : TyF Try.prog 188 ⟨1, .sl 220 4 32, [.sl 220 4]⟩ :=
  ⟨⟨_, _, (by kernel_rfl : Try.prog.info? 188 = some ((Try.prog.info? 188).get (by kernel_rfl))), by kernel_rfl, (by kernel_rfl : _ = some (((Try.prog.info? 188).get (by kernel_rfl)).zero.get (by kernel_rfl))), by kernel_rfl⟩, rfl, ⟨Try.underlying188, _, _, (by kernel_rfl : Try.prog.info? 220 = some ((Try.prog.info? 220).get (by kernel_rfl))), by kernel_rfl, by kernel_rfl, (by kernel_rfl : _ = some (((Try.prog.info? 220).get (by kernel_rfl)).zero.get (by kernel_rfl))), by kernel_rfl, by decide, by kernel_rfl⟩⟩
theorem tyF189 : TyF Try.prog 189 ⟨1, .st [(0, 1)], [.sl 220 4]⟩ :=
  ⟨⟨_, _, (by kernel_rfl : Try.prog.info? 189 = some ((Try.prog.info? 189).get (by kernel_rfl))), by kernel_rfl, (by kernel_rfl : _ = some (((Try.prog.info? 189).get (by kernel_rfl)).zero.get (by kernel_rfl))), by kernel_rfl⟩, rfl, ⟨_, Try.underlying189, by kernel_rfl, rfl⟩⟩
theorem tyF190 : TyF Try.prog 190 ⟨1, .st [(0, 1)], [.sl 220 4]⟩ :=
  ⟨⟨_, _, (by kernel_rfl : Try.prog.info? 190 = some ((Try.prog.info? 190).get (by kernel_rfl))), by kernel_rfl, (by kernel_rfl : _ = some (((Try.prog.info? 190).get (by kernel_rfl)).zero.get (by kernel_rfl))), by kernel_rfl⟩, rfl, ⟨_, Try.underlying190, by kernel_rfl, rfl⟩⟩
theorem tyF198 : TyF Try.prog 198 ⟨1, .st [(0, 1)], [.sl 3 1]⟩ :=
  ⟨⟨_, _, (by kernel_rfl : Try.prog.info? 198 = some ((Try.prog.info? 198).get (by kernel_rfl))), by kernel_rfl, (by kernel_rfl : _ = some (((Try.prog.info? 198).get (by kernel_rfl)).zero.get (by kernel_rfl))), by kernel_rfl⟩, rfl, ⟨_, Try.underlying198, by kernel_rfl, rfl⟩⟩
theorem tyF203 : TyF Try.prog 203 ⟨1, .sc, [.lit (.int .u64 0)]⟩ :=
  ⟨⟨_, _, (by kernel_rfl : Try.prog.info? 203 = some ((Try.prog.info? 203).get (by kernel_rfl))), by kernel_rfl, (by kernel_rfl : _ = some (((Try.prog.info? 203).get (by kernel_rfl)).zero.get (by kernel_rfl))), by kernel_rfl⟩, rfl, ⟨_, Try.underlying203, rfl⟩⟩
theorem tyF208 : TyF Try.prog 208 ⟨1, .sl 277 2 16, [.sl 277 2]⟩ :=
  ⟨⟨_, _, (by kernel_rfl : Try.prog.info? 208 = some ((Try.prog.info? 208).get (by kernel_rfl))), by kernel_rfl, (by kernel_rfl : _ = some (((Try.prog.info? 208).get (by kernel_rfl)).zero.get (by kernel_rfl))), by kernel_rfl⟩, rfl, ⟨Try.underlying208, _, _, (by kernel_rfl : Try.prog.info? 277 = some ((Try.prog.info? 277).get (by kernel_rfl))), by kernel_rfl, by kernel_rfl, (by kernel_rfl : _ = some (((Try.prog.info? 277).get (by kernel_rfl)).zero.get (by kernel_rfl))), by kernel_rfl, by decide, by kernel_rfl⟩⟩
theorem tyF209 : TyF Try.prog 209 ⟨1, .st [(0, 1)], [.sl 277 2]⟩ :=
  ⟨⟨_, _, (by kernel_rfl : Try.prog.info? 209 = some ((Try.prog.info? 209).get (by kernel_rfl))), by kernel_rfl, (by kernel_rfl : _ = some (((Try.prog.info? 209).get (by kernel_rfl)).zero.get (by kernel_rfl))), by kernel_rfl⟩, rfl, ⟨_, Try.underlying209, by kernel_rfl, rfl⟩⟩
theorem tyF210 : TyF Try.prog 210 ⟨1, .st [(0, 1)], [.sl 277 2]⟩ :=
  ⟨⟨_, _, (by kernel_rfl : Try.prog.info? 210 = some ((Try.prog.info? 210).get (by kernel_rfl))), by kernel_rfl, (by kernel_rfl : _ = some (((Try.prog.info? 210).get (by kernel_rfl)).zero.get (by kernel_rfl))), by kernel_rfl⟩, rfl, ⟨_, Try.underlying210, by kernel_rfl, rfl⟩⟩
theorem tyF220 : TyF Try.prog 220 ⟨4, .st [(0, 1), (1, 1), (2, 1), (3, 1)], [.lit (.int .i64 0), .lit (.int .i64 0), .lit (.int .i64 0), .lit (.int .i64 0)]⟩ :=
  ⟨⟨_, _, (by kernel_rfl : Try.prog.info? 220 = some ((Try.prog.info? 220).get (by kernel_rfl))), by kernel_rfl, (by kernel_rfl : _ = some (((Try.prog.info? 220).get (by kernel_rfl)).zero.get (by kernel_rfl))), by kernel_rfl⟩, rfl, ⟨_, Try.underlying220, by kernel_rfl, rfl⟩⟩
theorem tyF221 : TyF Try.prog 221 ⟨10, .st [(0, 1), (1, 1), (2, 1), (3, 1), (4, 1), (5, 1), (6, 1), (7, 1), (8, 1), (9, 1)], [.lit (.int .i64 0), .lit (.int .i64 0), .lit (.int .i64 0), .lit (.int .i64 0), .lit (.int .i64 0), .lit (.int .i64 0), .lit (.int .i64 0), .lit (.int .i64 0), .lit (.int .i64 0), .lit (.bool false)]⟩ :=
  ⟨⟨_, _, (by kernel_rfl : Try.prog.info? 221 = some ((Try.prog.info? 221).get (by kernel_rfl))), by kernel_rfl, (by kernel_rfl : _ = some (((Try.prog.info? 221).get (by kernel_rfl)).zero.get (by kernel_rfl))), by kernel_rfl⟩, rfl, ⟨_, Try.underlying221, by kernel_rfl, rfl⟩⟩
theorem tyF222 : TyF Try.prog 222 ⟨21, .st [(0, 1), (1, 4), (5, 1), (6, 1), (7, 10), (17, 1), (18, 1), (19, 1), (20, 1)], [.lit (.bool false), .lit (.int .i64 0), .lit (.int .i64 0), .lit (.int .i64 0), .lit (.int .i64 0), .lit (.int .i64 0), .lit (.int .i64 0), .lit (.int .i64 0), .lit (.int .i64 0), .lit (.int .i64 0), .lit (.int .i64 0), .lit (.int .i64 0), .lit (.int .i64 0), .lit (.int .i64 0), .lit (.int .i64 0), .lit (.int .i64 0), .lit (.bool false), .lit (.int .i64 0), .lit (.int .i64 0), .lit (.int .i64 0), .lit (.int .i64 0)]⟩ :=
  ⟨⟨_, _, (by kernel_rfl : Try.prog.info? 222 = some ((Try.prog.info? 222).get (by kernel_rfl))), by kernel_rfl, (by kernel_rfl : _ = some (((Try.prog.info? 222).get (by kernel_rfl)).zero.get (by kernel_rfl))), by kernel_rfl⟩, rfl, ⟨_, Try.underlying222, by kernel_rfl, rfl⟩⟩
theorem tyF223 : TyF Try.prog 223 ⟨21, .st [(0, 1), (1, 4), (5, 1), (6, 1), (7, 10), (17, 1), (18, 1), (19, 1), (20, 1)], [.lit (.bool false), .lit (.int .i64 0), .lit (.int .i64 0), .lit (.int .i64 0), .lit (.int .i64 0), .lit (.int .i64 0), .lit (.int .i64 0), .lit (.int .i64 0), .lit (.int .i64 0), .lit (.int .i64 0), .lit (.int .i64 0), .lit (.int .i64 0), .lit (.int .i64 0), .lit (.int .i64 0), .lit (.int .i64 0), .lit (.int .i64 0), .lit (.bool false), .lit (.int .i64 0), .lit (.int .i64 0), .lit (.int .i64 0), .lit (.int .i64 0)]⟩ :=
  ⟨⟨_, _, (by kernel_rfl : Try.prog.info? 223 = some ((Try.prog.info? 223).get (by kernel_rfl))), by kernel_rfl, (by kernel_rfl : _ = some (((Try.prog.info? 223).get (by kernel_rfl)).zero.get (by kernel_rfl))), by kernel_rfl⟩, rfl, ⟨_, Try.underlying223, by kernel_rfl, rfl⟩⟩
theorem tyF225 : TyF Try.prog 225 ⟨7, .st [(0, 1), (1, 1), (2, 1), (3, 1), (4, 1), (5, 1), (6, 1)], [.lit (.int .i64 0), .lit (.int .i64 0), .lit (.int .i64 0), .lit (.int .i64 0), .lit (.int .i64 0), .lit (.int .i64 0), .lit (.int .i64 0)]⟩ :=
  ⟨⟨_, _, (by kernel_rfl : Try.prog.info? 225 = some ((Try.prog.info? 225).get (by kernel_rfl))), by kernel_rfl, (by kernel_rfl : _ = some (((Try.prog.info? 225).get (by kernel_rfl)).zero.get (by kernel_rfl))), by kernel_rfl⟩, rfl, ⟨_, Try.underlying225, by kernel_rfl, rfl⟩⟩
theorem tyF230 : TyF Try.prog 230 ⟨1, .sl 333 3 24, [.sl 333 3]⟩ :=
  ⟨⟨_, _, (by kernel_rfl : Try.prog.info? 230 = some ((Try.prog.info? 230).get (by kernel_rfl))), by kernel_rfl, (by kernel_rfl : _ = some (((Try.prog.info? 230).get (by kernel_rfl)).zero.get (by kernel_rfl))), by kernel_rfl⟩, rfl, ⟨Try.underlying230, _, _, (by kernel_rfl : Try.prog.info? 333 = some ((Try.prog.info? 333).get (by kernel_rfl))), by kernel_rfl, by kernel_rfl, (by kernel_rfl : _ = some (((Try.prog.info? 333).get (by kernel_rfl)).zero.get (by kernel_rfl))), by kernel_rfl, by decide, by kernel_rfl⟩⟩
theorem tyF231 : TyF Try.prog 231 ⟨2, .st [(0, 1), (1, 1)], [.lit (.bool false), .sl 333 3]⟩ :=
  ⟨⟨_, _, (by kernel_rfl : Try.prog.info? 231 = some ((Try.prog.info? 231).get (by kernel_rfl))), by kernel_rfl, (by kernel_rfl : _ = some (((Try.prog.info? 231).get (by kernel_rfl)).zero.get (by kernel_rfl))), by kernel_rfl⟩, rfl, ⟨_, Try.underlying231, by kernel_rfl, rfl⟩⟩
theorem tyF232 : TyF Try.prog 232 ⟨2, .st [(0, 1), (1, 1)], [.lit (.bool false), .sl 333 3]⟩ :=
  ⟨⟨_, _, (by kernel_rfl : Try.prog.info? 232 = some ((Try.prog.info? 232).get (by kernel_rfl))), by kernel_rfl, (by kernel_rfl : _ = some (((Try.prog.info? 232).get (by kernel_rfl)).zero.get (by kernel_rfl))), by kernel_rfl⟩, rfl, ⟨_, Try.underlying232, by kernel_rfl, rfl⟩⟩
theorem tyF233 : TyF Try.prog 233 ⟨3, .st [(0, 1), (1, 1), (2, 1)], [.lit (.int .i64 0), .lit (.int .i64 0), .lit (.int .i64 0)]⟩ :=
  ⟨⟨_, _, (by kernel_rfl : Try.prog.info? 233 = some ((Try.prog.info? 233).get (by kernel_rfl))), by kernel_rfl, (by kernel_rfl : _ = some (((Try.prog.info? 233).get (by kernel_rfl)).zero.get (by kernel_rfl))), by kernel_rfl⟩, rfl, ⟨_, Try.underlying233, by kernel_rfl, rfl⟩⟩
theorem tyF234 : TyF Try.prog 234 ⟨1, .sl 321 2 16, [.sl 321 2]⟩ :=
  ⟨⟨_, _, (by kernel_rfl : Try.prog.info? 234 = some ((Try.prog.info? 234).get (by kernel_rfl))), by kernel_rfl, (by kernel_rfl : _ = some (((Try.prog.info? 234).get (by kernel_rfl)).zero.get (by kernel_rfl))), by kernel_rfl⟩, rfl, ⟨Try.underlying234, _, _, (by kernel_rfl : Try.prog.info? 321 = some ((Try.prog.info? 321).get (by kernel_rfl))), by kernel_rfl, by kernel_rfl, (by kernel_rfl : _ = some (((Try.prog.info? 321).get (by kernel_rfl)).zero.get (by kernel_rfl))), by kernel_rfl, by decide, by kernel_rfl⟩⟩
theorem tyF235 : TyF Try.prog 235 ⟨1, .sl 325 3 24, [.sl 325 3]⟩ :=
  ⟨⟨_, _, (by kernel_rfl : Try.prog.info? 235 = some ((Try.prog.info? 235).get (by kernel_rfl))), by kernel_rfl, (by kernel_rfl : _ = some (((Try.prog.info? 235).get (by kernel_rfl)).zero.get (by kernel_rfl))), by kernel_rfl⟩, rfl, ⟨Try.underlying235, _, _, (by kernel_rfl : Try.prog.info? 325 = some ((Try.prog.info? 325).get (by kernel_rfl))), by kernel_rfl, by kernel_rfl, (by kernel_rfl : _ = some (((Try.prog.info? 325).get (by kernel_rfl)).zero.get (by kernel_rfl))), by kernel_rfl, by decide, by kernel_rfl⟩⟩
theorem tyF236 : TyF Try.prog 236 ⟨1, .sl 329 2 16, [.sl 329 2]⟩ :=
  ⟨⟨_, _, (by kernel_rfl : Try.prog.info? 236 = some ((Try.prog.info? 236).get (by kernel_rfl))), by kernel_rfl, (by kernel_rfl : _ = some (((Try.prog.info? 236).get (by kernel_rfl)).zero.get (by kernel_rfl))), by kernel_rfl⟩, rfl, ⟨Try.underlying236, _, _, (by kernel_rfl : Try.prog.info? 329 = some ((Try.prog.info? 329).get (by kernel_rfl))), by kernel_rfl, by kernel_rfl, (by kernel_rfl : _ = some (((Try.prog.info? 329).get (by kernel_rfl)).zero.get (by kernel_rfl))), by kernel_rfl, by decide, by kernel_rfl⟩⟩
theorem tyF237 : TyF Try.prog 237 ⟨32, .st [(0, 1), (1, 2), (3, 1), (4, 1), (5, 1), (6, 1), (7, 1), (8, 1), (9, 1), (10, 1), (11, 3), (14, 1), (15, 1), (16, 10), (26, 1), (27, 1), (28, 1), (29, 1), (30, 1), (31, 1)], [.lit (.bool false), .lit (.bool false), .sl 333 3, .lit (.int .i64 0), .lit (.int .i64 0), .lit (.int .i64 0), .lit (.int .i64 0), .lit (.int .i64 0), .lit (.int .i64 0), .lit (.int .i64 0), .lit (.int .i64 0), .lit (.int .i64 0), .lit (.int .i64 0), .lit (.int .i64 0), .lit (.bool false), .lit (.int .i64 0), .lit (.int .i64 0), .lit (.int .i64 0), .lit (.int .i64 0), .lit (.int .i64 0), .lit (.int .i64 0), .lit (.int .i64 0), .lit (.int .i64 0), .lit (.int .i64 0), .lit (.int .i64 0), .lit (.bool false), .sl 321 2, .sl 325 3, .sl 329 2, .sl 3 1, .sl 3 1, .sl 3 1]⟩ :=
  ⟨⟨_, _, (by kernel_rfl : Try.prog.info? 237 = some ((Try.prog.info? 237).get (by kernel_rfl))), by kernel_rfl, (by kernel_rfl : _ = some (((Try.prog.info? 237).get (by kernel_rfl)).zero.get (by kernel_rfl))), by kernel_rfl⟩, rfl, ⟨_, Try.underlying237, by kernel_rfl, rfl⟩⟩
theorem tyF238 : TyF Try.prog 238 ⟨32, .st [(0, 1), (1, 2), (3, 1), (4, 1), (5, 1), (6, 1), (7, 1), (8, 1), (9, 1), (10, 1), (11, 3), (14, 1), (15, 1), (16, 10), (26, 1), (27, 1), (28, 1), (29, 1), (30, 1), (31, 1)], [.lit (.bool false), .lit (.bool false), .sl 333 3, .lit (.int .i64 0), .lit (.int .i64 0), .lit (.int .i64 0), .lit (.int .i64 0), .lit (.int .i64 0), .lit (.int .i64 0), .lit (.int .i64 0), .lit (.int .i64 0), .lit (.int .i64 0), .lit (.int .i64 0), .lit (.int .i64 0), .lit (.bool false), .lit (.int .i64 0), .lit (.int .i64 0), .lit (.int .i64 0), .lit (.int .i64 0), .lit (.int .i64 0), .lit (.int .i64 0), .lit (.int .i64 0), .lit (.int .i64 0), .lit (.int .i64 0), .lit (.int .i64 0), .lit (.bool false), .sl 321 2, .sl 325 3, .sl 329 2, .sl 3 1, .sl 3 1, .sl 3 1]⟩ :=
  ⟨⟨_, _, (by kernel_rfl : Try.prog.info? 238 = some ((Try.prog.info? 238).get (by kernel_rfl))), by kernel_rfl, (by kernel_rfl : _ = some (((Try.prog.info? 238).get (by kernel_rfl)).zero.get (by kernel_rfl))), by kernel_rfl⟩, rfl, ⟨_, Try.underlying238, by kernel_rfl, rfl⟩⟩
theorem tyF240 : TyF Try.prog 240 ⟨1, .sl 232 2 32, [.sl 232 2]⟩ :=
  ⟨⟨_, _, (by kernel_rfl : Try.prog.info? 240 = some ((Try.prog.info? 240).get (by kernel_rfl))), by kernel_rfl, (by kernel_rfl : _ = some (((Try.prog.info? 240).get (by kernel_rfl)).zero.get (by kernel_rfl))), by kernel_rfl⟩, rfl, ⟨Try.underlying240, _, _, (by kernel_rfl : Try.prog.info? 232 = some ((Try.prog.info? 232).get (by kernel_rfl))), by kernel_rfl, by kernel_rfl, (by kernel_rfl : _ = some (((Try.prog.info? 232).get (by kernel_rfl)).zero.get (by kernel_rfl))), by kernel_rfl, by decide, by kernel_rfl⟩⟩
theorem tyF241 : TyF Try.prog 241 ⟨1, .st [(0, 1)], [.sl 232 2]⟩ :=
  ⟨⟨_, _, (by kernel_rfl : Try.prog.info? 241 = some ((Try.prog.info? 241).get (by kernel_rfl))), by kernel_rfl, (by kernel_rfl : _ = some (((Try.prog.info? 241).get (by kernel_rfl)).zero.get (by kernel_rfl))), by kernel_rfl⟩, rfl, ⟨_, Try.underlying241, by kernel_rfl, rfl⟩⟩
theorem tyF242 : TyF Try.prog 242 ⟨1, .st [(0, 1)], [.sl 232 2]⟩ :=
  ⟨⟨_, _, (by kernel_rfl : Try.prog.info? 242 = some ((Try.prog.info? 242).get (by kernel_rfl))), by kernel_rfl, (by kernel_rfl : _ = some (((Try.prog.info? 242).get (by kernel_rfl)).zero.get (by kernel_rfl))), by kernel_rfl⟩, rfl, ⟨_, Try.underlying242, by kernel_rfl, rfl⟩⟩
theorem tyF244 : TyF Try.prog 244 ⟨6, .st [(0, 1), (1, 1), (2, 1), (3, 1), (4, 1), (5, 1)], [.lit (.int .i64 0), .lit (.int .i64 0), .lit (.int .i64 0), .lit (.int .i64 0), .sl 333 3, .sl 329 2]⟩ :=
  ⟨⟨_, _, (by kernel_rfl : Try.prog.info? 244 = some ((Try.prog.info? 244).get (by kernel_rfl))), by kernel_rfl, (by kernel_rfl : _ = some (((Try.prog.info? 244).get (by kernel_rfl)).zero.get (by kernel_rfl))), by kernel_rfl⟩, rfl, ⟨_, Try.underlying244, by kernel_rfl, rfl⟩⟩
theorem tyF245 : TyF Try.prog 245 ⟨6, .st [(0, 1), (1, 1), (2, 1), (3, 1), (4, 1), (5, 1)], [.lit (.int .i64 0), .lit (.int .i64 0), .lit (.int .i64 0), .lit (.int .i64 0), .sl 333 3, .sl 329 2]⟩ :=
  ⟨⟨_, _, (by kernel_rfl : Try.prog.info? 245 = some ((Try.prog.info? 245).get (by kernel_rfl))), by kernel_rfl, (by kernel_rfl : _ = some (((Try.prog.info? 245).get (by kernel_rfl)).zero.get (by kernel_rfl))), by kernel_rfl⟩, rfl, ⟨_, Try.underlying245, by kernel_rfl, rfl⟩⟩
theorem tyF246 : TyF Try.prog 246 ⟨3, .st [(0, 1), (1, 1), (2, 1)], [.lit (.int .i64 0), .lit (.int .i64 0), .lit (.int .i64 0)]⟩ :=
  ⟨⟨_, _, (by kernel_rfl : Try.prog.info? 246 = some ((Try.prog.info? 246).get (by kernel_rfl))), by kernel_rfl, (by kernel_rfl : _ = some (((Try.prog.info? 246).get (by kernel_rfl)).zero.get (by kernel_rfl))), by kernel_rfl⟩, rfl, ⟨_, Try.underlying246, by kernel_rfl, rfl⟩⟩
theorem tyF247 : TyF Try.prog 247 ⟨3, .st [(0, 1), (1, 1), (2, 1)], [.lit (.int .i64 0), .lit (.int .i64 0), .lit (.int .i64 0)]⟩ :=
  ⟨⟨_, _, (by kernel_rfl : Try.prog.info? 247 = some ((Try.prog.info? 247).get (by kernel_rfl))), by kernel_rfl, (by kernel_rfl : _ = some (((Try.prog.info? 247).get (by kernel_rfl)).zero.get (by kernel_rfl))), by kernel_rfl⟩, rfl, ⟨_, Try.underlying247, by kernel_rfl, rfl⟩⟩
theorem tyF249 : TyF Try.prog 249 ⟨3, .st [(0, 1), (1, 1), (2, 1)], [.lit (.int .i64 0), .lit (.int .i64 0), .lit (.int .i64 0)]⟩ :=
  ⟨⟨_, _, (by kernel_rfl : Try.prog.info? 249 = some ((Try.prog.info? 249).get (by kernel_rfl))), by kernel_rfl, (by kernel_rfl : _ = some (((Try.prog.info? 249).get (by kernel_rfl)).zero.get (by kernel_rfl))), by kernel_rfl⟩, rfl, ⟨_, Try.underlying249, by kernel_rfl, rfl⟩⟩
theorem tyF252 : TyF Try.prog 252 ⟨6, .st [(0, 1), (1, 1), (2, 1), (3, 1), (4, 1), (5, 1)], [.lit (.int .i64 0), .lit (.int .i64 0), .lit (.int .i64 0), .lit (.int .i64 0), .sl 331 3, .sl 327 2]⟩ :=
  ⟨⟨_, _, (by kernel_rfl : Try.prog.info? 252 = some ((Try.prog.info? 252).get (by kernel_rfl))), by kernel_rfl, (by kernel_rfl : _ = some (((Try.prog.info? 252).get (by kernel_rfl)).zero.get (by kernel_rfl))), by kernel_rfl⟩, rfl, ⟨_, Try.underlying252, by kernel_rfl, rfl⟩⟩
theorem tyF253 : TyF Try.prog 253 ⟨6, .st [(0, 1), (1, 1), (2, 1), (3, 1), (4, 1), (5, 1)], [.lit (.int .i64 0), .lit (.int .i64 0), .lit (.int .i64 0), .lit (.int .i64 0), .sl 331 3, .sl 327 2]⟩ :=
  ⟨⟨_, _, (by kernel_rfl : Try.prog.info? 253 = some ((Try.prog.info? 253).get (by kernel_rfl))), by kernel_rfl, (by kernel_rfl : _ = some (((Try.prog.info? 253).get (by kernel_rfl)).zero.get (by kernel_rfl))), by kernel_rfl⟩, rfl, ⟨_, Try.underlying253, by kernel_rfl, rfl⟩⟩
theorem tyF263 : TyF Try.prog 263 ⟨24, .arr 24 4 1, [.lit (.bool false), .lit (.bool false), .lit (.bool false), .lit (.bool false), .lit (.bool false), .lit (.bool false), .lit (.bool false), .lit (.bool false), .lit (.bool false), .lit (.bool false), .lit (.bool false), .lit (.bool false), .lit (.bool false), .lit (.bool false), .lit (.bool false), .lit (.bool false), .lit (.bool false), .lit (.bool false), .lit (.bool false), .lit (.bool false), .lit (.bool false), .lit (.bool false), .lit (.bool false), .lit (.bool false)]⟩ :=
  ⟨⟨_, _, (by kernel_rfl : Try.prog.info? 263 = some ((Try.prog.info? 263).get (by kernel_rfl))), by kernel_rfl, (by kernel_rfl : _ = some (((Try.prog.info? 263).get (by kernel_rfl)).zero.get (by kernel_rfl))), by kernel_rfl⟩, rfl, ⟨Try.underlying263, _, (by kernel_rfl : Try.prog.info? 4 = some ((Try.prog.info? 4).get (by kernel_rfl))), by kernel_rfl⟩⟩
theorem tyF264 : TyF Try.prog 264 ⟨1, .sl 26 1 24, [.sl 26 1]⟩ :=
  ⟨⟨_, _, (by kernel_rfl : Try.prog.info? 264 = some ((Try.prog.info? 264).get (by kernel_rfl))), by kernel_rfl, (by kernel_rfl : _ = some (((Try.prog.info? 264).get (by kernel_rfl)).zero.get (by kernel_rfl))), by kernel_rfl⟩, rfl, ⟨Try.underlying264, _, _, (by kernel_rfl : Try.prog.info? 26 = some ((Try.prog.info? 26).get (by kernel_rfl))), by kernel_rfl, by kernel_rfl, (by kernel_rfl : _ = some (((Try.prog.info? 26).get (by kernel_rfl)).zero.get (by kernel_rfl))), by kernel_rfl, by decide, by kernel_rfl⟩⟩
theorem tyF266 : TyF Try.prog 266 ⟨1, .sc, [.lit (.int .u32 0)]⟩ :=
  ⟨⟨_, _, (by kernel_rfl : Try.prog.info? 266 = some ((Try.prog.info? 266).get (by kernel_rfl))), by kernel_rfl, (by kernel_rfl : _ = some (((Try.prog.info? 266).get (by kernel_rfl)).zero.get (by kernel_rfl))), by kernel_rfl⟩, rfl, ⟨_, Try.underlying266, rfl⟩⟩
theorem tyF269 : TyF Try.prog 269 ⟨1, .sc, [.lit (.int .u64 0)]⟩ :=
  ⟨⟨_, _, (by kernel_rfl : Try.prog.info? 269 = some ((Try.prog.info? 269).get (by kernel_rfl))), by kernel_rfl, (by kernel_rfl : _ = some (((Try.prog.info? 269).get (by kernel_rfl)).zero.get (by kernel_rfl))), by kernel_rfl⟩, rfl, ⟨_, Try.underlying269, rfl⟩⟩
theorem tyF273 : TyF Try.prog 273 ⟨4, .st [(0, 1), (1, 1), (2, 1), (3, 1)], [.lit (.bool false), .lit (.int .i64 0), .lit (.bool false), .lit (.int .i64 0)]⟩ :=
  ⟨⟨_, _, (by kernel_rfl : Try.prog.info? 273 = some ((Try.prog.info? 273).get (by kernel_rfl))), by kernel_rfl, (by kernel_rfl : _ = some (((Try.prog.info? 273).get (by kernel_rfl)).zero.get (by kernel_rfl))), by kernel_rfl⟩, rfl, ⟨_, Try.underlying273, by kernel_rfl, rfl⟩⟩
theorem tyF274 : TyF Try.prog 274 ⟨4, .st [(0, 1), (1, 1), (2, 1), (3, 1)], [.lit (.bool false), .lit (.int .i64 0), .lit (.bool false), .lit (.int .i64 0)]⟩ :=
  ⟨⟨_, _, (by kernel_rfl : Try.prog.info? 274 = some ((Try.prog.info? 274).get (by kernel_rfl))), by kernel_rfl, (by kernel_rfl : _ = some (((Try.prog.info? 274).get (by kernel_rfl)).zero.get (by kernel_rfl))), by kernel_rfl⟩, rfl, ⟨_, Try.underlying274, by kernel_rfl, rfl⟩⟩
theorem tyF276 : TyF Try.prog 276 ⟨2, .st [(0, 1), (1, 1)], [.lit (.int .i64 0), .lit (.int .i64 0)]⟩ :=
  ⟨⟨_, _, (by kernel_rfl : Try.prog.info? 276 = some ((Try.prog.info? 276).get (by kernel_rfl))), by kernel_rfl, (by kernel_rfl : _ = some (((Try.prog.info? 276).get (by kernel_rfl)).zero.get (by kernel_rfl))), by kernel_rfl⟩, rfl, ⟨_, Try.underlying276, by kernel_rfl, rfl⟩⟩
theorem tyF277 : TyF Try.prog 277 ⟨2, .st [(0, 1), (1, 1)], [.lit (.int .i64 0), .lit (.int .i64 0)]⟩ :=
  ⟨⟨_, _, (by kernel_rfl : Try.prog.info? 277 = some ((Try.prog.info? 277).get (by kernel_rfl))), by kernel_rfl, (by kernel_rfl : _ = some (((Try.prog.info? 277).get (by kernel_rfl)).zero.get (by kernel_rfl))), by kernel_rfl⟩, rfl, ⟨_, Try.underlying277, by kernel_rfl, rfl⟩⟩
theorem tyF281 : TyF Try.prog 281 ⟨1, .sl 339 2 16, [.sl 339 2]⟩ :=
  ⟨⟨_, _, (by kernel_rfl : Try.prog.info? 281 = some ((Try.prog.info? 281).get (by kernel_rfl))), by kernel_rfl, (by kernel_rfl : _ = some (((Try.prog.info? 281).get (by kernel_rfl)).zero.get (by kernel_rfl))), by kernel_rfl⟩, rfl, ⟨Try.underlying281, _, _, (by kernel_rfl : Try.prog.info? 339 = some ((Try.prog.info? 339).get (by kernel_rfl))), by kernel_rfl, by kernel_rfl, (by kernel_rfl : _ = some (((Try.prog.info? 339).get (by kernel_rfl)).zero.get (by kernel_rfl))), by kernel_rfl, by decide, by kernel_rfl⟩⟩
theorem tyF282 : TyF Try.prog 282 ⟨1, .st [(0, 1)], [.sl 339 2]⟩ :=
  ⟨⟨_, _, (by kernel_rfl : Try.prog.info? 282 = some ((Try.prog.info? 282).get (by kernel_rfl))), by kernel_rfl, (by kernel_rfl : _ = some (((Try.prog.info? 282).get (by kernel_rfl)).zero.get (by kernel_rfl))), by kernel_rfl⟩, rfl, ⟨_, Try.underlying282, by kernel_rfl, rfl⟩⟩
theorem tyF283 : TyF Try.prog 283 ⟨1, .st [(0, 1)], [.sl 339 2]⟩ :=
  ⟨⟨_, _, (by kernel_rfl : Try.prog.info? 283 = some ((Try.prog.info? 283).get (by kernel_rfl))), by kernel_rfl, (by kernel_rfl : _ = some (((Try.prog.info? 283).get (by kernel_rfl)).zero.get (by kernel_rfl))), by kernel_rfl⟩, rfl, ⟨_, Try.underlying283, by kernel_rfl, rfl⟩⟩
theorem tyF315 : TyF Try.prog 315 ⟨4, .st [(0, 1), (1, 1), (2, 1), (3, 1)], [.lit (.bool false), .lit (.int .i64 0), .lit (.bool false), .lit (.int .i64 0)]⟩ :=
  ⟨⟨_, _, (by kernel_rfl : Try.prog.info? 315 = some ((Try.prog.info? 315).get (by kernel_rfl))), by kernel_rfl, (by kernel_rfl : _ = some (((Try.prog.info? 315).get (by kernel_rfl)).zero.get (by kernel_rfl))), by kernel_rfl⟩, rfl, ⟨_, Try.underlying315, by kernel_rfl, rfl⟩⟩
theorem tyF318 : TyF Try.prog 318 ⟨2, .st [(0, 1), (1, 1)], [.lit (.int .i64 0), .lit (.int .i64 0)]⟩ :=
  ⟨⟨_, _, (by kernel_rfl : Try.prog.info? 318 = some ((Try.prog.info? 318).get (by kernel_rfl))), by kernel_rfl, (by kernel_rfl : _ = some (((Try.prog.info? 318).get (by kernel_rfl)).zero.get (by kernel_rfl))), by kernel_rfl⟩, rfl, ⟨_, Try.underlying318, by kernel_rfl, rfl⟩⟩
theorem tyF319 : TyF Try.prog 319 ⟨2, .st [(0, 1), (1, 1)], [.lit (.int .i64 0), .lit (.int .i64 0)]⟩ :=
  ⟨⟨_, _, (by kernel_rfl : Try.prog.info? 319 = some ((Try.prog.info? 319).get (by kernel_rfl))), by kernel_rfl, (by kernel_rfl : _ = some (((Try.prog.info? 319).get (by kernel_rfl)).zero.get (by kernel_rfl))), by kernel_rfl⟩, rfl, ⟨_, Try.underlying319, by kernel_rfl, rfl⟩⟩
theorem tyF321 : TyF Try.prog 321 ⟨2, .st [(0, 1), (1, 1)], [.lit (.int .i64 0), .lit (.int .i64 0)]⟩ :=
  ⟨⟨_, _, (by kernel_rfl : Try.prog.info? 321 = some ((Try.prog.info? 321).get (by kernel_rfl))), by kernel_rfl, (by kernel_rfl : _ = some (((Try.prog.info? 321).get (by kernel_rfl)).zero.get (by kernel_rfl))), by kernel_rfl⟩, rfl, ⟨_, Try.underlying321, by kernel_rfl, rfl⟩⟩
theorem tyF322 : TyF Try.prog 322 ⟨3, .st [(0, 1), (1, 1), (2, 1)], [.lit (.int .i64 0), .lit (.bool false), .lit (.int .i64 0)]⟩ :=
  ⟨⟨_, _, (by kernel_rfl : Try.prog.info? 322 = some ((Try.prog.info? 322).get (by kernel_rfl))), by kernel_rfl, (by kernel_rfl : _ = some (((Try.prog.info? 322).get (by kernel_rfl)).zero.get (by kernel_rfl))), by kernel_rfl⟩, rfl, ⟨_, Try.underlying322, by kernel_rfl, rfl⟩⟩
theorem tyF323 : TyF Try.prog 323 ⟨3, .st [(0, 1), (1, 1), (2, 1)], [.lit (.int .i64 0), .lit (.bool false), .lit (.int .i64 0)]⟩ :=
  ⟨⟨_, _, (by kernel_rfl : Try.prog.info? 323 = some ((Try.prog.info? 323).get (by kernel_rfl))), by kernel_rfl, (by kernel_rfl : _ = some (((Try.prog.info? 323).get (by kernel_rfl)).zero.get (by kernel_rfl))), by kernel_rfl⟩, rfl, ⟨_, Try.underlying323, by kernel_rfl, rfl⟩⟩
theorem tyF325 : TyF Try.prog 325 ⟨3, .st [(0, 1), (1, 1), (2, 1)], [.lit (.int .i64 0), .lit (.bool false), .lit (.int .i64 0)]⟩ :=
  ⟨⟨_, _, (by kernel_rfl : Try.prog.info? 325 = some ((Try.prog.info? 325).get (by kernel_rfl))), by kernel_rfl, (by kernel_rfl : _ = some (((Try.prog.info? 325).get (by kernel_rfl)).zero.get (by kernel_rfl))), by kernel_rfl⟩, rfl, ⟨_, Try.underlying325, by kernel_rfl, rfl⟩⟩
theorem tyF326 : TyF Try.prog 326 ⟨2, .st [(0, 1), (1, 1)], [.lit (.bool false), .lit (.int .i64 0)]⟩ :=
  ⟨⟨_, _, (by kernel_rfl : Try.prog.info? 326 = some ((Try.prog.info? 326).get (by kernel_rfl))), by kernel_rfl, (by kernel_rfl : _ = some (((Try.prog.info? 326).get (by kernel_rfl)).zero.get (by kernel_rfl))), by kernel_rfl⟩, rfl, ⟨_, Try.underlying326, by kernel_rfl, rfl⟩⟩
theorem tyF327 : TyF Try.prog 327 ⟨2, .st [(0, 1), (1, 1)], [.lit (.bool false), .lit (.int .i64 0)]⟩ :=
  ⟨⟨_, _, (by kernel_rfl : Try.prog.info? 327 = some ((Try.prog.info? 327).get (by kernel_rfl))), by kernel_rfl, (by kernel_rfl : _ = some (((Try.prog.info? 327).get (by kernel_rfl)).zero.get (by kernel_rfl))), by kernel_rfl⟩, rfl, ⟨_, Try.underlying327, by kernel_rfl, rfl⟩⟩
theorem tyF329 : TyF Try.prog 329 ⟨2, .st [(0, 1), (1, 1)], [.lit (.bool false), .lit (.int .i64 0)]⟩ :=
  ⟨⟨_, _, (by kernel_rfl : Try.prog.info? 329 = some ((Try.prog.info? 329).get (by kernel_rfl))), by kernel_rfl, (by kernel_rfl : _ = some (((Try.prog.info? 329).get (by kernel_rfl)).zero.get (by kernel_rfl))), by kernel_rfl⟩, rfl, ⟨_, Try.underlying329, by kernel_rfl, rfl⟩⟩
theorem tyF330 : TyF Try.prog 330 ⟨3, .st [(0, 1), (1, 1), (2, 1)], [.lit (.int .i64 0), .lit (.int .i64 0), .lit (.int .i64 0)]⟩ :=
  ⟨⟨_, _, (by kernel_rfl : Try.prog.info? 330 = some ((Try.prog.info? 330).get (by kernel_rfl))), by kernel_rfl, (by kernel_rfl : _ = some (((Try.prog.info? 330).get (by kernel_rfl)).zero.get (by kernel_rfl))), by kernel_rfl⟩, rfl, ⟨_, Try.underlying330, by kernel_rfl, rfl⟩⟩
theorem tyF331 : TyF Try.prog 331 ⟨3, .st [(0, 1), (1, 1), (2, 1)], [.lit (.int .i64 0), .lit (.int .i64 0), .lit (.int .i64 0)]⟩ :=
  ⟨⟨_, _, (by kernel_rfl : Try.prog.info? 331 = some ((Try.prog.info? 331).get (by kernel_rfl))), by kernel_rfl, (by kernel_rfl : _ = some (((Try.prog.info? 331).get (by kernel_rfl)).zero.get (by kernel_rfl))), by kernel_rfl⟩, rfl, ⟨_, Try.underlying331, by kernel_rfl, rfl⟩⟩
theorem tyF333 : TyF Try.prog 333 ⟨3, .st [(0, 1), (1, 1), (2, 1)], [.lit (.int .i64 0), .lit (.int .i64 0), .lit (.int .i64 0)]⟩ :=
  ⟨⟨_, _, (by kernel_rfl : Try.prog.info? 333 = some ((Try.prog.info? 333).get (by kernel_rfl))), by kernel_rfl, (by kernel_rfl : _ = some (((Try.prog.info? 333).get (by kernel_rfl)).zero.get (by kernel_rfl))), by kernel_rfl⟩, rfl, ⟨_, Try.underlying333, by kernel_rfl, rfl⟩⟩
theorem tyF339 : TyF Try.prog 339 ⟨2, .st [(0, 1), (1, 1)], [.lit (.int .i64 0), .lit (.int .i64 0)]⟩ :=
  ⟨⟨_, _, (by kernel_rfl : Try.prog.info? 339 = some ((Try.prog.info? 339).get (by kernel_rfl))), by kernel_rfl, (by kernel_rfl : _ = some (((Try.prog.info? 339).get (by kernel_rfl)).zero.get (by kernel_rfl))), by kernel_rfl⟩, rfl, ⟨_, Try.underlying339, by kernel_rfl, rfl⟩⟩
theorem tyF347 : TyF Try.prog 347 ⟨1, .sc, [.lit (.int .u8 0)]⟩ :=
  ⟨⟨_, _, (by kernel_rfl : Try.prog.info? 347 = some ((Try.prog.info? 347).get (by kernel_rfl))), by kernel_rfl, (by kernel_rfl : _ = some (((Try.prog.info? 347).get (by kernel_rfl)).zero.get (by kernel_rfl))), by kernel_rfl⟩, rfl, ⟨_, Try.underlying347, rfl⟩⟩
theorem tyF348 : TyF Try.prog 348 ⟨1, .sc, [.lit (.int .u8 0)]⟩ :=
  ⟨⟨_, _, (by kernel_rfl : Try.prog.info? 348 = some ((Try.prog.info? 348).get (by kernel_rfl))), by kernel_rfl, (by kernel_rfl : _ = some (((Try.prog.info? 348).get (by kernel_rfl)).zero.get (by kernel_rfl))), by kernel_rfl⟩, rfl, ⟨_, Try.underlying348, rfl⟩⟩
theorem tyF351 : TyF Try.prog 351 ⟨1, .sc, [.lit (.int .i32 0)]⟩ :=
  ⟨⟨_, _, (by kernel_rfl : Try.prog.info? 351 = some ((Try.prog.info? 351).get (by kernel_rfl))), by kernel_rfl, (by kernel_rfl : _ = some (((Try.prog.info? 351).get (by kernel_rfl)).zero.get (by kernel_rfl))), by kernel_rfl⟩, rfl, ⟨_, Try.underlying351, rfl⟩⟩
theorem tyF352 : TyF Try.prog 352 ⟨1, .sc, [.lit (.int .i32 0)]⟩ :=
  ⟨⟨_, _, (by kernel_rfl : Try.prog.info? 352 = some ((Try.prog.info? 352).get (by kernel_rfl))), by kernel_rfl, (by kernel_rfl : _ = some (((Try.prog.info? 352).get (by kernel_rfl)).zero.get (by kernel_rfl))), by kernel_rfl⟩, rfl, ⟨_, Try.underlying352, rfl⟩⟩
theorem tyOk : TOk Try.prog tyT := by
  intro t i h
  unfold tyT at h
  split at h
  · injection h with h; subst h; exact tyF2
  · injection h with h; subst h; exact tyF3
  · injection h with h; subst h; exact tyF4
  · injection h with h; subst h; exact tyF5
  · injection h with h; subst h; exact tyF6
  · injection h with h; subst h; exact tyF7
  · injection h with h; subst h; exact tyF8
  · injection h with h; subst h; exact tyF12
  · injection h with h; subst h; exact tyF21
  · injection h with h; subst h; exact tyF22
  · injection h with h; subst h; exact tyF23
  · injection h with h; subst h; exact tyF24
  · injection h with h; subst h; exact tyF26
  · injection h with h; subst h; exact tyF27
  · injection h with h; subst h; exact tyF28
  · injection h with h; subst h; exact tyF40
  · injection h with h; subst h; exact tyF41
  · injection h with h; subst h; exact tyF42
  · injection h with h; subst h; exact tyF47
  · injection h with h; subst h; exact tyF48
  · injection h with h; subst h; exact tyF52
  · injection h with h; subst h; exact tyF53
  · injection h with h; subst h; exact tyF54
  · injection h with h; subst h; exact tyF55
  · injection h with h; subst h; exact tyF56
  · injection h with h; subst h; exact tyF57
  · injection h with h; subst h; exact tyF61
  · injection h with h; subst h; exact tyF62
  · injection h with h; subst h; exact tyF63
  · injection h with h; subst h; exact tyF64
  · injection h with h; subst h; exact tyF65
  · injection h with h; subst h; exact tyF66
  · injection h with h; subst h; exact tyF67
  · injection h with h; subst h; exact tyF68
  · injection h with h; subst h; exact tyF69
  · injection h with h; subst h; exact tyF70
  · injection h with h; subst h; exact tyF71
  · injection h with h; subst h; exact tyF72
  · injection h with h; subst h; exact tyF73
  · injection h with h; subst h; exact tyF74
  · injection h with h; subst h; exact tyF77
  · injection h with h; subst h; exact tyF78
  · injection h with h; subst h; exact tyF79
  · injection h with h; subst h; exact tyF80
  · injection h with h; subst h; exact tyF81
  · injection h with h; subst h; exact tyF86
  · injection h with h; subst h; exact tyF87
  · injection h with h; subst h; exact tyF88
  · injection h with h; subst h; exact tyF89
  · injection h with h; subst h; exact tyF90
  · injection h with h; subst h; exact tyF91
  · injection h with h; subst h; exact tyF94
  · injection h with h; subst h; exact tyF95
  · injection h with h; subst h; exact tyF96
  · injection h with h; subst h; exact tyF97
  · injection h with h; subst h; exact tyF98
  · injection h with h; subst h; exact tyF99
  · injection h with h; subst h; exact tyF114
  · injection h with h; subst h; exact tyF115
  · injection h with h; subst h; exact tyF143
  · injection h with h; subst h; exact tyF144
  · injection h with h; subst h; exact tyF145
  · injection h with h; subst h; exact tyF146
  · injection h with h; subst h; exact tyF147
  · injection h with h; subst h; exact tyF148
  · injection h with h; subst h; exact tyF149
  · injection h with h; subst h; exact tyF150
  · injection h with h; subst h; exact tyF151
  · injection h with h; subst h; exact tyF158
  · injection h with h; subst h; exact tyF159
  · injection h with h; subst h; exact tyF166
  · injection h with h; subst h; exact tyF167
  · injection h with h; subst h; exact tyF168
  · injection h with h; subst h; exact tyF169
  · injection h with h; subst h; exact tyF170
  · injection h with h; subst h; exact tyF171
  · injection h with h; subst h; exact tyF172
  · injection h with h; subst h; exact tyF173
  · injection h with h; subst h; exact tyF174
  · injection h with h; subst h; exact tyF175
  · injection h with h; subst h; exact tyF176
  · injection h with h; subst h; exact tyF177
  · injection h with h; subst h; exact tyF178
  · injection h with h; subst h; exact tyF188
  · injection h with h; subst h; exact tyF189
  · injection h with h; subst h; exact tyF190
  · injection h with h; subst h; exact tyF198
  · injection h with h; subst h; exact tyF203
  · injection h with h; subst h; exact tyF208
  · injection h with h; subst h; exact tyF209
  · injection h with h; subst h; exact tyF210
  · injection h with h; subst h; exact tyF220
  · injection h with h; subst h; exact tyF221
  · injection h with h; subst h; exact tyF222
  · injection h with h; subst h; exact tyF223
  · injection h with h; subst h; exact tyF225
  · injection h with h; subst h; exact tyF230
  · injection h with h; subst h; exact tyF231
  · injection h with h; subst h; exact tyF232
  · injection h with h; subst h; exact tyF233
  · injection h with h; subst h; exact tyF234
  · injection h with h; subst h; exact tyF235
  · injection h with h; subst h; exact tyF236
  · injection h with h; subst h; exact tyF237
  · injection h with h; subst h; exact tyF238
  · injection h with h; subst h; exact tyF240
  · injection h with h; subst h; exact tyF241
  · injection h with h; subst h; exact tyF242
  · injection h with h; subst h; exact tyF244
  · injection h with h; subst h; exact tyF245
  · injection h with h; subst h; exact tyF246
  · injection h with h; subst h; exact tyF247
  · injection h with h; subst h; exact tyF249
  · injection h with h; subst h; exact tyF252
  · injection h with h; subst h; exact tyF253
  · injection h with h; subst h; exact tyF263
  · injection h with h; subst h; exact tyF264
  · injection h with h; subst h; exact tyF266
  · injection h with h; subst h; exact tyF269
  · injection h with h; subst h; exact tyF273
  · injection h with h; subst h; exact tyF274
  · injection h with h; subst h; exact tyF276
  · injection h with h; subst h; exact tyF277
  · injection h with h; subst h; exact tyF281
  · injection h with h; subst h; exact tyF282
  · injection h with h; subst h; exact tyF283
  · injection h with h; subst h; exact tyF315
  · injection h with h; subst h; exact tyF318
  · injection h with h; subst h; exact tyF319
  · injection h with h; subst h; exact tyF321
  · injection h with h; subst h; exact tyF322
  · injection h with h; subst h; exact tyF323
  · injection h with h; subst h; exact tyF325
  · injection h with h; subst h; exact tyF326
  · injection h with h; subst h; exact tyF327
  · injection h with h; subst h; exact tyF329
  · injection h with h; subst h; exact tyF330
  · injection h with h; subst h; exact tyF331
  · injection h with h; subst h; exact tyF333
  · injection h with h; subst h; exact tyF339
  · injection h with h; subst h; exact tyF347
  · injection h with h; subst h; exact tyF348
  · injection h with h; subst h; exact tyF351
  · injection h with h; subst h; exact tyF352
  · cases h
end Go.Proofs.Ytnclkdpocjhphaa

