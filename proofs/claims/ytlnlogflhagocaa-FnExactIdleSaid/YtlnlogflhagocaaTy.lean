/- The types of the program that the proofs speak of. -/
import Derived.Test.YtlnlogflhagocaaProg
import Derived.Test.YtlnlogflhagocaaTrc
import Derived.KernelRfl
namespace Go.Proofs.Ytlnlogflhagocaa
open Go Go.Tr
set_option linter.unusedVariables false
set_option linter.unusedSimpArgs false
set_option maxRecDepth 100000
def tyT : Nat → Option TyI
  | 2 => some ⟨1, .sc, [.lit (.int .i64 0)]⟩
  | 3 => some ⟨1, .sc, [.lit (.int .i64 0)]⟩
  | 4 => some ⟨1, .sc, [.lit (.bool false)]⟩
  | 5 => some ⟨1, .sc, [.lit (.int .u8 0)]⟩
  | 6 => some ⟨1, .sc, [.lit (.int .u8 0)]⟩
  | 7 => some ⟨4, .st [(0, 1), (1, 1), (2, 1), (3, 1)], [.lit (.int .i64 0), .lit (.int .i64 0), .lit (.bool false), .lit (.int .u8 0)]⟩
  | 8 => some ⟨4, .st [(0, 1), (1, 1), (2, 1), (3, 1)], [.lit (.int .i64 0), .lit (.int .i64 0), .lit (.bool false), .lit (.int .u8 0)]⟩
  | 12 => some ⟨1, .sc, [.lit (.int .u64 0)]⟩
  | 21 => some ⟨1, .sc, [.lit (.int .i32 0)]⟩
  | 22 => some ⟨1, .sl 3 1 8, [.sl 3 1]⟩
  | 23 => some ⟨2, .st [(0, 1), (1, 1)], [.sl 3 1, .sl 3 1]⟩
  | 24 => some ⟨2, .st [(0, 1), (1, 1)], [.sl 3 1, .sl 3 1]⟩
  | 25 => some ⟨1, .sl 340 1 24, [.sl 340 1]⟩
  | 26 => some ⟨2, .st [(0, 1), (1, 1)], [.sl 340 1, .sl 340 1]⟩
  | 27 => some ⟨2, .st [(0, 1), (1, 1)], [.sl 340 1, .sl 340 1]⟩
  | 28 => some ⟨4, .st [(0, 2), (2, 2)], [.sl 3 1, .sl 3 1, .sl 340 1, .sl 340 1]⟩
  | 29 => some ⟨4, .st [(0, 2), (2, 2)], [.sl 3 1, .sl 3 1, .sl 340 1, .sl 340 1]⟩
  | 30 => some ⟨1, .sl 312 4 32, [.sl 312 4]⟩
  | 31 => some ⟨2, .st [(0, 1), (1, 1)], [.lit (.int .i64 0), .sl 312 4]⟩
  | 32 => some ⟨2, .st [(0, 1), (1, 1)], [.lit (.int .i64 0), .sl 312 4]⟩
  | 33 => some ⟨1, .sl 256 1 24, [.sl 256 1]⟩
  | 34 => some ⟨8, .st [(0, 4), (4, 2), (6, 1), (7, 1)], [.sl 3 1, .sl 3 1, .sl 340 1, .sl 340 1, .lit (.int .i64 0), .sl 312 4, .sl 256 1, .sl 3 1]⟩
  | 35 => some ⟨8, .st [(0, 4), (4, 2), (6, 1), (7, 1)], [.sl 3 1, .sl 3 1, .sl 340 1, .sl 340 1, .lit (.int .i64 0), .sl 312 4, .sl 256 1, .sl 3 1]⟩
  | 36 => some ⟨1, .sl 193 21 168, [.sl 193 21]⟩
  | 37 => some ⟨1, .sl 131 1 24, [.sl 131 1]⟩
  | 38 => some ⟨1, .sl 195 7 56, [.sl 195 7]⟩
  | 39 => some ⟨13, .st [(0, 8), (8, 1), (9, 1), (10, 1), (11, 1), (12, 1)], [.sl 3 1, .sl 3 1, .sl 340 1, .sl 340 1, .lit (.int .i64 0), .sl 312 4, .sl 256 1, .sl 3 1, .sl 3 1, .sl 193 21, .sl 131 1, .sl 195 7, .lit (.int .i64 0)]⟩
  | 40 => some ⟨13, .st [(0, 8), (8, 1), (9, 1), (10, 1), (11, 1), (12, 1)], [.sl 3 1, .sl 3 1, .sl 340 1, .sl 340 1, .lit (.int .i64 0), .sl 312 4, .sl 256 1, .sl 3 1, .sl 3 1, .sl 193 21, .sl 131 1, .sl 195 7, .lit (.int .i64 0)]⟩
  | 43 => some ⟨2, .st [(0, 1), (1, 1)], [.sl 3 1, .sl 3 1]⟩
  | 44 => some ⟨1, .sl 318 1 24, [.sl 318 1]⟩
  | 45 => some ⟨2, .st [(0, 1), (1, 1)], [.sl 318 1, .sl 318 1]⟩
  | 46 => some ⟨2, .st [(0, 1), (1, 1)], [.sl 318 1, .sl 318 1]⟩
  | 47 => some ⟨4, .st [(0, 2), (2, 2)], [.sl 3 1, .sl 3 1, .sl 318 1, .sl 318 1]⟩
  | 48 => some ⟨4, .st [(0, 2), (2, 2)], [.sl 3 1, .sl 3 1, .sl 318 1, .sl 318 1]⟩
  | 49 => some ⟨1, .sl 270 4 32, [.sl 270 4]⟩
  | 50 => some ⟨2, .st [(0, 1), (1, 1)], [.lit (.int .i64 0), .sl 270 4]⟩
  | 51 => some ⟨2, .st [(0, 1), (1, 1)], [.lit (.int .i64 0), .sl 270 4]⟩
  | 52 => some ⟨1, .sl 213 1 24, [.sl 213 1]⟩
  | 53 => some ⟨8, .st [(0, 4), (4, 2), (6, 1), (7, 1)], [.sl 3 1, .sl 3 1, .sl 318 1, .sl 318 1, .lit (.int .i64 0), .sl 270 4, .sl 213 1, .sl 3 1]⟩
  | 54 => some ⟨8, .st [(0, 4), (4, 2), (6, 1), (7, 1)], [.sl 3 1, .sl 3 1, .sl 318 1, .sl 318 1, .lit (.int .i64 0), .sl 270 4, .sl 213 1, .sl 3 1]⟩
  | 55 => some ⟨1, .sl 114 21 168, [.sl 114 21]⟩
  | 56 => some ⟨1, .sl 117 1 24, [.sl 117 1]⟩
  | 57 => some ⟨1, .sl 125 7 56, [.sl 125 7]⟩
  | 58 => some ⟨13, .st [(0, 8), (8, 1), (9, 1), (10, 1), (11, 1), (12, 1)], [.sl 3 1, .sl 3 1, .sl 318 1, .sl 318 1, .lit (.int .i64 0), .sl 270 4, .sl 213 1, .sl 3 1, .sl 3 1, .sl 114 21, .sl 117 1, .sl 125 7, .lit (.int .i64 0)]⟩
  | 59 => some ⟨13, .st [(0, 8), (8, 1), (9, 1), (10, 1), (11, 1), (12, 1)], [.sl 3 1, .sl 3 1, .sl 318 1, .sl 318 1, .lit (.int .i64 0), .sl 270 4, .sl 213 1, .sl 3 1, .sl 3 1, .sl 114 21, .sl 117 1, .sl 125 7, .lit (.int .i64 0)]⟩
  | 77 => some ⟨1, .sl 229 3 24, [.sl 229 3]⟩
  | 78 => some ⟨1, .sl 221 32 368, [.sl 221 32]⟩
  | 79 => some ⟨1, .sl 225 1 24, [.sl 225 1]⟩
  | 80 => some ⟨1, .sl 170 6 80, [.sl 170 6]⟩
  | 81 => some ⟨13, .st [(0, 8), (8, 1), (9, 1), (10, 1), (11, 1), (12, 1)], [.sl 3 1, .sl 3 1, .sl 340 1, .sl 340 1, .lit (.int .i64 0), .sl 312 4, .sl 256 1, .sl 3 1, .sl 229 3, .sl 221 32, .sl 225 1, .sl 170 6, .lit (.int .i64 0)]⟩
  | 82 => some ⟨13, .st [(0, 8), (8, 1), (9, 1), (10, 1), (11, 1), (12, 1)], [.sl 3 1, .sl 3 1, .sl 340 1, .sl 340 1, .lit (.int .i64 0), .sl 312 4, .sl 256 1, .sl 3 1, .sl 229 3, .sl 221 32, .sl 225 1, .sl 170 6, .lit (.int .i64 0)]⟩
  | 85 => some ⟨1, .sl 227 3 24, [.sl 227 3]⟩
  | 86 => some ⟨1, .sl 156 32 368, [.sl 156 32]⟩
  | 87 => some ⟨1, .sl 159 1 24, [.sl 159 1]⟩
  | 88 => some ⟨1, .sl 174 6 80, [.sl 174 6]⟩
  | 89 => some ⟨13, .st [(0, 8), (8, 1), (9, 1), (10, 1), (11, 1), (12, 1)], [.sl 3 1, .sl 3 1, .sl 318 1, .sl 318 1, .lit (.int .i64 0), .sl 270 4, .sl 213 1, .sl 3 1, .sl 227 3, .sl 156 32, .sl 159 1, .sl 174 6, .lit (.int .i64 0)]⟩
  | 90 => some ⟨13, .st [(0, 8), (8, 1), (9, 1), (10, 1), (11, 1), (12, 1)], [.sl 3 1, .sl 3 1, .sl 318 1, .sl 318 1, .lit (.int .i64 0), .sl 270 4, .sl 213 1, .sl 3 1, .sl 227 3, .sl 156 32, .sl 159 1, .sl 174 6, .lit (.int .i64 0)]⟩
  | 95 => some ⟨1, .sl 179 2 16, [.sl 179 2]⟩
  | 109 => some ⟨4, .st [(0, 1), (1, 1), (2, 1), (3, 1)], [.lit (.int .i64 0), .lit (.int .i64 0), .lit (.int .i64 0), .lit (.int .i64 0)]⟩
  | 110 => some ⟨4, .st [(0, 1), (1, 1), (2, 1), (3, 1)], [.lit (.int .i64 0), .lit (.int .i64 0), .lit (.int .i64 0), .lit (.int .i64 0)]⟩
  | 111 => some ⟨10, .st [(0, 1), (1, 1), (2, 1), (3, 1), (4, 1), (5, 1), (6, 1), (7, 1), (8, 1), (9, 1)], [.lit (.int .i64 0), .lit (.int .i64 0), .lit (.int .i64 0), .lit (.int .i64 0), .lit (.int .i64 0), .lit (.int .i64 0), .lit (.int .i64 0), .lit (.int .i64 0), .lit (.int .i64 0), .lit (.bool false)]⟩
  | 112 => some ⟨10, .st [(0, 1), (1, 1), (2, 1), (3, 1), (4, 1), (5, 1), (6, 1), (7, 1), (8, 1), (9, 1)], [.lit (.int .i64 0), .lit (.int .i64 0), .lit (.int .i64 0), .lit (.int .i64 0), .lit (.int .i64 0), .lit (.int .i64 0), .lit (.int .i64 0), .lit (.int .i64 0), .lit (.int .i64 0), .lit (.bool false)]⟩
  | 113 => some ⟨21, .st [(0, 1), (1, 4), (5, 1), (6, 1), (7, 10), (17, 1), (18, 1), (19, 1), (20, 1)], [.lit (.bool false), .lit (.int .i64 0), .lit (.int .i64 0), .lit (.int .i64 0), .lit (.int .i64 0), .lit (.int .i64 0), .lit (.int .i64 0), .lit (.int .i64 0), .lit (.int .i64 0), .lit (.int .i64 0), .lit (.int .i64 0), .lit (.int .i64 0), .lit (.int .i64 0), .lit (.int .i64 0), .lit (.int .i64 0), .lit (.int .i64 0), .lit (.bool false), .lit (.int .i64 0), .lit (.int .i64 0), .lit (.int .i64 0), .lit (.int .i64 0)]⟩
  | 114 => some ⟨21, .st [(0, 1), (1, 4), (5, 1), (6, 1), (7, 10), (17, 1), (18, 1), (19, 1), (20, 1)], [.lit (.bool false), .lit (.int .i64 0), .lit (.int .i64 0), .lit (.int .i64 0), .lit (.int .i64 0), .lit (.int .i64 0), .lit (.int .i64 0), .lit (.int .i64 0), .lit (.int .i64 0), .lit (.int .i64 0), .lit (.int .i64 0), .lit (.int .i64 0), .lit (.int .i64 0), .lit (.int .i64 0), .lit (.int .i64 0), .lit (.int .i64 0), .lit (.bool false), .lit (.int .i64 0), .lit (.int .i64 0), .lit (.int .i64 0), .lit (.int .i64 0)]⟩
  | 115 => some ⟨1, .sl 110 4 32, [.sl 110 4]⟩
  | 116 => some ⟨1, .st [(0, 1)], [.sl 110 4]⟩
  | 117 => some ⟨1, .st [(0, 1)], [.sl 110 4]⟩
  | 124 => some ⟨7, .st [(0, 1), (1, 1), (2, 1), (3, 1), (4, 1), (5, 1), (6, 1)], [.lit (.int .i64 0), .lit (.int .i64 0), .lit (.int .i64 0), .lit (.int .i64 0), .lit (.int .i64 0), .lit (.int .i64 0), .lit (.int .i64 0)]⟩
  | 125 => some ⟨7, .st [(0, 1), (1, 1), (2, 1), (3, 1), (4, 1), (5, 1), (6, 1)], [.lit (.int .i64 0), .lit (.int .i64 0), .lit (.int .i64 0), .lit (.int .i64 0), .lit (.int .i64 0), .lit (.int .i64 0), .lit (.int .i64 0)]⟩
  | 129 => some ⟨1, .sl 190 4 32, [.sl 190 4]⟩
  | 130 => some ⟨1, .st [(0, 1)], [.sl 190 4]⟩
  | 131 => some ⟨1, .st [(0, 1)], [.sl 190 4]⟩
  | 140 => some ⟨1, .sl 143 2 16, [.sl 143 2]⟩
  | 142 => some ⟨2, .st [(0, 1), (1, 1)], [.lit (.int .i64 0), .lit (.int .i64 0)]⟩
  | 143 => some ⟨2, .st [(0, 1), (1, 1)], [.lit (.int .i64 0), .lit (.int .i64 0)]⟩
  | 147 => some ⟨1, .sl 247 3 24, [.sl 247 3]⟩
  | 148 => some ⟨2, .st [(0, 1), (1, 1)], [.lit (.bool false), .sl 247 3]⟩
  | 149 => some ⟨2, .st [(0, 1), (1, 1)], [.lit (.bool false), .sl 247 3]⟩
  | 150 => some ⟨3, .st [(0, 1), (1, 1), (2, 1)], [.lit (.int .i64 0), .lit (.int .i64 0), .lit (.int .i64 0)]⟩
  | 151 => some ⟨3, .st [(0, 1), (1, 1), (2, 1)], [.lit (.int .i64 0), .lit (.int .i64 0), .lit (.int .i64 0)]⟩
  | 152 => some ⟨1, .sl 323 2 16, [.sl 323 2]⟩
  | 153 => some ⟨1, .sl 327 3 24, [.sl 327 3]⟩
  | 154 => some ⟨1, .sl 249 2 16, [.sl 249 2]⟩
  | 155 => some ⟨32, .st [(0, 1), (1, 2), (3, 1), (4, 1), (5, 1), (6, 1), (7, 1), (8, 1), (9, 1), (10, 1), (11, 3), (14, 1), (15, 1), (16, 10), (26, 1), (27, 1), (28, 1), (29, 1), (30, 1), (31, 1)], [.lit (.bool false), .lit (.bool false), .sl 247 3, .lit (.int .i64 0), .lit (.int .i64 0), .lit (.int .i64 0), .lit (.int .i64 0), .lit (.int .i64 0), .lit (.int .i64 0), .lit (.int .i64 0), .lit (.int .i64 0), .lit (.int .i64 0), .lit (.int .i64 0), .lit (.int .i64 0), .lit (.bool false), .lit (.int .i64 0), .lit (.int .i64 0), .lit (.int .i64 0), .lit (.int .i64 0), .lit (.int .i64 0), .lit (.int .i64 0), .lit (.int .i64 0), .lit (.int .i64 0), .lit (.int .i64 0), .lit (.int .i64 0), .lit (.bool false), .sl 323 2, .sl 327 3, .sl 249 2, .sl 3 1, .sl 3 1, .sl 3 1]⟩
  | 156 => some ⟨32, .st [(0, 1), (1, 2), (3, 1), (4, 1), (5, 1), (6, 1), (7, 1), (8, 1), (9, 1), (10, 1), (11, 3), (14, 1), (15, 1), (16, 10), (26, 1), (27, 1), (28, 1), (29, 1), (30, 1), (31, 1)], [.lit (.bool false), .lit (.bool false), .sl 247 3, .lit (.int .i64 0), .lit (.int .i64 0), .lit (.int .i64 0), .lit (.int .i64 0), .lit (.int .i64 0), .lit (.int .i64 0), .lit (.int .i64 0), .lit (.int .i64 0), .lit (.int .i64 0), .lit (.int .i64 0), .lit (.int .i64 0), .lit (.bool false), .lit (.int .i64 0), .lit (.int .i64 0), .lit (.int .i64 0), .lit (.int .i64 0), .lit (.int .i64 0), .lit (.int .i64 0), .lit (.int .i64 0), .lit (.int .i64 0), .lit (.int .i64 0), .lit (.int .i64 0), .lit (.bool false), .sl 323 2, .sl 327 3, .sl 249 2, .sl 3 1, .sl 3 1, .sl 3 1]⟩
  | 157 => some ⟨1, .sl 149 2 32, [.sl 149 2]⟩
  | 158 => some ⟨1, .st [(0, 1)], [.sl 149 2]⟩
  | 159 => some ⟨1, .st [(0, 1)], [.sl 149 2]⟩
  | 167 => some ⟨1, .sl 298 3 24, [.sl 298 3]⟩
  | 168 => some ⟨1, .sl 300 2 16, [.sl 300 2]⟩
  | 169 => some ⟨6, .st [(0, 1), (1, 1), (2, 1), (3, 1), (4, 1), (5, 1)], [.lit (.int .i64 0), .lit (.int .i64 0), .lit (.int .i64 0), .lit (.int .i64 0), .sl 298 3, .sl 300 2]⟩
  | 170 => some ⟨6, .st [(0, 1), (1, 1), (2, 1), (3, 1), (4, 1), (5, 1)], [.lit (.int .i64 0), .lit (.int .i64 0), .lit (.int .i64 0), .lit (.int .i64 0), .sl 298 3, .sl 300 2]⟩
  | 173 => some ⟨6, .st [(0, 1), (1, 1), (2, 1), (3, 1), (4, 1), (5, 1)], [.lit (.int .i64 0), .lit (.int .i64 0), .lit (.int .i64 0), .lit (.int .i64 0), .sl 247 3, .sl 249 2]⟩
  | 174 => some ⟨6, .st [(0, 1), (1, 1), (2, 1), (3, 1), (4, 1), (5, 1)], [.lit (.int .i64 0), .lit (.int .i64 0), .lit (.int .i64 0), .lit (.int .i64 0), .sl 247 3, .sl 249 2]⟩
  | 178 => some ⟨2, .st [(0, 1), (1, 1)], [.lit (.int .i64 0), .lit (.int .i64 0)]⟩
  | 179 => some ⟨2, .st [(0, 1), (1, 1)], [.lit (.int .i64 0), .lit (.int .i64 0)]⟩
  | 190 => some ⟨4, .st [(0, 1), (1, 1), (2, 1), (3, 1)], [.lit (.int .i64 0), .lit (.int .i64 0), .lit (.int .i64 0), .lit (.int .i64 0)]⟩
  | 191 => some ⟨10, .st [(0, 1), (1, 1), (2, 1), (3, 1), (4, 1), (5, 1), (6, 1), (7, 1), (8, 1), (9, 1)], [.lit (.int .i64 0), .lit (.int .i64 0), .lit (.int .i64 0), .lit (.int .i64 0), .lit (.int .i64 0), .lit (.int .i64 0), .lit (.int .i64 0), .lit (.int .i64 0), .lit (.int .i64 0), .lit (.bool false)]⟩
  | 192 => some ⟨21, .st [(0, 1), (1, 4), (5, 1), (6, 1), (7, 10), (17, 1), (18, 1), (19, 1), (20, 1)], [.lit (.bool false), .lit (.int .i64 0), .lit (.int .i64 0), .lit (.int .i64 0), .lit (.int .i64 0), .lit (.int .i64 0), .lit (.int .i64 0), .lit (.int .i64 0), .lit (.int .i64 0), .lit (.int .i64 0), .lit (.int .i64 0), .lit (.int .i64 0), .lit (.int .i64 0), .lit (.int .i64 0), .lit (.int .i64 0), .lit (.int .i64 0), .lit (.bool false), .lit (.int .i64 0), .lit (.int .i64 0), .lit (.int .i64 0), .lit (.int .i64 0)]⟩
  | 193 => some ⟨21, .st [(0, 1), (1, 4), (5, 1), (6, 1), (7, 10), (17, 1), (18, 1), (19, 1), (20, 1)], [.lit (.bool false), .lit (.int .i64 0), .lit (.int .i64 0), .lit (.int .i64 0), .lit (.int .i64 0), .lit (.int .i64 0), .lit (.int .i64 0), .lit (.int .i64 0), .lit (.int .i64 0), .lit (.int .i64 0), .lit (.int .i64 0), .lit (.int .i64 0), .lit (.int .i64 0), .lit (.int .i64 0), .lit (.int .i64 0), .lit (.int .i64 0), .lit (.bool false), .lit (.int .i64 0), .lit (.int .i64 0), .lit (.int .i64 0), .lit (.int .i64 0)]⟩
  | 195 => some ⟨7, .st [(0, 1), (1, 1), (2, 1), (3, 1), (4, 1), (5, 1), (6, 1)], [.lit (.int .i64 0), .lit (.int .i64 0), .lit (.int .i64 0), .lit (.int .i64 0), .lit (.int .i64 0), .lit (.int .i64 0), .lit (.int .i64 0)]⟩
  | 212 => some ⟨1, .st [(0, 1)], [.sl 143 2]⟩
  | 213 => some ⟨1, .st [(0, 1)], [.sl 143 2]⟩
  | 215 => some ⟨2, .st [(0, 1), (1, 1)], [.lit (.bool false), .sl 298 3]⟩
  | 216 => some ⟨2, .st [(0, 1), (1, 1)], [.lit (.bool false), .sl 298 3]⟩
  | 217 => some ⟨3, .st [(0, 1), (1, 1), (2, 1)], [.lit (.int .i64 0), .lit (.int .i64 0), .lit (.int .i64 0)]⟩
  | 218 => some ⟨1, .sl 325 2 16, [.sl 325 2]⟩
  | 219 => some ⟨1, .sl 329 3 24, [.sl 329 3]⟩
  | 220 => some ⟨32, .st [(0, 1), (1, 2), (3, 1), (4, 1), (5, 1), (6, 1), (7, 1), (8, 1), (9, 1), (10, 1), (11, 3), (14, 1), (15, 1), (16, 10), (26, 1), (27, 1), (28, 1), (29, 1), (30, 1), (31, 1)], [.lit (.bool false), .lit (.bool false), .sl 298 3, .lit (.int .i64 0), .lit (.int .i64 0), .lit (.int .i64 0), .lit (.int .i64 0), .lit (.int .i64 0), .lit (.int .i64 0), .lit (.int .i64 0), .lit (.int .i64 0), .lit (.int .i64 0), .lit (.int .i64 0), .lit (.int .i64 0), .lit (.bool false), .lit (.int .i64 0), .lit (.int .i64 0), .lit (.int .i64 0), .lit (.int .i64 0), .lit (.int .i64 0), .lit (.int .i64 0), .lit (.int .i64 0), .lit (.int .i64 0), .lit (.int .i64 0), .lit (.int .i64 0), .lit (.bool false), .sl 325 2, .sl 329 3, .sl 300 2, .sl 3 1, .sl 3 1, .sl 3 1]⟩
  | 221 => some ⟨32, .st [(0, 1), (1, 2), (3, 1), (4, 1), (5, 1), (6, 1), (7, 1), (8, 1), (9, 1), (10, 1), (11, 3), (14, 1), (15, 1), (16, 10), (26, 1), (27, 1), (28, 1), (29, 1), (30, 1), (31, 1)], [.lit (.bool false), .lit (.bool false), .sl 298 3, .lit (.int .i64 0), .lit (.int .i64 0), .lit (.int .i64 0), .lit (.int .i64 0), .lit (.int .i64 0), .lit (.int .i64 0), .lit (.int .i64 0), .lit (.int .i64 0), .lit (.int .i64 0), .lit (.int .i64 0), .lit (.int .i64 0), .lit (.bool false), .lit (.int .i64 0), .lit (.int .i64 0), .lit (.int .i64 0), .lit (.int .i64 0), .lit (.int .i64 0), .lit (.int .i64 0), .lit (.int .i64 0), .lit (.int .i64 0), .lit (.int .i64 0), .lit (.int .i64 0), .lit (.bool false), .sl 325 2, .sl 329 3, .sl 300 2, .sl 3 1, .sl 3 1, .sl 3 1]⟩
  | 223 => some ⟨1, .sl 216 2 32, [.sl 216 2]⟩
  | 224 => some ⟨1, .st [(0, 1)], [.sl 216 2]⟩
  | 225 => some ⟨1, .st [(0, 1)], [.sl 216 2]⟩
  | 226 => some ⟨3, .st [(0, 1), (1, 1), (2, 1)], [.lit (.int .i64 0), .lit (.int .i64 0), .lit (.int .i64 0)]⟩
  | 227 => some ⟨3, .st [(0, 1), (1, 1), (2, 1)], [.lit (.int .i64 0), .lit (.int .i64 0), .lit (.int .i64 0)]⟩
  | 229 => some ⟨3, .st [(0, 1), (1, 1), (2, 1)], [.lit (.int .i64 0), .lit (.int .i64 0), .lit (.int .i64 0)]⟩
  | 246 => some ⟨3, .st [(0, 1), (1, 1), (2, 1)], [.lit (.int .i64 0), .lit (.int .i64 0), .lit (.int .i64 0)]⟩
  | 247 => some ⟨3, .st [(0, 1), (1, 1), (2, 1)], [.lit (.int .i64 0), .lit (.int .i64 0), .lit (.int .i64 0)]⟩
  | 248 => some ⟨2, .st [(0, 1), (1, 1)], [.lit (.bool false), .lit (.int .i64 0)]⟩
  | 249 => some ⟨2, .st [(0, 1), (1, 1)], [.lit (.bool false), .lit (.int .i64 0)]⟩
  | 254 => some ⟨1, .sl 343 2 16, [.sl 343 2]⟩
  | 255 => some ⟨1, .st [(0, 1)], [.sl 343 2]⟩
  | 256 => some ⟨1, .st [(0, 1)], [.sl 343 2]⟩
  | 269 => some ⟨4, .st [(0, 1), (1, 1), (2, 1), (3, 1)], [.lit (.bool false), .lit (.int .i64 0), .lit (.bool false), .lit (.int .i64 0)]⟩
  | 270 => some ⟨4, .st [(0, 1), (1, 1), (2, 1), (3, 1)], [.lit (.bool false), .lit (.int .i64 0), .lit (.bool false), .lit (.int .i64 0)]⟩
  | 298 => some ⟨3, .st [(0, 1), (1, 1), (2, 1)], [.lit (.int .i64 0), .lit (.int .i64 0), .lit (.int .i64 0)]⟩
  | 300 => some ⟨2, .st [(0, 1), (1, 1)], [.lit (.bool false), .lit (.int .i64 0)]⟩
  | 304 => some ⟨12, .arr 6 249 2, [.lit (.bool false), .lit (.int .i64 0), .lit (.bool false), .lit (.int .i64 0), .lit (.bool false), .lit (.int .i64 0), .lit (.bool false), .lit (.int .i64 0), .lit (.bool false), .lit (.int .i64 0), .lit (.bool false), .lit (.int .i64 0)]⟩
  | 312 => some ⟨4, .st [(0, 1), (1, 1), (2, 1), (3, 1)], [.lit (.bool false), .lit (.int .i64 0), .lit (.bool false), .lit (.int .i64 0)]⟩
  | 317 => some ⟨1, .st [(0, 1)], [.sl 3 1]⟩
  | 318 => some ⟨1, .st [(0, 1)], [.sl 3 1]⟩
  | 322 => some ⟨2, .st [(0, 1), (1, 1)], [.lit (.int .i64 0), .lit (.int .i64 0)]⟩
  | 323 => some ⟨2, .st [(0, 1), (1, 1)], [.lit (.int .i64 0), .lit (.int .i64 0)]⟩
  | 325 => some ⟨2, .st [(0, 1), (1, 1)], [.lit (.int .i64 0), .lit (.int .i64 0)]⟩
  | 326 => some ⟨3, .st [(0, 1), (1, 1), (2, 1)], [.lit (.int .i64 0), .lit (.bool false), .lit (.int .i64 0)]⟩
  | 327 => some ⟨3, .st [(0, 1), (1, 1), (2, 1)], [.lit (.int .i64 0), .lit (.bool false), .lit (.int .i64 0)]⟩
  | 329 => some ⟨3, .st [(0, 1), (1, 1), (2, 1)], [.lit (.int .i64 0), .lit (.bool false), .lit (.int .i64 0)]⟩
  | 340 => some ⟨1, .st [(0, 1)], [.sl 3 1]⟩
  | 343 => some ⟨2, .st [(0, 1), (1, 1)], [.lit (.int .i64 0), .lit (.int .i64 0)]⟩
  | 345 => some ⟨1, .sc, [.lit (.int .u64 0)]⟩
  | 351 => some ⟨1, .sc, [.lit (.int .u32 0)]⟩
  | 354 => some ⟨1, .sc, [.lit (.int .u64 0)]⟩
  | 368 => some ⟨1, .sc, [.lit (.int .u8 0)]⟩
  | 369 => some ⟨1, .sc, [.lit (.int .u8 0)]⟩
  | 372 => some ⟨1, .sc, [.lit (.int .i32 0)]⟩
  | 373 => some ⟨1, .sc, [.lit (.int .i32 0)]⟩
  | _ => none
theorem tyF2 : TyF Try.prog 2 ⟨1, .sc, [.lit (.int .i64 0)]⟩ :=
  ⟨⟨_, _, (by kernel_rfl : Try.prog.info? 2 = some ((Try.prog.info? 2).get (by kernel_rfl))), by kernel_rfl, (by kernel_rfl : _ = some (((Try.prog.info? 2).get (by kernel_rfl)).zero.get (by kernel_rfl))), by kernel_rfl⟩, rfl, ⟨_, Try.underlying2, rfl⟩⟩
theorem tyF3 : TyF Try.prog 3 ⟨1, .sc, [.lit (.int .i64 0)]⟩ :=
  ⟨⟨_, _, (by kernel_rfl : Try.prog.info? 3 = some ((Try.prog.info? 3).get (by kernel_rfl))), by kernel_rfl, (by kernel_rfl : _ = some (((Try.prog.info? 3).get (by kernel_rfl)).zero.get (by kernel_rfl))), by kernel_rfl⟩, rfl, ⟨_, Try.underlying3, rfl⟩⟩
theorem tyF4 : TyF Try.prog 4 ⟨1, .sc, [.lit (.bool false)]⟩ :=
  ⟨⟨_, _, (by kernel_rfl : Try.prog.info? 4 = some ((Try.prog.info? 4).get (by kernel_rfl))), by kernel_rfl, (by kernel_rfl : _ = some (((Try.prog.info? 4).get (by kernel_rfl)).zero.get (by kernel_rfl))), by kernel_rfl⟩, rfl, ⟨_, Try.underlying4, rfl⟩⟩
theorem tyF5 : TyF Try.prog 5 ⟨1, .sc, [.lit (.int .u8 0)]⟩ :=
  ⟨⟨_, _, (by kernel_rfl : Try.prog.info? 5 = some ((Try.prog.info? 5).get (by kernel_rfl))), by kernel_rfl, (by kernel_rfl : _ = some (((Try.prog.info? 5).get (by kernel_rfl)).zero.get (by kernel_rfl))), by kernel_rfl⟩, rfl, ⟨_, Try.underlying5, rfl⟩⟩
theorem tyF6 : TyF Try.prog 6 ⟨1, .sc, [.lit (.int .u8 0)]⟩ :=
  ⟨⟨_, _, (by kernel_rfl : Try.prog.info? 6 = some ((Try.prog.info? 6).get (by kernel_rfl))), by kernel_rfl, (by kernel_rfl : _ = some (((Try.prog.info? 6).get (by kernel_rfl)).zero.get (by kernel_rfl))), by kernel_rfl⟩, rfl, ⟨_, Try.underlying6, rfl⟩⟩
theorem tyF7 : TyF Try.prog 7 ⟨4, .st [(0, 1), (1, 1), (2, 1), (3, 1)], [.lit (.int .i64 0), .lit (.int .i64 0), .lit (.bool false), .lit (.int .u8 0)]⟩ :=
  ⟨⟨_, _, (by kernel_rfl : Try.prog.info? 7 = some ((Try.prog.info? 7).get (by kernel_rfl))), by kernel_rfl, (by kernel_rfl : _ = some (((Try.prog.info? 7).get (by kernel_rfl)).zero.get (by kernel_rfl))), by kernel_rfl⟩, rfl, ⟨_, Try.underlying7, by kernel_rfl, rfl⟩⟩
theorem tyF8 : TyF Try.prog 8 ⟨4, .st [(0, 1), (1, 1), (2, 1), (3, 1)], [.lit (.int .i64 0), .lit (.int .i64 0), .lit (.bool false), .lit (.int .u8 0)]⟩ :=
  ⟨⟨_, _, (by kernel_rfl : Try.prog.info? 8 = some ((Try.prog.info? 8).get (by kernel_rfl))), by kernel_rfl, (by kernel_rfl : _ = some (((Try.prog.info? 8).get (by kernel_rfl)).zero.get (by kernel_rfl))), by kernel_rfl⟩, rfl, ⟨_, Try.underlying8, by kernel_rfl, rfl⟩⟩
theorem tyF12 : TyF Try.prog 12 ⟨1, .sc, [.lit (.int .u64 0)]⟩ :=
  ⟨⟨_, _, (by kernel_rfl : Try.prog.info? 12 = some ((Try.prog.info? 12).get (by kernel_rfl))), by kernel_rfl, (by kernel_rfl : _ = some (((Try.prog.info? 12).get (by kernel_rfl)).zero.get (by kernel_rfl))), by kernel_rfl⟩, rfl, ⟨_, Try.underlying12, rfl⟩⟩
theorem tyF21 : TyF Try.prog 21 ⟨1, .sc, [.lit (.int .i32 0)]⟩ :=
  ⟨⟨_, _, (by kernel_rfl : Try.prog.info? 21 = some ((Try.prog.info? 21).get (by kernel_rfl))), by kernel_rfl, (by kernel_rfl : _ = some (((Try.prog.info? 21).get (by kernel_rfl)).zero.get (by kernel_rfl))), by kernel_rfl⟩, rfl, ⟨_, Try.underlying21, rfl⟩⟩
theorem tyF22 : TyF Try.prog 22 ⟨1, .sl 3 1 8, [.sl 3 1]⟩ :=
  ⟨⟨_, _, (by kernel_rfl : Try.prog.info? 22 = some ((Try.prog.info? 22).get (by kernel_rfl))), by kernel_rfl, (by kernel_rfl : _ = some (((Try.prog.info? 22).get (by kernel_rfl)).zero.get (by kernel_rfl))), by kernel_rfl⟩, rfl, ⟨Try.underlying22, _, _, (by kernel_rfl : Try.prog.info? 3 = some ((Try.prog.info? 3).get (by kernel_rfl))), by kernel_rfl, by kernel_rfl, (by kernel_rfl : _ = some (((Try.prog.info? 3).get (by kernel_rfl)).zero.get (by kernel_rfl))), by kernel_rfl, by decide, by kernel_rfl⟩⟩
theorem tyF23 : TyF Try.prog 23 ⟨2, .st [(0, 1), (1, 1)], [.sl 3 1, .sl 3 1]⟩ :=
  ⟨⟨_, _, (by kernel_rfl : Try.prog.info? 23 = some ((Try.prog.info? 23).get (by kernel_rfl))), by kernel_rfl, (by kernel_rfl : _ = some (((Try.prog.info? 23).get (by kernel_rfl)).zero.get (by kernel_rfl))), by kernel_rfl⟩, rfl, ⟨_, Try.underlying23, by kernel_rfl, rfl⟩⟩
theorem tyF24 : TyF Try.prog 24 ⟨2, .st [(0, 1), (1, 1)], [.sl 3 1, .sl 3 1]⟩ :=
  ⟨⟨_, _, (by kernel_rfl : Try.prog.info? 24 = some ((Try.prog.info? 24).get (by kernel_rfl))), by kernel_rfl, (by kernel_rfl : _ = some (((Try.prog.info? 24).get (by kernel_rfl)).zero.get (by kernel_rfl))), by kernel_rfl⟩, rfl, ⟨_, Try.underlying24, by kernel_rfl, rfl⟩⟩
theorem tyF25 : TyF Try.prog 25 ⟨1, .sl 340 1 24, [.sl 340 1]⟩ :=
  ⟨⟨_, _, (by kernel_rfl : Try.prog.info? 25 = some ((Try.prog.info? 25).get (by kernel_rfl))), by kernel_rfl, (by kernel_rfl : _ = some (((Try.prog.info? 25).get (by kernel_rfl)).zero.get (by kernel_rfl))), by kernel_rfl⟩, rfl, ⟨Try.underlying25, _, _, (by kernel_rfl : Try.prog.info? 340 = some ((Try.prog.info? 340).get (by kernel_rfl))), by kernel_rfl, by kernel_rfl, (by kernel_rfl : _ = some (((Try.prog.info? 340).get (by kernel_rfl)).zero.get (by kernel_rfl))), by kernel_rfl, by decide, by kernel_rfl⟩⟩
theorem tyF26 : TyF Try.prog 26 ⟨2, .st [(0, 1), (1, 1)], [.sl 340 1, .sl 340 1]⟩ :=
  ⟨⟨_, _, (by kernel_rfl : Try.prog.info? 26 = some ((Try.prog.info? 26).get (by kernel_rfl))), by kernel_rfl, (by kernel_rfl : _ = some (((Try.prog.info? 26).get (by kernel_rfl)).zero.get (by kernel_rfl))), by kernel_rfl⟩, rfl, ⟨_, Try.underlying26, by kernel_rfl, rfl⟩⟩
theorem tyF27 : TyF Try.prog 27 ⟨2, .st [(0, 1), (1, 1)], [.sl 340 1, .sl 340 1]⟩ :=
  ⟨⟨_, _, (by kernel_rfl : Try.prog.info? 27 = some ((Try.prog.info? 27).get (by kernel_rfl))), by kernel_rfl, (by kernel_rfl : _ = some (((Try.prog.info? 27).get (by kernel_rfl)).zero.get (by kernel_rfl))), by kernel_rfl⟩, rfl, ⟨_, Try.underlying27, by kernel_rfl, rfl⟩⟩
theorem tyF28 : TyF Try.prog 28 ⟨4, .st [(0, 2), (2, 2)], [.sl 3 1, .sl 3 1, .sl 340 1, .sl 340 1]⟩ :=
  ⟨⟨_, _, (by kernel_rfl : Try.prog.info? 28 = some ((Try.prog.info? 28).get (by kernel_rfl))), by kernel_rfl, (by kernel_rfl : _ = some (((Try.prog.info? 28).get (by kernel_rfl)).zero.get (by kernel_rfl))), by kernel_rfl⟩, rfl, ⟨_, Try.underlying28, by kernel_rfl, rfl⟩⟩
theorem tyF29 : TyF Try.prog 29 ⟨4, .st [(0, 2), (2, 2)], [.sl 3 1, .sl 3 1, .sl 340 1, .sl 340 1]⟩ :=
  ⟨⟨_, _, (by kernel_rfl : Try.prog.info? 29 = some ((Try.prog.info? 29).get (by kernel_rfl))), by kernel_rfl, (by kernel_rfl : _ = some (((Try.prog.info? 29).get (by kernel_rfl)).zero.get (by kernel_rfl))), by kernel_rfl⟩, rfl, ⟨_, Try.underlying29, by kernel_rfl, rfl⟩⟩
theorem tyF30 : TyF Try.prog 30 ⟨1, .sl 312 4 32, [.sl 312 4]⟩ :=
  ⟨⟨_, _, (by kernel_rfl : Try.prog.info? 30 = some ((Try.prog.info? 30).get (by kernel_rfl))), by kernel_rfl, (by kernel_rfl : _ = some (((Try.prog.info? 30).get (by kernel_rfl)).zero.get (by kernel_rfl))), by kernel_rfl⟩, rfl, ⟨Try.underlying30, _, _, (by kernel_rfl : Try.prog.info? 312 = some ((Try.prog.info? 312).get (by kernel_rfl))), by kernel_rfl, by kernel_rfl, (by kernel_rfl : _ = some (((Try.prog.info? 312).get (by kernel_rfl)).zero.get (by kernel_rfl))), by kernel_rfl, by decide, by kernel_rfl⟩⟩
theorem tyF31 : TyF Try.prog 31 ⟨2, .st [(0, 1), (1, 1)], [.lit (.int .i64 0), .sl 312 4]⟩ :=
  ⟨⟨_, _, (by kernel_rfl : Try.prog.info? 31 = some ((Try.prog.info? 31).get (by kernel_rfl))), by kernel_rfl, (by kernel_rfl : _ = some (((Try.prog.info? 31).get (by kernel_rfl)).zero.get (by kernel_rfl))), by kernel_rfl⟩, rfl, ⟨_, Try.underlying31, by kernel_rfl, rfl⟩⟩
theorem tyF32 : TyF Try.prog 32 ⟨2, .st [(0, 1), (1, 1)], [.lit (.int .i64 0), .sl 312 4]⟩ :=
  ⟨⟨_, _, (by kernel_rfl : Try.prog.info? 32 = some ((Try.prog.info? 32).get (by kernel_rfl))), by kernel_rfl, (by kernel_rfl : _ = some (((Try.prog.info? 32).get (by kernel_rfl)).zero.get (by kernel_rfl))), by kernel_rfl⟩, rfl, ⟨_, Try.underlying32, by kernel_rfl, rfl⟩⟩
theorem tyF33 : TyF Try.prog 33 ⟨1, .sl 256 1 24, [.sl 256 1]⟩ :=
  ⟨⟨_, _, (by kernel_rfl : Try.prog.info? 33 = some ((Try.prog.info? 33).get (by kernel_rfl))), by kernel_rfl, (by kernel_rfl : _ = some (((Try.prog.info? 33).get (by kernel_rfl)).zero.get (by kernel_rfl))), by kernel_rfl⟩, rfl, ⟨Try.underlying33, _, _, (by kernel_rfl : Try.prog.info? 256 = some ((Try.prog.info? 256).get (by kernel_rfl))), by kernel_rfl, by kernel_rfl, (by kernel_rfl : _ = some (((Try.prog.info? 256).get (by kernel_rfl)).zero.get (by kernel_rfl))), by kernel_rfl, by decide, by kernel_rfl⟩⟩
theorem tyF34 : TyF Try.prog 34 ⟨8, .st [(0, 4), (4, 2), (6, 1), (7, 1)], [.sl 3 1, .sl 3 1, .sl 340 1, .sl 340 1, .lit (.int .i64 0), .sl 312 4, .sl 256 1, .sl 3 1]⟩ :=
  ⟨⟨_, _, (by kernel_rfl : Try.prog.info? 34 = some ((Try.prog.info? 34).get (by kernel_rfl))), by kernel_rfl, (by kernel_rfl : _ = some (((Try.prog.info? 34).get (by kernel_rfl)).zero.get (by kernel_rfl))), by kernel_rfl⟩, rfl, ⟨_, Try.underlying34, by kernel_rfl, rfl⟩⟩
theorem tyF35 : TyF Try.prog 35 ⟨8, .st [(0, 4), (4, 2), (6, 1), (7, 1)], [.sl 3 1, .sl 3 1, .sl 340 1, .sl 340 1, .lit (.int .i64 0), .sl 312 4, .sl 256 1, .sl 3 1]⟩ :=
  ⟨⟨_, _, (by kernel_rfl : Try.prog.info? 35 = some ((Try.prog.info? 35).get (by kernel_rfl))), by kernel_rfl, (by kernel_rfl : _ = some (((Try.prog.info? 35).get (by kernel_rfl)).zero.get (by kernel_rfl))), by kernel_rfl⟩, rfl, ⟨_, Try.underlying35, by kernel_rfl, rfl⟩⟩
theorem tyF36 : TyF Try.prog 36 ⟨1, .sl 193 21 168, [.sl 193 21]⟩ :=
  ⟨⟨_, _, (by kernel_rfl : Try.prog.info? 36 = some ((Try.prog.info? 36).get (by kernel_rfl))), by kernel_rfl, (by kernel_rfl : _ = some (((Try.prog.info? 36).get (by kernel_rfl)).zero.get (by kernel_rfl))), by kernel_rfl⟩, rfl, ⟨Try.underlying36, _, _, (by kernel_rfl : Try.prog.info? 193 = some ((Try.prog.info? 193).get (by kernel_rfl))), by kernel_rfl, by kernel_rfl, (by kernel_rfl : _ = some (((Try.prog.info? 193).get (by kernel_rfl)).zero.get (by kernel_rfl))), by kernel_rfl, by decide, by kernel_rfl⟩⟩
theorem tyF37 : TyF Try.prog 37 ⟨1, .sl 131 1 24, [.sl 131 1]⟩ :=
  ⟨⟨_, _, (by kernel_rfl : Try.prog.info? 37 = some ((Try.prog.info? 37).get (by kernel_rfl))), by kernel_rfl, (by kernel_rfl : _ = some (((Try.prog.info? 37).get (by kernel_rfl)).zero.get (by kernel_rfl))), by kernel_rfl⟩, rfl, ⟨Try.underlying37, _, _, (by kernel_rfl : Try.prog.info? 131 = some ((Try.prog.info? 131).get (by kernel_rfl))), by kernel_rfl, by kernel_rfl, (by kernel_rfl : _ = some (((Try.prog.info? 131).get (by kernel_rfl)).zero.get (by kernel_rfl))), by kernel_rfl, by decide, by kernel_rfl⟩⟩
theorem tyF38 : TyF Try.prog 38 ⟨1, .sl 195 7 56, [.sl 195 7]⟩ :=
  ⟨⟨_, _, (by kernel_rfl : Try.prog.info? 38 = some ((Try.prog.info? 38).get (by kernel_rfl))), by kernel_rfl, (by kernel_rfl : _ = some (((Try.prog.info? 38).get (by kernel_rfl)).zero.get (by kernel_rfl))), by kernel_rfl⟩, rfl, ⟨Try.underlying38, _, _, (by kernel_rfl : Try.prog.info? 195 = some ((Try.prog.info? 195).get (by kernel_rfl))), by kernel_rfl, by kernel_rfl, (by kernel_rfl : _ = some (((Try.prog.info? 195).get (by kernel_rfl)).zero.get (by kernel_rfl))), by kernel_rfl, by decide, by kernel_rfl⟩⟩
theorem tyF39 : TyF Try.prog 39 ⟨13, .st [(0, 8), (8, 1), (9, 1), (10, 1), (11, 1), (12, 1)], [.sl 3 1, .sl 3 1, .sl 340 1, .sl 340 1, .lit (.int .i64 0), .sl 312 4, .sl 256 1, .sl 3 1, .sl 3 1, .sl 193 21, .sl 131 1, .sl 195 7, .lit (.int .i64 0)]⟩ :=
  ⟨⟨_, _, (by kernel_rfl : Try.prog.info? 39 = some ((Try.prog.info? 39).get (by kernel_rfl))), by kernel_rfl, (by kernel_rfl : _ = some (((Try.prog.info? 39).get (by kernel_rfl)).zero.get (by kernel_rfl))), by kernel_rfl⟩, rfl, ⟨_, Try.underlying39, by kernel_rfl, rfl⟩⟩
theorem tyF40 : TyF Try.prog 40 ⟨13, .st [(0, 8), (8, 1), (9, 1), (10, 1), (11, 1), (12, 1)], [.sl 3 1, .sl 3 1, .sl 340 1, .sl 340 1, .lit (.int .i64 0), .sl 312 4, .sl 256 1, .sl 3 1, .sl 3 1, .sl 193 21, .sl 131 1, .sl 195 7, .lit (.int .i64 0)]⟩ :=
  ⟨⟨_, _, (by kernel_rfl : Try.prog.info? 40 = some ((Try.prog.info? 40).get (by kernel_rfl))), by kernel_rfl, (by kernel_rfl : _ = some (((Try.prog.info? 40).get (by kernel_rfl)).zero.get (by kernel_rfl))), by kernel_rfl⟩, rfl, ⟨_, Try.underlying40, by kernel_rfl, rfl⟩⟩
theorem tyF43 : TyF Try.prog 43 ⟨2, .st [(0, 1), (1, 1)], [.sl 3 1, .sl 3 1]⟩ :=
  ⟨⟨_, _, (by kernel_rfl : Try.prog.info? 43 = some ((Try.prog.info? 43).get (by kernel_rfl))), by kernel_rfl, (by kernel_rfl : _ = some (((Try.prog.info? 43).get (by kernel_rfl)).zero.get (by kernel_rfl))), by kernel_rfl⟩, rfl, ⟨_, Try.underlying43, by kernel_rfl, rfl⟩⟩
theorem tyF44 : TyF Try.prog 44 ⟨1, .sl 318 1 24, [.sl 318 1]⟩ :=
  ⟨⟨_, _, (by kernel_rfl : Try.prog.info? 44 = some ((Try.prog.info? 44).get (by kernel_rfl))), by kernel_rfl, (by kernel_rfl : _ = some (((Try.prog.info? 44).get (by kernel_rfl)).zero.get (by kernel_rfl))), by kernel_rfl⟩, rfl, ⟨Try.underlying44, _, _, (by kernel_rfl : Try.prog.info? 318 = some ((Try.prog.info? 318).get (by kernel_rfl))), by kernel_rfl, by kernel_rfl, (by kernel_rfl : _ = some (((Try.prog.info? 318).get (by kernel_rfl)).zero.get (by kernel_rfl))), by kernel_rfl, by decide, by kernel_rfl⟩⟩
theorem tyF45 : TyF Try.prog 45 ⟨2, .st [(0, 1), (1, 1)], [.sl 318 1, .sl 318 1]⟩ :=
  ⟨⟨_, _, (by kernel_rfl : Try.prog.info? 45 = some ((Try.prog.info? 45).get (by kernel_rfl))), by kernel_rfl, (by kernel_rfl : _ = some (((Try.prog.info? 45).get (by kernel_rfl)).zero.get (by kernel_rfl))), by kernel_rfl⟩, rfl, ⟨_, Try.underlying45, by kernel_rfl, rfl⟩⟩
theorem tyF46 : TyF Try.prog 46 ⟨2, .st [(0, 1), (1, 1)], [.sl 318 1, .sl 318 1]⟩ :=
  ⟨⟨_, _, (by kernel_rfl : Try.prog.info? 46 = some ((Try.prog.info? 46).get (by kernel_rfl))), by kernel_rfl, (by kernel_rfl : _ = some (((Try.prog.info? 46).get (by kernel_rfl)).zero.get (by kernel_rfl))), by kernel_rfl⟩, rfl, ⟨_, Try.underlying46, by kernel_rfl, rfl⟩⟩
theorem tyF47 : TyF Try.prog 47 ⟨4, .st [(0, 2), (2, 2)], [.sl 3 1, .sl 3 1, .sl 318 1, .sl 318 1]⟩ :=
  ⟨⟨_, _, (by kernel_rfl : Try.prog.info? 47 = some ((Try.prog.info? 47).get (by kernel_rfl))), by kernel_rfl, (by kernel_rfl : _ = some (((Try.prog.info? 47).get (by kernel_rfl)).zero.get (by kernel_rfl))), by kernel_rfl⟩, rfl, ⟨_, Try.underlying47, by kernel_rfl, rfl⟩⟩
theorem tyF48 : TyF Try.prog 48 ⟨4, .st [(0, 2), (2, 2)], [.sl 3 1, .sl 3 1, .sl 318 1, .sl 318 1]⟩ :=
  ⟨⟨_, _, (by kernel_rfl : Try.prog.info? 48 = some ((Try.prog.info? 48).get (by kernel_rfl))), by kernel_rfl, (by kernel_rfl : _ = some (((Try.prog.info? 48).get (by kernel_rfl)).zero.get (by kernel_rfl))), by kernel_rfl⟩, rfl, ⟨_, Try.underlying48, by kernel_rfl, rfl⟩⟩
theorem tyF49 : TyF Try.prog 49 ⟨1, .sl 270 4 32, [.sl 270 4]⟩ :=
  ⟨⟨_, _, (by kernel_rfl : Try.prog.info? 49 = some ((Try.prog.info? 49).get (by kernel_rfl))), by kernel_rfl, (by kernel_rfl : _ = some (((Try.prog.info? 49).get (by kernel_rfl)).zero.get (by kernel_rfl))), by kernel_rfl⟩, rfl, ⟨Try.underlying49, _, _, (by kernel_rfl : Try.prog.info? 270 = some ((Try.prog.info? 270).get (by kernel_rfl))), by kernel_rfl, by kernel_rfl, (by kernel_rfl : _ = some (((Try.prog.info? 270).get (by kernel_rfl)).zero.get (by kernel_rfl))), by kernel_rfl, by decide, by kernel_rfl⟩⟩
theorem tyF50 : TyF Try.prog 50 ⟨2, .st [(0, 1), (1, 1)], [.lit (.int .i64 0), .sl 270 4]⟩ :=
  ⟨⟨_, _, (by kernel_rfl : Try.prog.info? 50 = some ((Try.prog.info? 50).get (by kernel_rfl))), by kernel_rfl, (by kernel_rfl : _ = some (((Try.prog.info? 50).get (by kernel_rfl)).zero.get (by kernel_rfl))), by kernel_rfl⟩, rfl, ⟨_, Try.underlying50, by kernel_rfl, rfl⟩⟩
theorem tyF51 : TyF Try.prog 51 ⟨2, .st [(0, 1), (1, 1)], [.lit (.int .i64 0), .sl 270 4]⟩ :=
  ⟨⟨_, _, (by kernel_rfl : Try.prog.info? 51 = some ((Try.prog.info? 51).get (by kernel_rfl))), by kernel_rfl, (by kernel_rfl : _ = some (((Try.prog.info? 51).get (by kernel_rfl)).zero.get (by kernel_rfl))), by kernel_rfl⟩, rfl, ⟨_, Try.underlying51, by kernel_rfl, rfl⟩⟩
theorem tyF52 : TyF Try.prog 52 ⟨1, .sl 213 1 24, [.sl 213 1]⟩ :=
  ⟨⟨_, _, (by kernel_rfl : Try.prog.info? 52 = some ((Try.prog.info? 52).get (by kernel_rfl))), by kernel_rfl, (by kernel_rfl : _ = some (((Try.prog.info? 52).get (by kernel_rfl)).zero.get (by kernel_rfl))), by kernel_rfl⟩, rfl, ⟨Try.underlying52, _, _, (by kernel_rfl : Try.prog.info? 213 = some ((Try.prog.info? 213).get (by kernel_rfl))), by kernel_rfl, by kernel_rfl, (by kernel_rfl : _ = some (((Try.prog.info? 213).get (by kernel_rfl)).zero.get (by kernel_rfl))), by kernel_rfl, by decide, by kernel_rfl⟩⟩
theorem tyF53 : TyF Try.prog 53 ⟨8, .st [(0, 4), (4, 2), (6, 1), (7, 1)], [.sl 3 1, .sl 3 1, .sl 318 1, .sl 318 1, .lit (.int .i64 0), .sl 270 4, .sl 213 1, .sl 3 1]⟩ :=
  ⟨⟨_, _, (by kernel_rfl : Try.prog.info? 53 = some ((Try.prog.info? 53).get (by kernel_rfl))), by kernel_rfl, (by kernel_rfl : _ = some (((Try.prog.info? 53).get (by kernel_rfl)).zero.get (by kernel_rfl))), by kernel_rfl⟩, rfl, ⟨_, Try.underlying53, by kernel_rfl, rfl⟩⟩
theorem tyF54 : TyF Try.prog 54 ⟨8, .st [(0, 4), (4, 2), (6, 1), (7, 1)], [.sl 3 1, .sl 3 1, .sl 318 1, .sl 318 1, .lit (.int .i64 0), .sl 270 4, .sl 213 1, .sl 3 1]⟩ :=
  ⟨⟨_, _, (by kernel_rfl : Try.prog.info? 54 = some ((Try.prog.info? 54).get (by kernel_rfl))), by kernel_rfl, (by kernel_rfl : _ = some (((Try.prog.info? 54).get (by kernel_rfl)).zero.get (by kernel_rfl))), by kernel_rfl⟩, rfl, ⟨_, Try.underlying54, by kernel_rfl, rfl⟩⟩
theorem tyF55 : TyF Try.prog 55 ⟨1, .sl 114 21 168, [.sl 114 21]⟩ :=
  ⟨⟨_, _, (by kernel_rfl : Try.prog.info? 55 = some ((Try.prog.info? 55).get (by kernel_rfl))), by kernel_rfl, (by kernel_rfl : _ = some (((Try.prog.info? 55).get (by kernel_rfl)).zero.get (by kernel_rfl))), by kernel_rfl⟩, rfl, ⟨Try.underlying55, _, _, (by kernel_rfl : Try.prog.info? 114 = some ((Try.prog.info? 114).get (by kernel_rfl))), by kernel_rfl, by kernel_rfl, (by kernel_rfl : _ = some (((Try.prog.info? 114).get (by kernel_rfl)).zero.get (by kernel_rfl))), by kernel_rfl, by decide, by kernel_rfl⟩⟩
theorem tyF56 : TyF Try.prog 56 ⟨1, .sl 117 1 24, [.sl 117 1]⟩ :=
  ⟨⟨_, _, (by kernel_rfl : Try.prog.info? 56 = some ((Try.prog.info? 56).get (by kernel_rfl))), by kernel_rfl, (by kernel_rfl : _ = some (((Try.prog.info? 56).get (by kernel_rfl)).zero.get (by kernel_rfl))), by kernel_rfl⟩, rfl, ⟨Try.underlying56, _, _, (by kernel_rfl : Try.prog.info? 117 = some ((Try.prog.info? 117).get (by kernel_rfl))), by kernel_rfl, by kernel_rfl, (by kernel_rfl : _ = some (((Try.prog.info? 117).get (by kernel_rfl)).zero.get (by kernel_rfl))), by kernel_rfl, by decide, by kernel_rfl⟩⟩
theorem tyF57 : TyF Try.prog 57 ⟨1, .sl 125 7 56, [.sl 125 7]⟩ :=
  ⟨⟨_, _, (by kernel_rfl : Try.prog.info? 57 = some ((Try.prog.info? 57).get (by kernel_rfl))), by kernel_rfl, (by kernel_rfl : _ = some (((Try.prog.info? 57).get (by kernel_rfl)).zero.get (by kernel_rfl))), by kernel_rfl⟩, rfl, ⟨Try.underlying57, _, _, (by kernel_rfl : Try.prog.info? 125 = some ((Try.prog.info? 125).get (by kernel_rfl))), by kernel_rfl, by kernel_rfl, (by kernel_rfl : _ = some (((Try.prog.info? 125).get (by kernel_rfl)).zero.get (by kernel_rfl))), by kernel_rfl, by decide, by kernel_rfl⟩⟩
theorem tyF58 : TyF Try.prog 58 ⟨13, .st [(0, 8), (8, 1), (9, 1), (10, 1), (11, 1), (12, 1)], [.sl 3 1, .sl 3 1, .sl 318 1, .sl 318 1, .lit (.int .i64 0), .sl 270 4, .sl 213 1, .sl 3 1, .sl 3 1, .sl 114 21, .sl 117 1, .sl 125 7, .lit (.int .i64 0)]⟩ :=
  ⟨⟨_, _, (by kernel_rfl : Try.prog.info? 58 = some ((Try.prog.info? 58).get (by kernel_rfl))), by kernel_rfl, (by kernel_rfl : _ = some (((Try.prog.info? 58).get (by kernel_rfl)).zero.get (by kernel_rfl))), by kernel_rfl⟩, rfl, ⟨_, Try.underlying58, by kernel_rfl, rfl⟩⟩
theorem tyF59 : TyF Try.prog 59 ⟨13, .st [(0, 8), (8, 1), (9, 1), (10, 1), (11, 1), (12, 1)], [.sl 3 1, .sl 3 1, .sl 318 1, .sl 318 1, .lit (.int .i64 0), .sl 270 4, .sl 213 1, .sl 3 1, .sl 3 1, .sl 114 21, .sl 117 1, .sl 125 7, .lit (.int .i64 0)]⟩ :=
  ⟨⟨_, _, (by kernel_rfl : Try.prog.info? 59 = some ((Try.prog.info? 59).get (by kernel_rfl))), by kernel_rfl, (by kernel_rfl : _ = some (((Try.prog.info? 59).get (by kernel_rfl)).zero.get (by kernel_rfl))), by kernel_rfl⟩, rfl, ⟨_, Try.underlying59, by kernel_rfl, rfl⟩⟩
theorem tyF77 : TyF Try.prog 77 ⟨1, .sl 229 3 24, [.sl 229 3]⟩ :=
  ⟨⟨_, _, (by kernel_rfl : Try.prog.info? 77 = some ((Try.prog.info? 77).get (by kernel_rfl))), by kernel_rfl, (by kernel_rfl : _ = some (((Try.prog.info? 77).get (by kernel_rfl)).zero.get (by kernel_rfl))), by kernel_rfl⟩, rfl, ⟨Try.underlying77, _, _, (by kernel_rfl : Try.prog.info? 229 = some ((Try.prog.info? 229).get (by kernel_rfl))), by kernel_rfl, by kernel_rfl, (by kernel_rfl : _ = some (((Try.prog.info? 229).get (by kernel_rfl)).zero.get (by kernel_rfl))), by kernel_rfl, by decide, by kernel_rfl⟩⟩
theorem tyF78 : TyF Try.prog 78 ⟨1, .sl 221 32 368, [.sl 221 32]⟩ :=
  ⟨⟨_, _, (by kernel_rfl : Try.prog.info? 78 = some ((Try.prog.info? 78).get (by kernel_rfl))), by kernel_rfl, (by kernel_rfl : _ = some (((Try.prog.info? 78).get (by kernel_rfl)).zero.get (by kernel_rfl))), by kernel_rfl⟩, rfl, ⟨Try.underlying78, _, _, (by kernel_rfl : Try.prog.info? 221 = some ((Try.prog.info? 221).get (by kernel_rfl))), by kernel_rfl, by kernel_rfl, (by kernel_rfl : _ = some (((Try.prog.info? 221).get (by kernel_rfl)).zero.get (by kernel_rfl))), by kernel_rfl, by decide, by kernel_rfl⟩⟩
theorem tyF79 : TyF Try.prog 79 ⟨1, .sl 225 1 24, [.sl 225 1]⟩ :=
  ⟨⟨_, _, (by kernel_rfl : Try.prog.info? 79 = some ((Try.prog.info? 79).get (by kernel_rfl))), by kernel_rfl, (by kernel_rfl : _ = some (((Try.prog.info? 79).get (by kernel_rfl)).zero.get (by kernel_rfl))), by kernel_rfl⟩, rfl, ⟨Try.underlying79, _, _, (by kernel_rfl : Try.prog.info? 225 = some ((Try.prog.info? 225).get (by kernel_rfl))), by kernel_rfl, by kernel_rfl, (by kernel_rfl : _ = some (((Try.prog.info? 225).get (by kernel_rfl)).zero.get (by kernel_rfl))), by kernel_rfl, by decide, by kernel_rfl⟩⟩
theorem tyF80 : TyF Try.prog 80 ⟨1, .sl 170 6 80, [.sl 170 6]⟩ :=
  ⟨⟨_, _, (by kernel_rfl : Try.prog.info? 80 = some ((Try.prog.info? 80).get (by kernel_rfl))), by kernel_rfl, (by kernel_rfl : _ = some (((Try.prog.info? 80).get (by kernel_rfl)).zero.get (by kernel_rfl))), by kernel_rfl⟩, rfl, ⟨Try.underlying80, _, _, (by kernel_rfl : Try.prog.info? 170 = some ((Try.prog.info? 170).get (by kernel_rfl))), by kernel_rfl, by kernel_rfl, (by kernel_rfl : _ = some (((Try.prog.info? 170).get (by kernel_rfl)).zero.get (by kernel_rfl))), by kernel_rfl, by decide, by kernel_rfl⟩⟩
theorem tyF81 : TyF Try.prog 81 ⟨13, .st [(0, 8), (8, 1), (9, 1), (10, 1), (11, 1), (12, 1)], [.sl 3 1, .sl 3 1, .sl 340 1, .sl 340 1, .lit (.int .i64 0), .sl 312 4, .sl 256 1, .sl 3 1, .sl 229 3, .sl 221 32, .sl 225 1, .sl 170 6, .lit (.int .i64 0)]⟩ :=
  ⟨⟨_, _, (by kernel_rfl : Try.prog.info? 81 = some ((Try.prog.info? 81).get (by kernel_rfl))), by kernel_rfl, (by kernel_rfl : _ = some (((Try.prog.info? 81).get (by kernel_rfl)).zero.get (by kernel_rfl))), by kernel_rfl⟩, rfl, ⟨_, Try.underlying81, by kernel_rfl, rfl⟩⟩
theorem tyF82 : TyF Try.prog 82 ⟨13, .st [(0, 8), (8, 1), (9, 1), (10, 1), (11, 1), (12, 1)], [.sl 3 1, .sl 3 1, .sl 340 1, .sl 340 1, .lit (.int .i64 0), .sl 312 4, .sl 256 1, .sl 3 1, .sl 229 3, .sl 221 32, .sl 225 1, .sl 170 6, .lit (.int .i64 0)]⟩ :=
  ⟨⟨_, _, (by kernel_rfl : Try.prog.info? 82 = some ((Try.prog.info? 82).get (by kernel_rfl))), by kernel_rfl, (by kernel_rfl : _ = some (((Try.prog.info? 82).get (by kernel_rfl)).zero.get (by kernel_rfl))), by kernel_rfl⟩, rfl, ⟨_, Try.underlying82, by kernel_rfl, rfl⟩⟩
theorem tyF85 : TyF Try.prog 85 ⟨1, .sl 227 3 24, [.sl 227 3]⟩ :=
  ⟨⟨_, _, (by kernel_rfl : Try.prog.info? 85 = some ((Try.prog.info? 85).get (by kernel_rfl))), by kernel_rfl, (by kernel_rfl : _ = some (((Try.prog.info? 85).get (by kernel_rfl)).zero.get (by kernel_rfl))), by kernel_rfl⟩, rfl, ⟨Try.underlying85, _, _, (by kernel_rfl : Try.prog.info? 227 = some ((Try.prog.info? 227).get (by kernel_rfl))), by kernel_rfl, by kernel_rfl, (by kernel_rfl : _ = some (((Try.prog.info? 227).get (by kernel_rfl)).zero.get (by kernel_rfl))), by kernel_rfl, by decide, by kernel_rfl⟩⟩
theorem tyF86 : TyF Try.prog 86 ⟨1, .sl 156 32 368, [.sl 156 32]⟩ :=
  ⟨⟨_, _, (by kernel_rfl : Try.prog.info? 86 = some ((Try.prog.info? 86).get (by kernel_rfl))), by kernel_rfl, (by kernel_rfl : _ = some (((Try.prog.info? 86).get (by kernel_rfl)).zero.get (by kernel_rfl))), by kernel_rfl⟩, rfl, ⟨Try.underlying86, _, _, (by kernel_rfl : Try.prog.info? 156 = some ((Try.prog.info? 156).get (by kernel_rfl))), by kernel_rfl, by kernel_rfl, (by kernel_rfl : _ = some (((Try.prog.info? 156).get (by kernel_rfl)).zero.get (by kernel_rfl))), by kernel_rfl, by decide, by kernel_rfl⟩⟩
theorem tyF87 : TyF Try.prog 87 ⟨1, .sl 159 1 24, [.sl 159 1]⟩ :=
  ⟨⟨_, _, (by kernel_rfl : Try.prog.info? 87 = some ((Try.prog.info? 87).get (by kernel_rfl))), by kernel_rfl, (by kernel_rfl : _ = some (((Try.prog.info? 87).get (by kernel_rfl)).zero.get (by kernel_rfl))), by kernel_rfl⟩, rfl, ⟨Try.underlying87, _, _, (by kernel_rfl : Try.prog.info? 159 = some ((Try.prog.info? 159).get (by kernel_rfl))), by kernel_rfl, by kernel_rfl, (by kernel_rfl : _ = some (((Try.prog.info? 159).get (by kernel_rfl)).zero.get (by kernel_rfl))), by kernel_rfl, by decide, by kernel_rfl⟩⟩
theorem tyF88 : TyF Try.prog 88 ⟨1, .sl 174 6 80, [.sl 174 6]⟩ :=
  ⟨⟨_, _, (by kernel_rfl : Try.prog.info? 88 = some ((Try.prog.info? 88).get (by kernel_rfl))), by kernel_rfl, (by kernel_rfl : _ = some (((Try.prog.info? 88).get (by kernel_rfl)).zero.get (by kernel_rfl))), by kernel_rfl⟩, rfl, ⟨Try.underlying88, _, _, (by kernel_rfl : Try.prog.info? 174 = some ((Try.prog.info? 174).get (by kernel_rfl))), by kernel_rfl, by kernel_rfl, (by kernel_rfl : _ = some (((Try.prog.info? 174).get (by kernel_rfl)).zero.get (by kernel_rfl))), by kernel_rfl, by decide, by kernel_rfl⟩⟩
theorem tyF89 : TyF Try.prog 89 ⟨13, .st [(0, 8), (8, 1), (9, 1), (10, 1), (11, 1), (12, 1)], [.sl 3 1, .sl 3 1, .sl 318 1, .sl 318 1, .lit (.int .i64 0), .sl 270 4, .sl 213 1, .sl 3 1, .sl 227 3, .sl 156 32, .sl 159 1, .sl 174 6, .lit (.int .i64 0)]⟩ :=
  ⟨⟨_, _, (by kernel_rfl : Try.prog.info? 89 = some ((Try.prog.info? 89).get (by kernel_rfl))), by kernel_rfl, (by kernel_rfl : _ = some (((Try.prog.info? 89).get (by kernel_rfl)).zero.get (by kernel_rfl))), by kernel_rfl⟩, rfl, ⟨_, Try.underlying89, by kernel_rfl, rfl⟩⟩
theorem tyF90 : TyF Try.prog 90 ⟨13, .st [(0, 8), (8, 1), (9, 1), (10, 1), (11, 1), (12, 1)], [.sl 3 1, .sl 3 1, .sl 318 1, .sl 318 1, .lit (.int .i64 0), .sl 270 4, .sl 213 1, .sl 3 1, .sl 227 3, .sl 156 32, .sl 159 1, .sl 174 6, .lit (.int .i64 0)]⟩ :=
  ⟨⟨_, _, (by kernel_rfl : Try.prog.info? 90 = some ((Try.prog.info? 90).get (by kernel_rfl))), by kernel_rfl, (by kernel_rfl : _ = some (((Try.prog.info? 90).get (by kernel_rfl)).zero.get (by kernel_rfl))), by kernel_rfl⟩, rfl, ⟨_, Try.underlying90, by kernel_rfl, rfl⟩⟩
theorem tyF95 : TyF Try.prog 95 ⟨1, .sl 179 2 16, [.sl 179 2]⟩ :=
  ⟨⟨_, _, (by kernel_rfl : Try.prog.info? 95 = some ((Try.prog.info? 95).get (by kernel_rfl))), by kernel_rfl, (by kernel_rfl : _ = some (((Try.prog.info? 95).get (by kernel_rfl)).zero.get (by kernel_rfl))), by kernel_rfl⟩, rfl, ⟨Try.underlying95, _, _, (by kernel_rfl : Try.prog.info? 179 = some ((Try.prog.info? 179).get (by kernel_rfl))), by kernel_rfl, by kernel_rfl, (by kernel_rfl : _ = some (((Try.prog.info? 179).get (by kernel_rfl)).zero.get (by kernel_rfl))), by kernel_rfl, by decide, by kernel_rfl⟩⟩
theorem tyF109 : TyF Try.prog 109 ⟨4, .st [(0, 1), (1, 1), (2, 1), (3, 1)], [.lit (.int .i64 0), .lit (.int .i64 0), .lit (.int .i64 0), .lit (.int .i64 0)]⟩ :=
  ⟨⟨_, _, (by kernel_rfl : Try.prog.info? 109 = some ((Try.prog.info? 109).get (by kernel_rfl))), by kernel_rfl, (by kernel_rfl : _ = some (((Try.prog.info? 109).get (by kernel_rfl)).zero.get (by kernel_rfl))), by kernel_rfl⟩, rfl, ⟨_, Try.underlying109, by kernel_rfl, rfl⟩⟩
theorem tyF110 : TyF Try.prog 110 ⟨4, .st [(0, 1), (1, 1), (2, 1), (3, 1)], [.lit (.int .i64 0), .lit (.int .i64 0), .lit (.int .i64 0), .lit (.int .i64 0)]⟩ :=
  ⟨⟨_, _, (by kernel_rfl : Try.prog.info? 110 = some ((Try.prog.info? 110).get (by kernel_rfl))), by kernel_rfl, (by kernel_rfl : _ = some (((Try.prog.info? 110).get (by kernel_rfl)).zero.get (by kernel_rfl))), by kernel_rfl⟩, rfl, ⟨_, Try.underlying110, by kernel_rfl, rfl⟩⟩
theorem tyF111 : TyF Try.prog 111 ⟨10, .st [(0, 1), (1, 1), (2, 1), (3, 1), (4, 1), (5, 1), (6, 1), (7, 1), (8, 1), (9, 1)], [.lit (.int .i64 0), .lit (.int .i64 0), .lit (.int .i64 0), .lit (.int .i64 0), .lit (.int .i64 0), .lit (.int .i64 0), .lit (.int .i64 0), .lit (.int .i64 0), .lit (.int .i64 0), .lit (.bool false)]⟩ :=
  ⟨⟨_, _, (by kernel_rfl : Try.prog.info? 111 = some ((Try.prog.info? 111).get (by kernel_rfl))), by kernel_rfl, (by kernel_rfl : _ = some (((Try.prog.info? 111).get (by kernel_rfl)).zero.get (by kernel_rfl))), by kernel_rfl⟩, rfl, ⟨_, Try.underlying111, by kernel_rfl, rfl⟩⟩
theorem tyF112 : TyF Try.prog 112 ⟨10, .st [(0, 1), (1, 1), (2, 1), (3, 1), (4, 1), (5, 1), (6, 1), (7, 1), (8, 1), (9, 1)], [.lit (.int .i64 0), .lit (.int .i64 0), .lit (.int .i64 0), .lit (.int .i64 0), .lit (.int .i64 0), .lit (.int .i64 0), .lit (.int .i64 0), .lit (.int .i64 0), .lit (.int .i64 0), .lit (.bool false)]⟩ :=
  ⟨⟨_, _, (by kernel_rfl : Try.prog.info? 112 = some ((Try.prog.info? 112).get (by kernel_rfl))), by kernel_rfl, (by kernel_rfl : _ = some (((Try.prog.info? 112).get (by kernel_rfl)).zero.get (by kernel_rfl))), by kernel_rfl⟩, rfl, ⟨_, Try.underlying112, by kernel_rfl, rfl⟩⟩
theorem tyF113 : TyF Try.prog 113 ⟨21, .st [(0, 1), (1, 4), (5, 1), (6, 1), (7, 10), (17, 1), (18, 1), (19, 1), (20, 1)], [.lit (.bool false), .lit (.int .i64 0), .lit (.int .i64 0), .lit (.int .i64 0), .lit (.int .i64 0), .lit (.int .i64 0), .lit (.int .i64 0), .lit (.int .i64 0), .lit (.int .i64 0), .lit (.int .i64 0), .lit (.int .i64 0), .lit (.int .i64 0), .lit (.int .i64 0), .lit (.int .i64 0), .lit (.int .i64 0), .lit (.int .i64 0), .lit (.bool false), .lit (.int .i64 0), .lit (.int .i64 0), .lit (.int .i64 0), .lit (.int .i64 0)]⟩ :=
  ⟨⟨_, _, (by kernel_rfl : Try.prog.info? 113 = some ((Try.prog.info? 113).get (by kernel_rfl))), by kernel_rfl, (by kernel_rfl : _ = some (((Try.prog.info? 113).get (by kernel_rfl)).zero.get (by kernel_rfl))), by kernel_rfl⟩, rfl, ⟨_, Try.underlying113, by kernel_rfl, rfl⟩⟩
theorem tyF114 : TyF Try.prog 114 ⟨21, .st [(0, 1), (1, 4), (5, 1), (6, 1), (7, 10), (17, 1), (18, 1), (19, 1), (20, 1)], [.lit (.bool false), .lit (.int .i64 0), .lit (.int .i64 0), .lit (.int .i64 0), .lit (.int .i64 0), .lit (.int .i64 0), .lit (.int .i64 0), .lit (.int .i64 0), .lit (.int .i64 0), .lit (.int .i64 0), .lit (.int .i64 0), .lit (.int .i64 0), .lit (.int .i64 0), .lit (.int .i64 0), .lit (.int .i64 0), .lit (.int .i64 0), .lit (.bool false), .lit (.int .i64 0), .lit (.int .i64 0), .lit (.int .i64 0), .lit (.int .i64 0)]⟩ :=
  ⟨⟨_, _, (by kernel_rfl : Try.prog.info? 114 = some ((Try.prog.info? 114).get (by kernel_rfl))), by kernel_rfl, (by kernel_rfl : _ = some (((Try.prog.info? 114).get (by kernel_rfl)).zero.get (by kernel_rfl))), by kernel_rfl⟩, rfl, ⟨_, Try.underlying114, by kernel_rfl, rfl⟩⟩
theorem tyF115 : TyF Try.prog 115 ⟨1, .sl 110 4 32, [.sl 110 4]⟩ :=
  ⟨⟨_, _, (by kernel_rfl : Try.prog.info? 115 = some ((Try.prog.info? 115).get (by kernel_rfl))), by kernel_rfl, (by kernel_rfl : _ = some (((Try.prog.info? 115).get (by kernel_rfl)).zero.get (by kernel_rfl))), by kernel_rfl⟩, rfl, ⟨Try.underlying115, _, _, (by kernel_rfl : Try.prog.info? 110 = some ((Try.prog.info? 110).get (by kernel_rfl))), by kernel_rfl, by kernel_rfl, (by kernel_rfl : _ = some (((Try.prog.info? 110).get (by kernel_rfl)).zero.get (by kernel_rfl))), by kernel_rfl, by decide, by kernel_rfl⟩⟩
theorem tyF116 : TyF Try.prog 116 ⟨1, .st [(0, 1)], [.sl 110 4]⟩ :=
  ⟨⟨_, _, (by kernel_rfl : Try.prog.info? 116 = some ((Try.prog.info? 116).get (by kernel_rfl))), by kernel_rfl, (by kernel_rfl : _ = some (((Try.prog.info? 116).get (by kernel_rfl)).zero.get (by kernel_rfl))), by kernel_rfl⟩, rfl, ⟨_, Try.underlying116, by kernel_rfl, rfl⟩⟩
theorem tyF117 : TyF Try.prog 117 ⟨1, .st [(0, 1)], [.sl 110 4]⟩ :=
  ⟨⟨_, _, (by kernel_rfl : Try.prog.info? 117 = some ((Try.prog.info? 117).get (by kernel_rfl))), by kernel_rfl, (by kernel_rfl : _ = some (((Try.prog.info? 117).get (by kernel_rfl)).zero.get (by kernel_rfl))), by kernel_rfl⟩, rfl, ⟨_, Try.underlying117, by kernel_rfl, rfl⟩⟩
theorem tyF124 : TyF Try.prog 124 ⟨7, .st [(0, 1), (1, 1), (2, 1), (3, 1), (4, 1), (5, 1), (6, 1)], [.lit (.int .i64 0), .lit (.int .i64 0), .lit (.int .i64 0), .lit (.int .i64 0), .lit (.int .i64 0), .lit (.int .i64 0), .lit (.int .i64 0)]⟩ :=
  ⟨⟨_, _, (by kernel_rfl : Try.prog.info? 124 = some ((Try.prog.info? 124).get (by kernel_rfl))), by kernel_rfl, (by kernel_rfl : _ = some (((Try.prog.info? 124).get (by kernel_rfl)).zero.get (by kernel_rfl))), by kernel_rfl⟩, rfl, ⟨_, Try.underlying124, by kernel_rfl, rfl⟩⟩
theorem tyF125 : TyF Try.prog 125 ⟨7, .st [(0, 1), (1, 1), (2, 1), (3, 1), (4, 1), (5, 1), (6, 1)], [.lit (.int .i64 0), .lit (.int .i64 0), .lit (.int .i64 0), .lit (.int .i64 0), .lit (.int .i64 0), .lit (.int .i64 0), .lit (.int .i64 0)]⟩ :=
  ⟨⟨_, _, (by kernel_rfl : Try.prog.info? 125 = some ((Try.prog.info? 125).get (by kernel_rfl))), by kernel_rfl, (by kernel_rfl : _ = some (((Try.prog.info? 125).get (by kernel_rfl)).zero.get (by kernel_rfl))), by kernel_rfl⟩, rfl, ⟨_, Try.underlying125, by kernel_rfl, rfl⟩⟩
theorem tyF129 : TyF Try.prog 129 ⟨1, .sl 190 4 32, [.sl 190 4]⟩ :=
  ⟨⟨_, _, (by kernel_rfl : Try.prog.info? 129 = some ((Try.prog.info? 129).get (by kernel_rfl))), by kernel_rfl, (by kernel_rfl : _ = some (((Try.prog.info? 129).get (by kernel_rfl)).zero.get (by kernel_rfl))), by kernel_rfl⟩, rfl, ⟨Try.underlying129, _, _, (by kernel_rfl : Try.prog.info? 190 = some ((Try.prog.info? 190).get (by kernel_rfl))), by kernel_rfl, by kernel_rfl, (by kernel_rfl : _ = some (((Try.prog.info? 190).get (by kernel_rfl)).zero.get (by kernel_rfl))), by kernel_rfl, by decide, by kernel_rfl⟩⟩
theorem tyF130 : TyF Try.prog 130 ⟨1, .st [(0, 1)], [.sl 190 4]⟩ :=
  ⟨⟨_, _, (by kernel_rfl : Try.prog.info? 130 = some ((Try.prog.info? 130).get (by kernel_rfl))), by kernel_rfl, (by kernel_rfl : _ = some (((Try.prog.info? 130).get (by kernel_rfl)).zero.get (by kernel_rfl))), by kernel_rfl⟩, rfl, ⟨_, Try.underlying130, by kernel_rfl, rfl⟩⟩
theorem tyF131 : TyF Try.prog 131 ⟨1, .st [(0, 1)], [.sl 190 4]⟩ :=
  ⟨⟨_, _, (by kernel_rfl : Try.prog.info? 131 = some ((Try.prog.info? 131).get (by kernel_rfl))), by kernel_rfl, (by kernel_rfl : _ = some (((Try.prog.info? 131).get (by kernel_rfl)).zero.get (by kernel_rfl))), by kernel_rfl⟩, rfl, ⟨_, Try.underlying131, by kernel_rfl, rfl⟩⟩
theorem tyF140 : TyF Try.prog 140 ⟨1, .sl 143 2 16, [.sl 143 2]⟩ :=
  ⟨⟨_, _, (by kernel_rfl : Try.prog.info? 140 = some ((Try.prog.info? 140).get (by kernel_rfl))), by kernel_rfl, (by kernel_rfl : _ = some (((Try.prog.info? 140).get (by kernel_rfl)).zero.get (by kernel_rfl))), by kernel_rfl⟩, rfl, ⟨Try.underlying140, _, _, (by kernel_rfl : Try.prog.info? 143 = some ((Try.prog.info? 143).get (by kernel_rfl))), by kernel_rfl, by kernel_rfl, (by kernel_rfl : _ = some (((Try.prog.info? 143).get (by kernel_rfl)).zero.get (by kernel_rfl))), by kernel_rfl, by decide, by kernel_rfl⟩⟩
theorem tyF142 : TyF Try.prog 142 ⟨2, .st [(0, 1), (1, 1)], [.lit (.int .i64 0), .lit (.int .i64 0)]⟩ :=
  ⟨⟨_, _, (by kernel_rfl : Try.prog.info? 142 = some ((Try.prog.info? 142).get (by kernel_rfl))), by kernel_rfl, (by kernel_rfl : _ = some (((Try.prog.info? 142).get (by kernel_rfl)).zero.get (by kernel_rfl))), by kernel_rfl⟩, rfl, ⟨_, Try.underlying142, by kernel_rfl, rfl⟩⟩
theorem tyF143 : TyF Try.prog 143 ⟨2, .st [(0, 1), (1, 1)], [.lit (.int .i64 0), .lit (.int .i64 0)]⟩ :=
  ⟨⟨_, _, (by kernel_rfl : Try.prog.info? 143 = some ((Try.prog.info? 143).get (by kernel_rfl))), by kernel_rfl, (by kernel_rfl : _ = some (((Try.prog.info? 143).get (by kernel_rfl)).zero.get (by kernel_rfl))), by kernel_rfl⟩, rfl, ⟨_, Try.underlying143, by kernel_rfl, rfl⟩⟩
theorem tyF147 : TyF Try.prog 147 ⟨1, .sl 247 3 24, [.sl 247 3]⟩ :=
  ⟨⟨_, _, (by kernel_rfl : Try.prog.info? 147 = some ((Try.prog.info? 147).get (by kernel_rfl))), by kernel_rfl, (by kernel_rfl : _ = some (((Try.prog.info? 147).get (by kernel_rfl)).zero.get (by kernel_rfl))), by kernel_rfl⟩, rfl, ⟨Try.underlying147, _, _, (by kernel_rfl : Try.prog.info? 247 = some ((Try.prog.info? 247).get (by kernel_rfl))), by kernel_rfl, by kernel_rfl, (by kernel_rfl : _ = some (((Try.prog.info? 247).get (by kernel_rfl)).zero.get (by kernel_rfl))), by kernel_rfl, by decide, by kernel_rfl⟩⟩
theorem tyF148 : TyF Try.prog 148 ⟨2, .st [(0, 1), (1, 1)], [.lit (.bool false), .sl 247 3]⟩ :=
  ⟨⟨_, _, (by kernel_rfl : Try.prog.info? 148 = some ((Try.prog.info? 148).get (by kernel_rfl))), by kernel_rfl, (by kernel_rfl : _ = some (((Try.prog.info? 148).get (by kernel_rfl)).zero.get (by kernel_rfl))), by kernel_rfl⟩, rfl, ⟨_, Try.underlying148, by kernel_rfl, rfl⟩⟩
theorem tyF149 : TyF Try.prog 149 ⟨2, .st [(0, 1), (1, 1)], [.lit (.bool false), .sl 247 3]⟩ :=
  ⟨⟨_, _, (by kernel_rfl : Try.prog.info? 149 = some ((Try.prog.info? 149).get (by kernel_rfl))), by kernel_rfl, (by kernel_rfl : _ = some (((Try.prog.info? 149).get (by kernel_rfl)).zero.get (by kernel_rfl))), by kernel_rfl⟩, rfl, ⟨_, Try.underlying149, by kernel_rfl, rfl⟩⟩
theorem tyF150 : TyF Try.prog 150 ⟨3, .st [(0, 1), (1, 1), (2, 1)], [.lit (.int .i64 0), .lit (.int .i64 0), .lit (.int .i64 0)]⟩ :=
  ⟨⟨_, _, (by kernel_rfl : Try.prog.info? 150 = some ((Try.prog.info? 150).get (by kernel_rfl))), by kernel_rfl, (by kernel_rfl : _ = some (((Try.prog.info? 150).get (by kernel_rfl)).zero.get (by kernel_rfl))), by kernel_rfl⟩, rfl, ⟨_, Try.underlying150, by kernel_rfl, rfl⟩⟩
theorem tyF151 : TyF Try.prog 151 ⟨3, .st [(0, 1), (1, 1), (2, 1)], [.lit (.int .i64 0), .lit (.int .i64 0), .lit (.int .i64 0)]⟩ :=
  ⟨⟨_, _, (by kernel_rfl : Try.prog.info? 151 = some ((Try.prog.info? 151).get (by kernel_rfl))), by kernel_rfl, (by kernel_rfl : _ = some (((Try.prog.info? 151).get (by kernel_rfl)).zero.get (by kernel_rfl))), by kernel_rfl⟩, rfl, ⟨_, Try.underlying151, by kernel_rfl, rfl⟩⟩
theorem tyF152 : TyF Try.prog 152 ⟨1, .sl 323 2 16, [.sl 323 2]⟩ :=
  ⟨⟨_, _, (by kernel_rfl : Try.prog.info? 152 = some ((Try.prog.info? 152).get (by kernel_rfl))), by kernel_rfl, (by kernel_rfl : _ = some (((Try.prog.info? 152).get (by kernel_rfl)).zero.get (by kernel_rfl))), by kernel_rfl⟩, rfl, ⟨Try.underlying152, _, _, (by kernel_rfl : Try.prog.info? 323 = some ((Try.prog.info? 323).get (by kernel_rfl))), by kernel_rfl, by kernel_rfl, (by kernel_rfl : _ = some (((Try.prog.info? 323).get (by kernel_rfl)).zero.get (by kernel_rfl))), by kernel_rfl, by decide, by kernel_rfl⟩⟩
theorem tyF153 : TyF Try.prog 153 ⟨1, .sl 327 3 24, [.sl 327 3]⟩ :=
  ⟨⟨_, _, (by kernel_rfl : Try.prog.info? 153 = some ((Try.prog.info? 153).get (by kernel_rfl))), by kernel_rfl, (by kernel_rfl : _ = some (((Try.prog.info? 153).get (by kernel_rfl)).zero.get (by kernel_rfl))), by kernel_rfl⟩, rfl, ⟨Try.underlying153, _, _, (by kernel_rfl : Try.prog.info? 327 = some ((Try.prog.info? 327).get (by kernel_rfl))), by kernel_rfl, by kernel_rfl, (by kernel_rfl : _ = some (((Try.prog.info? 327).get (by kernel_rfl)).zero.get (by kernel_rfl))), by kernel_rfl, by decide, by kernel_rfl⟩⟩
theorem tyF154 : TyF Try.prog 154 ⟨1, .sl 249 2 16, [.sl 249 2]⟩ :=
  ⟨⟨_, _, (by kernel_rfl : Try.prog.info? 154 = some ((Try.prog.info? 154).get (by kernel_rfl))), by kernel_rfl, (by kernel_rfl : _ = some (((Try.prog.info? 154).get (by kernel_rfl)).zero.get (by kernel_rfl))), by kernel_rfl⟩, rfl, ⟨Try.underlying154, _, _, (by kernel_rfl : Try.prog.info? 249 = some ((Try.prog.info? 249).get (by kernel_rfl))), by kernel_rfl, by kernel_rfl, (by kernel_rfl : _ = some (((Try.prog.info? 249).get (by kernel_rfl)).zero.get (by kernel_rfl))), by kernel_rfl, by decide, by kernel_rfl⟩⟩
theorem tyF155 : TyF Try.prog 155 ⟨32, .st [(0, 1), (1, 2), (3, 1), (4, 1), (5, 1), (6, 1), (7, 1), (8, 1), (9, 1), (10, 1), (11, 3), (14, 1), (15, 1), (16, 10), (26, 1), (27, 1), (28, 1), (29, 1), (30, 1), (31, 1)], [.lit (.bool false), .lit (.bool false), .sl 247 3, .lit (.int .i64 0), .lit (.int .i64 0), .lit (.int .i64 0), .lit (.int .i64 0), .lit (.int .i64 0), .lit (.int .i64 0), .lit (.int .i64 0), .lit (.int .i64 0), .lit (.int .i64 0), .lit (.int .i64 0), .lit (.int .i64 0), .lit (.bool false), .lit (.int .i64 0), .lit (.int .i64 0), .lit (.int .i64 0), .lit (.int .i64 0), .lit (.int .i64 0), .lit (.int .i64 0), .lit (.int .i64 0), .lit (.int .i64 0), .lit (.int .i64 0), .lit (.int .i64 0), .lit (.bool false), .sl 323 2, .sl 327 3, .sl 249 2, .sl 3 1, .sl 3 1, .sl 3 1]⟩ :=
  ⟨⟨_, _, (by kernel_rfl : Try.prog.info? 155 = some ((Try.prog.info? 155).get (by kernel_rfl))), by kernel_rfl, (by kernel_rfl : _ = some (((Try.prog.info? 155).get (by kernel_rfl)).zero.get (by kernel_rfl))), by kernel_rfl⟩, rfl, ⟨_, Try.underlying155, by kernel_rfl, rfl⟩⟩
theorem tyF156 : TyF Try.prog 156 ⟨32, .st [(0, 1), (1, 2), (3, 1), (4, 1), (5, 1), (6, 1), (7, 1), (8, 1), (9, 1), (10, 1), (11, 3), (14, 1), (15, 1), (16, 10), (26, 1), (27, 1), (28, 1), (29, 1), (30, 1), (31, 1)], [.lit (.bool false), .lit (.bool false), .sl 247 3, .lit (.int .i64 0), .lit (.int .i64 0), .lit (.int .i64 0), .lit (.int .i64 0), .lit (.int .i64 0), .lit (.int .i64 0), .lit (.int .i64 0), .lit (.int .i64 0), .lit (.int .i64 0), .lit (.int .i64 0), .lit (.int .i64 0), .lit (.bool false), .lit (.int .i64 0), .lit (.int .i64 0), .lit (.int .i64 0), .lit (.int .i64 0), .lit (.int .i64 0), .lit (.int .i64 0), .lit (.int .i64 0), .lit (.int .i64 0), .lit (.int .i64 0), .lit (.int .i64 0), .lit (.bool false), .sl 323 2, .sl 327 3, .sl 249 2, .sl 3 1, .sl 3 1, .sl 3 1]⟩ :=
  ⟨⟨_, _, (by kernel_rfl : Try.prog.info? 156 = some ((Try.prog.info? 156).get (by kernel_rfl))), by kernel_rfl, (by kernel_rfl : _ = some (((Try.prog.info? 156).get (by kernel_rfl)).zero.get (by kernel_rfl))), by kernel_rfl⟩, rfl, ⟨_, Try.underlying156, by kernel_rfl, rfl⟩⟩
theorem tyF157 : TyF Try.prog 157 ⟨1, .sl 149 2 32, [.sl 149 2]⟩ :=
  ⟨⟨_, _, (by kernel_rfl : Try.prog.info? 157 = some ((Try.prog.info? 157).get (by kernel_rfl))), by kernel_rfl, (by kernel_rfl : _ = some (((Try.prog.info? 157).get (by kernel_rfl)).zero.get (by kernel_rfl))), by kernel_rfl⟩, rfl, ⟨Try.underlying157, _, _, (by kernel_rfl : Try.prog.info? 149 = some ((Try.prog.info? 149).get (by kernel_rfl))), by kernel_rfl, by kernel_rfl, (by kernel_rfl : _ = some (((Try.prog.info? 149).get (by kernel_rfl)).zero.get (by kernel_rfl))), by kernel_rfl, by decide, by kernel_rfl⟩⟩
theorem tyF158 : TyF Try.prog 158 ⟨1, .st [(0, 1)], [.sl 149 2]⟩ :=
  ⟨⟨_, _, (by kernel_rfl : Try.prog.info? 158 = some ((Try.prog.info? 158).get (by kernel_rfl))), by kernel_rfl, (by kernel_rfl : _ = some (((Try.prog.info? 158).get (by kernel_rfl)).zero.get (by kernel_rfl))), by kernel_rfl⟩, rfl, ⟨_, Try.underlying158, by kernel_rfl, rfl⟩⟩
theorem tyF159 : TyF Try.prog 159 ⟨1, .st [(0, 1)], [.sl 149 2]⟩ :=
  ⟨⟨_, _, (by kernel_rfl : Try.prog.info? 159 = some ((Try.prog.info? 159).get (by kernel_rfl))), by kernel_rfl, (by kernel_rfl : _ = some (((Try.prog.info? 159).get (by kernel_rfl)).zero.get (by kernel_rfl))), by kernel_rfl⟩, rfl, ⟨_, Try.underlying159, by kernel_rfl, rfl⟩⟩
theorem tyF167 : TyF Try.prog 167 ⟨1, .sl 298 3 24, [.sl 298 3]⟩ :=
  ⟨⟨_, _, (by kernel_rfl : Try.prog.info? 167 = some ((Try.prog.info? 167).get (by kernel_rfl))), by kernel_rfl, (by kernel_rfl : _ = some (((Try.prog.info? 167).get (by kernel_rfl)).zero.get (by kernel_rfl))), by kernel_rfl⟩, rfl, ⟨Try.underlying167, _, _, (by kernel_rfl : Try.prog.info? 298 = some ((Try.prog.info? 298).get (by kernel_rfl))), by kernel_rfl, by kernel_rfl, (by kernel_rfl : _ = some (((Try.prog.info? 298).get (by kernel_rfl)).zero.get (by kernel_rfl))), by kernel_rfl, by decide, by kernel_rfl⟩⟩
theorem tyF168 : TyF Try.prog 168 ⟨1, .sl 300 2 16, [.sl 300 2]⟩ :=
  ⟨⟨_, _, (by kernel_rfl : Try.prog.info? 168 = some ((Try.prog.info? 168).get (by kernel_rfl))), by kernel_rfl, (by kernel_rfl : _ = some (((Try.prog.info? 168).get (by kernel_rfl)).zero.get (by kernel_rfl))), by kernel_rfl⟩, rfl, ⟨Try.underlying168, _, _, (by kernel_rfl : Try.prog.info? 300 = some ((Try.prog.info? 300).get (by kernel_rfl))), by kernel_rfl, by kernel_rfl, (by kernel_rfl : _ = some (((Try.prog.info? 300).get (by kernel_rfl)).zero.get (by kernel_rfl))), by kernel_rfl, by decide, by kernel_rfl⟩⟩
theorem tyF169 : TyF Try.prog 169 ⟨6, .st [(0, 1), (1, 1), (2, 1), (3, 1), (4, 1), (5, 1)], [.lit (.int .i64 0), .lit (.int .i64 0), .lit (.int .i64 0), .lit (.int .i64 0), .sl 298 3, .sl 300 2]⟩ :=
  ⟨⟨_, _, (by kernel_rfl : Try.prog.info? 169 = some ((Try.prog.info? 169).get (by kernel_rfl))), by kernel_rfl, (by kernel_rfl : _ = some (((Try.prog.info? 169).get (by kernel_rfl)).zero.get (by kernel_rfl))), by kernel_rfl⟩, rfl, ⟨_, Try.underlying169, by kernel_rfl, rfl⟩⟩
theorem tyF170 : TyF Try.prog 170 ⟨6, .st [(0, 1), (1, 1), (2, 1), (3, 1), (4, 1), (5, 1)], [.lit (.int .i64 0), .lit (.int .i64 0), .lit (.int .i64 0), .lit (.int .i64 0), .sl 298 3, .sl 300 2]⟩ :=
  ⟨⟨_, _, (by kernel_rfl : Try.prog.info? 170 = some ((Try.prog.info? 170).get (by kernel_rfl))), by kernel_rfl, (by kernel_rfl : _ = some (((Try.prog.info? 170).get (by kernel_rfl)).zero.get (by kernel_rfl))), by kernel_rfl⟩, rfl, ⟨_, Try.underlying170, by kernel_rfl, rfl⟩⟩
theorem tyF173 : TyF Try.prog 173 ⟨6, .st [(0, 1), (1, 1), (2, 1), (3, 1), (4, 1), (5, 1)], [.lit (.int .i64 0), .lit (.int .i64 0), .lit (.int .i64 0), .lit (.int .i64 0), .sl 247 3, .sl 249 2]⟩ :=
  ⟨⟨_, _, (by kernel_rfl : Try.prog.info? 173 = some ((Try.prog.info? 173).get (by kernel_rfl))), by kernel_rfl, (by kernel_rfl : _ = some (((Try.prog.info? 173).get (by kernel_rfl)).zero.get (by kernel_rfl))), by kernel_rfl⟩, rfl, ⟨_, Try.underlying173, by kernel_rfl, rfl⟩⟩
theorem tyF174 : TyF Try.prog 174 ⟨6, .st [(0, 1), (1, 1), (2, 1), (3, 1), (4, 1), (5, 1)], [.lit (.int .i64 0), .lit (.int .i64 0), .lit (.int .i64 0), .lit (.int .i64 0), .sl 247 3, .sl 249 2]⟩ :=
  ⟨⟨_, _, (by kernel_rfl : Try.prog.info? 174 = some ((Try.prog.info? 174).get (by kernel_rfl))), by kernel_rfl, (by kernel_rfl : _ = some (((Try.prog.info? 174).get (by kernel_rfl)).zero.get (by kernel_rfl))), by kernel_rfl⟩, rfl, ⟨_, Try.underlying174, by kernel_rfl, rfl⟩⟩
theorem tyF178 : TyF Try.prog 178 ⟨2, .st [(0, 1), (1, 1)], [.lit (.int .i64 0), .lit (.int .i64 0)]⟩ :=
  ⟨⟨_, _, (by kernel_rfl : Try.prog.info? 178 = some ((Try.prog.info? 178).get (by kernel_rfl))), by kernel_rfl, (by kernel_rfl : _ = some (((Try.prog.info? 178).get (by kernel_rfl)).zero.get (by kernel_rfl))), by kernel_rfl⟩, rfl, ⟨_, Try.underlying178, by kernel_rfl, rfl⟩⟩
theorem tyF179 : TyF Try.prog 179 ⟨2, .st [(0, 1), (1, 1)], [.lit (.int .i64 0), .lit (.int .i64 0)]⟩ :=
  ⟨⟨_, _, (by kernel_rfl : Try.prog.info? 179 = some ((Try.prog.info? 179).get (by kernel_rfl))), by kernel_rfl, (by kernel_rfl : _ = some (((Try.prog.info? 179).get (by kernel_rfl)).zero.get (by kernel_rfl))), by kernel_rfl⟩, rfl, ⟨_, Try.underlying179, by kernel_rfl, rfl⟩⟩
theorem tyF190 : TyF Try.prog 190 ⟨4, .st [(0, 1), (1, 1), (2, 1), (3, 1)], [.lit (.int .i64 0), .lit (.int .i64 0), .lit (.int .i64 0), .lit (.int .i64 0)]⟩ :=
  ⟨⟨_, _, (by kernel_rfl : Try.prog.info? 190 = some ((Try.prog.info? 190).get (by kernel_rfl))), by kernel_rfl, (by kernel_rfl : _ = some (((Try.prog.info? 190).get (by kernel_rfl)).zero.get (by kernel_rfl))), by kernel_rfl⟩, rfl, ⟨_, Try.underlying190, by kernel_rfl, rfl⟩⟩
theorem tyF191 : TyF Try.prog 191 ⟨10, .st [(0, 1), (1, 1), (2, 1), (3, 1), (4, 1), (5, 1), (6, 1), (7, 1), (8, 1), (9, 1)], [.lit (.int .i64 0), .lit (.int .i64 0), .lit (.int .i64 0), .lit (.int .i64 0), .lit (.int .i64 0), .lit (.int .i64 0), .lit (.int .i64 0), .lit (.int .i64 0), .lit (.int .i64 0), .lit (.bool false)]⟩ :=
  ⟨⟨_, _, (by kernel_rfl : Try.prog.info? 191 = some ((Try.prog.info? 191).get (by kernel_rfl))), by kernel_rfl, (by kernel_rfl : _ = some (((Try.prog.info? 191).get (by kernel_rfl)).zero.get (by kernel_rfl))), by kernel_rfl⟩, rfl, ⟨_, Try.underlying191, by kernel_rfl, rfl⟩⟩
theorem tyF192 : TyF Try.prog 192 ⟨21, .st [(0, 1), (1, 4), (5, 1), (6, 1), (7, 10), (17, 1), (18, 1), (19, 1), (20, 1)], [.lit (.bool false), .lit (.int .i64 0), .lit (.int .i64 0), .lit (.int .i64 0), .lit (.int .i64 0), .lit (.int .i64 0), .lit (.int .i64 0), .lit (.int .i64 0), .lit (.int .i64 0), .lit (.int .i64 0), .lit (.int .i64 0), .lit (.int .i64 0), .lit (.int .i64 0), .lit (.int .i64 0), .lit (.int .i64 0), .lit (.int .i64 0), .lit (.bool false), .lit (.int .i64 0), .lit (.int .i64 0), .lit (.int .i64 0), .lit (.int .i64 0)]⟩ :=
  ⟨⟨_, _, (by kernel_rfl : Try.prog.info? 192 = some ((Try.prog.info? 192).get (by kernel_rfl))), by kernel_rfl, (by kernel_rfl : _ = some (((Try.prog.info? 192).get (by kernel_rfl)).zero.get (by kernel_rfl))), by kernel_rfl⟩, rfl, ⟨_, Try.underlying192, by kernel_rfl, rfl⟩⟩
theorem tyF193 : TyF Try.prog 193 ⟨21, .st [(0, 1), (1, 4), (5, 1), (6, 1), (7, 10), (17, 1), (18, 1), (19, 1), (20, 1)], [.lit (.bool false), .lit (.int .i64 0), .lit (.int .i64 0), .lit (.int .i64 0), .lit (.int .i64 0), .lit (.int .i64 0), .lit (.int .i64 0), .lit (.int .i64 0), .lit (.int .i64 0), .lit (.int .i64 0), .lit (.int .i64 0), .lit (.int .i64 0), .lit (.int .i64 0), .lit (.int .i64 0), .lit (.int .i64 0), .lit (.int .i64 0), .lit (.bool false), .lit (.int .i64 0), .lit (.int .i64 0), .lit (.int .i64 0), .lit (.int .i64 0)]⟩ :=
  ⟨⟨_, _, (by kernel_rfl : Try.prog.info? 193 = some ((Try.prog.info? 193).get (by kernel_rfl))), by kernel_rfl, (by kernel_rfl : _ = some (((Try.prog.info? 193).get (by kernel_rfl)).zero.get (by kernel_rfl))), by kernel_rfl⟩, rfl, ⟨_, Try.underlying193, by kernel_rfl, rfl⟩⟩
theorem tyF195 : TyF Try.prog 195 ⟨7, .st [(0, 1), (1, 1), (2, 1), (3, 1), (4, 1), (5, 1), (6, 1)], [.lit (.int .i64 0), .lit (.int .i64 0), .lit (.int .i64 0), .lit (.int .i64 0), .lit (.int .i64 0), .lit (.int .i64 0), .lit (.int .i64 0)]⟩ :=
  ⟨⟨_, _, (by kernel_rfl : Try.prog.info? 195 = some ((Try.prog.info? 195).get (by kernel_rfl))), by kernel_rfl, (by kernel_rfl : _ = some (((Try.prog.info? 195).get (by kernel_rfl)).zero.get (by kernel_rfl))), by kernel_rfl⟩, rfl, ⟨_, Try.underlying195, by kernel_rfl, rfl⟩⟩
theorem tyF212 : TyF Try.prog 212 ⟨1, .st [(0, 1)], [.sl 143 2]⟩ :=
  ⟨⟨_, _, (by kernel_rfl : Try.prog.info? 212 = some ((Try.prog.info? 212).get (by kernel_rfl))), by kernel_rfl, (by kernel_rfl : _ = some (((Try.prog.info? 212).get (by kernel_rfl)).zero.get (by kernel_rfl))), by kernel_rfl⟩, rfl, ⟨_, Try.underlying212, by kernel_rfl, rfl⟩⟩
theorem tyF213 : TyF Try.prog 213 ⟨1, .st [(0, 1)], [.sl 143 2]⟩ :=
  ⟨⟨_, _, (by kernel_rfl : Try.prog.info? 213 = some ((Try.prog.info? 213).get (by kernel_rfl))), by kernel_rfl, (by kernel_rfl : _ = some (((Try.prog.info? 213).get (by kernel_rfl)).zero.get (by kernel_rfl))), by kernel_rfl⟩, rfl, ⟨_, Try.underlying213, by kernel_rfl, rfl⟩⟩
theorem tyF215 : TyF Try.prog 215 ⟨2, .st [(0, 1), (1, 1)], [.lit (.bool false), .sl 298 3]⟩ :=
  ⟨⟨_, _, (by kernel_rfl : Try.prog.info? 215 = some ((Try.prog.info? 215).get (by kernel_rfl))), by kernel_rfl, (by kernel_rfl : _ = some (((Try.prog.info? 215).get (by kernel_rfl)).zero.get (by kernel_rfl))), by kernel_rfl⟩, rfl, ⟨_, Try.underlying215, by kernel_rfl, rfl⟩⟩
theorem tyF216 : TyF Try.prog 216 ⟨2, .st [(0, 1), (1, 1)], [.lit (.bool false), .sl 298 3]⟩ :=
  ⟨⟨_, _, (by kernel_rfl : Try.prog.info? 216 = some ((Try.prog.info? 216).get (by kernel_rfl))), by kernel_rfl, (by kernel_rfl : _ = some (((Try.prog.info? 216).get (by kernel_rfl)).zero.get (by kernel_rfl))), by kernel_rfl⟩, rfl, ⟨_, Try.underlying216, by kernel_rfl, rfl⟩⟩
theorem tyF217 : TyF Try.prog 217 ⟨3, .st [(0, 1), (1, 1), (2, 1)], [.lit (.int .i64 0), .lit (.int .i64 0), .lit (.int .i64 0)]⟩ :=
  ⟨⟨_, _, (by kernel_rfl : Try.prog.info? 217 = some ((Try.prog.info? 217).get (by kernel_rfl))), by kernel_rfl, (by kernel_rfl : _ = some (((Try.prog.info? 217).get (by kernel_rfl)).zero.get (by kernel_rfl))), by kernel_rfl⟩, rfl, ⟨_, Try.underlying217, by kernel_rfl, rfl⟩⟩
theorem tyF218 : TyF Try.prog 218 ⟨1, .sl 325 2 16, [.sl 325 2]⟩ :=
  ⟨⟨_, _, (by kernel_rfl : Try.prog.info? 218 = some ((Try.prog.info? 218).get (by kernel_rfl))), by kernel_rfl, (by kernel_rfl : _ = some (((Try.prog.info? 218).get (by kernel_rfl)).zero.get (by kernel_rfl))), by kernel_rfl⟩, rfl, ⟨Try.underlying218, _, _, (by kernel_rfl : Try.prog.info? 325 = some ((Try.prog.info? 325).get (by kernel_rfl))), by kernel_rfl, by kernel_rfl, (by kernel_rfl : _ = some (((Try.prog.info? 325).get (by kernel_rfl)).zero.get (by kernel_rfl))), by kernel_rfl, by decide, by kernel_rfl⟩⟩
theorem tyF219 : TyF Try.prog 219 ⟨1, .sl 329 3 24, [.sl 329 3]⟩ :=
  ⟨⟨_, _, (by kernel_rfl : Try.prog.info? 219 = some ((Try.prog.info? 219).get (by kernel_rfl))), by kernel_rfl, (by kernel_rfl : _ = some (((Try.prog.info? 219).get (by kernel_rfl)).zero.get (by kernel_rfl))), by kernel_rfl⟩, rfl, ⟨Try.underlying219, _, _, (by kernel_rfl : Try.prog.info? 329 = some ((Try.prog.info? 329).get (by kernel_rfl))), by kernel_rfl, by kernel_rfl, (by kernel_rfl : _ = some (((Try.prog.info? 329).get (by kernel_rfl)).zero.get (by kernel_rfl))), by kernel_rfl, by decide, by kernel_rfl⟩⟩
theorem tyF220 : TyF Try.prog 220 ⟨32, .st [(0, 1), (1, 2), (3, 1), (4, 1), (5, 1), (6, 1), (7, 1), (8, 1), (9, 1), (10, 1), (11, 3), (14, 1), (15, 1), (16, 10), (26, 1), (27, 1), (28, 1), (29, 1), (30, 1), (31, 1)], [.lit (.bool false), .lit (.bool false), .sl 298 3, .lit (.int .i64 0), .lit (.int .i64 0), .lit (.int .i64 0), .lit (.int .i64 0), .lit (.int .i64 0), .lit (.int .i64 0), .lit (.int .i64 0), .lit (.int .i64 0), .lit (.int .i64 0), .lit (.int .i64 0), .lit (.int .i64 0), .lit (.bool false), .lit (.int .i64 0), .lit (.int .i64 0), .lit (.int .i64 0), .lit (.int .i64 0), .lit (.int .i64 0), .lit (.int .i64 0), .lit (.int .i64 0), .lit (.int .i64 0), .lit (.int .i64 0), .lit (.int .i64 0), .lit (.bool false), .sl 325 2, .sl 329 3, .sl 300 2, .sl 3 1, .sl 3 1, .sl 3 1]⟩ :=
  ⟨⟨_, _, (by kernel_rfl : Try.prog.info? 220 = some ((Try.prog.info? 220).get (by kernel_rfl))), by kernel_rfl, (by kernel_rfl : _ = some (((Try.prog.info? 220).get (by kernel_rfl)).zero.get (by kernel_rfl))), by kernel_rfl⟩, rfl, ⟨_, Try.underlying220, by kernel_rfl, rfl⟩⟩
theorem tyF221 : TyF Try.prog 221 ⟨32, .st [(0, 1), (1, 2), (3, 1), (4, 1), (5, 1), (6, 1), (7, 1), (8, 1), (9, 1), (10, 1), (11, 3), (14, 1), (15, 1), (16, 10), (26, 1), (27, 1), (28, 1), (29, 1), (30, 1), (31, 1)], [.lit (.bool false), .lit (.bool false), .sl 298 3, .lit (.int .i64 0), .lit (.int .i64 0), .lit (.int .i64 0), .lit (.int .i64 0), .lit (.int .i64 0), .lit (.int .i64 0), .lit (.int .i64 0), .lit (.int .i64 0), .lit (.int .i64 0), .lit (.int .i64 0), .lit (.int .i64 0), .lit (.bool false), .lit (.int .i64 0), .lit (.int .i64 0), .lit (.int .i64 0), .lit (.int .i64 0), .lit (.int .i64 0), .lit (.int .i64 0), .lit (.int .i64 0), .lit (.int .i64 0), .lit (.int .i64 0), .lit (.int .i64 0), .lit (.bool false), .sl 325 2, .sl 329 3, .sl 300 2, .sl 3 1, .sl 3 1, .sl 3 1]⟩ :=
  ⟨⟨_, _, (by kernel_rfl : Try.prog.info? 221 = some ((Try.prog.info? 221).get (by kernel_rfl))), by kernel_rfl, (by kernel_rfl : _ = some (((Try.prog.info? 221).get (by kernel_rfl)).zero.get (by kernel_rfl))), by kernel_rfl⟩, rfl, ⟨_, Try.underlying221, by kernel_rfl, rfl⟩⟩
theorem tyF223 : TyF Try.prog 223 ⟨1, .sl 216 2 32, [.sl 216 2]⟩ :=
  ⟨⟨_, _, (by kernel_rfl : Try.prog.info? 223 = some ((Try.prog.info? 223).get (by kernel_rfl))), by kernel_rfl, (by kernel_rfl : _ = some (((Try.prog.info? 223).get (by kernel_rfl)).zero.get (by kernel_rfl))), by kernel_rfl⟩, rfl, ⟨Try.underlying223, _, _, (by kernel_rfl : Try.prog.info? 216 = some ((Try.prog.info? 216).get (by kernel_rfl))), by kernel_rfl, by kernel_rfl, (by kernel_rfl : _ = some (((Try.prog.info? 216).get (by kernel_rfl)).zero.get (by kernel_rfl))), by kernel_rfl, by decide, by kernel_rfl⟩⟩
theorem tyF224 : TyF Try.prog 224 ⟨1, .st [(0, 1)], [.sl 216 2]⟩ :=
  ⟨⟨_, _, (by kernel_rfl : Try.prog.info? 224 = some ((Try.prog.info? 224).get (by kernel_rfl))), by kernel_rfl, (by kernel_rfl : _ = some (((Try.prog.info? 224).get (by kernel_rfl)).zero.get (by kernel_rfl))), by kernel_rfl⟩, rfl, ⟨_, Try.underlying224, by kernel_rfl, rfl⟩⟩
theorem tyF225 : TyF Try.prog 225 ⟨1, .st [(0, 1)], [.sl 216 2]⟩ :=
  ⟨⟨_, _, (by kernel_rfl : Try.prog.info? 225 = some ((Try.prog.info? 225).get (by kernel_rfl))), by kernel_rfl, (by kernel_rfl : _ = some (((Try.prog.info? 225).get (by kernel_rfl)).zero.get (by kernel_rfl))), by kernel_rfl⟩, rfl, ⟨_, Try.underlying225, by kernel_rfl, rfl⟩⟩
theorem tyF226 : TyF Try.prog 226 ⟨3, .st [(0, 1), (1, 1), (2, 1)], [.lit (.int .i64 0), .lit (.int .i64 0), .lit (.int .i64 0)]⟩ :=
  ⟨⟨_, _, (by kernel_rfl : Try.prog.info? 226 = some ((Try.prog.info? 226).get (by kernel_rfl))), by kernel_rfl, (by kernel_rfl : _ = some (((Try.prog.info? 226).get (by kernel_rfl)).zero.get (by kernel_rfl))), by kernel_rfl⟩, rfl, ⟨_, Try.underlying226, by kernel_rfl, rfl⟩⟩
theorem tyF227 : TyF Try.prog 227 ⟨3, .st [(0, 1), (1, 1), (2, 1)], [.lit (.int .i64 0), .lit (.int .i64 0), .lit (.int .i64 0)]⟩ :=
  ⟨⟨_, _, (by kernel_rfl : Try.prog.info? 227 = some ((Try.prog.info? 227).get (by kernel_rfl))), by kernel_rfl, (by kernel_rfl : _ = some (((Try.prog.info? 227).get (by kernel_rfl)).zero.get (by kernel_rfl))), by kernel_rfl⟩, rfl, ⟨_, Try.underlying227, by kernel_rfl, rfl⟩⟩
theorem tyF229 : TyF Try.prog 229 ⟨3, .st [(0, 1), (1, 1), (2, 1)], [.lit (.int .i64 0), .lit (.int .i64 0), .lit (.int .i64 0)]⟩ :=
  ⟨⟨_, _, (by kernel_rfl : Try.prog.info? 229 = some ((Try.prog.info? 229).get (by kernel_rfl))), by kernel_rfl, (by kernel_rfl : _ = some (((Try.prog.info? 229).get (by kernel_rfl)).zero.get (by kernel_rfl))), by kernel_rfl⟩, rfl, ⟨_, Try.underlying229, by kernel_rfl, rfl⟩⟩
theorem tyF246 : TyF Try.prog 246 ⟨3, .st [(0, 1), (1, 1), (2, 1)], [.lit (.int .i64 0), .lit (.int .i64 0), .lit (.int .i64 0)]⟩ :=
  ⟨⟨_, _, (by kernel_rfl : Try.prog.info? 246 = some ((Try.prog.info? 246).get (by kernel_rfl))), by kernel_rfl, (by kernel_rfl : _ = some (((Try.prog.info? 246).get (by kernel_rfl)).zero.get (by kernel_rfl))), by kernel_rfl⟩, rfl, ⟨_, Try.underlying246, by kernel_rfl, rfl⟩⟩
theorem tyF247 : TyF Try.prog 247 ⟨3, .st [(0, 1), (1, 1), (2, 1)], [.lit (.int .i64 0), .lit (.int .i64 0), .lit (.int .i64 0)]⟩ :=
  ⟨⟨_, _, (by kernel_rfl : Try.prog.info? 247 = some ((Try.prog.info? 247).get (by kernel_rfl))), by kernel_rfl, (by kernel_rfl : _ = some (((Try.prog.info? 247).get (by kernel_rfl)).zero.get (by kernel_rfl))), by kernel_rfl⟩, rfl, ⟨_, Try.underlying247, by kernel_rfl, rfl⟩⟩
theorem tyF248 : TyF Try.prog 248 ⟨2, .st [(0, 1), (1, 1)], [.lit (.bool false), .lit (.int .i64 0)]⟩ :=
  ⟨⟨_, _, (by kernel_rfl : Try.prog.info? 248 = some ((Try.prog.info? 248).get (by kernel_rfl))), by kernel_rfl, (by kernel_rfl : _ = some (((Try.prog.info? 248).get (by kernel_rfl)).zero.get (by kernel_rfl))), by kernel_rfl⟩, rfl, ⟨_, Try.underlying248, by kernel_rfl, rfl⟩⟩
theorem tyF249 : TyF Try.prog 249 ⟨2, .st [(0, 1), (1, 1)], [.lit (.bool false), .lit (.int .i64 0)]⟩ :=
  ⟨⟨_, _, (by kernel_rfl : Try.prog.info? 249 = some ((Try.prog.info? 249).get (by kernel_rfl))), by kernel_rfl, (by kernel_rfl : _ = some (((Try.prog.info? 249).get (by kernel_rfl)).zero.get (by kernel_rfl))), by kernel_rfl⟩, rfl, ⟨_, Try.underlying249, by kernel_rfl, rfl⟩⟩
theorem tyF254 : TyF Try.prog 254 ⟨1, .sl 343 2 16, [.sl 343 2]⟩ :=
  ⟨⟨_, _, (by kernel_rfl : Try.prog.info? 254 = some ((Try.prog.info? 254).get (by kernel_rfl))), by kernel_rfl, (by kernel_rfl : _ = some (((Try.prog.info? 254).get (by kernel_rfl)).zero.get (by kernel_rfl))), by kernel_rfl⟩, rfl, ⟨Try.underlying254, _, _, (by kernel_rfl : Try.prog.info? 343 = some ((Try.prog.info? 343).get (by kernel_rfl))), by kernel_rfl, by kernel_rfl, (by kernel_rfl : _ = some (((Try.prog.info? 343).get (by kernel_rfl)).zero.get (by kernel_rfl))), by kernel_rfl, by decide, by kernel_rfl⟩⟩
theorem tyF255 : TyF Try.prog 255 ⟨1, .st [(0, 1)], [.sl 343 2]⟩ :=
  ⟨⟨_, _, (by kernel_rfl : Try.prog.info? 255 = some ((Try.prog.info? 255).get (by kernel_rfl))), by kernel_rfl, (by kernel_rfl : _ = some (((Try.prog.info? 255).get (by kernel_rfl)).zero.get (by kernel_rfl))), by kernel_rfl⟩, rfl, ⟨_, Try.underlying255, by kernel_rfl, rfl⟩⟩
theorem tyF256 : TyF Try.prog 256 ⟨1, .st [(0, 1)], [.sl 343 2]⟩ :=
  ⟨⟨_, _, (by kernel_rfl : Try.prog.info? 256 = some ((Try.prog.info? 256).get (by kernel_rfl))), by kernel_rfl, (by kernel_rfl : _ = some (((Try.prog.info? 256).get (by kernel_rfl)).zero.get (by kernel_rfl))), by kernel_rfl⟩, rfl, ⟨_, Try.underlying256, by kernel_rfl, rfl⟩⟩
theorem tyF269 : TyF Try.prog 269 ⟨4, .st [(0, 1), (1, 1), (2, 1), (3, 1)], [.lit (.bool false), .lit (.int .i64 0), .lit (.bool false), .lit (.int .i64 0)]⟩ :=
  ⟨⟨_, _, (by kernel_rfl : Try.prog.info? 269 = some ((Try.prog.info? 269).get (by kernel_rfl))), by kernel_rfl, (by kernel_rfl : _ = some (((Try.prog.info? 269).get (by kernel_rfl)).zero.get (by kernel_rfl))), by kernel_rfl⟩, rfl, ⟨_, Try.underlying269, by kernel_rfl, rfl⟩⟩
theorem tyF270 : TyF Try.prog 270 ⟨4, .st [(0, 1), (1, 1), (2, 1), (3, 1)], [.lit (.bool false), .lit (.int .i64 0), .lit (.bool false), .lit (.int .i64 0)]⟩ :=
  ⟨⟨_, _, (by kernel_rfl : Try.prog.info? 270 = some ((Try.prog.info? 270).get (by kernel_rfl))), by kernel_rfl, (by kernel_rfl : _ = some (((Try.prog.info? 270).get (by kernel_rfl)).zero.get (by kernel_rfl))), by kernel_rfl⟩, rfl, ⟨_, Try.underlying270, by kernel_rfl, rfl⟩⟩
theorem tyF298 : TyF Try.prog 298 ⟨3, .st [(0, 1), (1, 1), (2, 1)], [.lit (.int .i64 0), .lit (.int .i64 0), .lit (.int .i64 0)]⟩ :=
  ⟨⟨_, _, (by kernel_rfl : Try.prog.info? 298 = some ((Try.prog.info? 298).get (by kernel_rfl))), by kernel_rfl, (by kernel_rfl : _ = some (((Try.prog.info? 298).get (by kernel_rfl)).zero.get (by kernel_rfl))), by kernel_rfl⟩, rfl, ⟨_, Try.underlying298, by kernel_rfl, rfl⟩⟩
theorem tyF300 : TyF Try.prog 300 ⟨2, .st [(0, 1), (1, 1)], [.lit (.bool false), .lit (.int .i64 0)]⟩ :=
  ⟨⟨_, _, (by kernel_rfl : Try.prog.info? 300 = some ((Try.prog.info? 300).get (by kernel_rfl))), by kernel_rfl, (by kernel_rfl : _ = some (((Try.prog.info? 300).get (by kernel_rfl)).zero.get (by kernel_rfl))), by kernel_rfl⟩, rfl, ⟨_, Try.underlying300, by kernel_rfl, rfl⟩⟩
theorem tyF304 : TyF Try.prog 304 ⟨12, .arr 6 249 2, [.lit (.bool false), .lit (.int .i64 0), .lit (.bool false), .lit (.int .i64 0), .lit (.bool false), .lit (.int .i64 0), .lit (.bool false), .lit (.int .i64 0), .lit (.bool false), .lit (.int .i64 0), .lit (.bool false), .lit (.int .i64 0)]⟩ :=
  ⟨⟨_, _, (by kernel_rfl : Try.prog.info? 304 = some ((Try.prog.info? 304).get (by kernel_rfl))), by kernel_rfl, (by kernel_rfl : _ = some (((Try.prog.info? 304).get (by kernel_rfl)).zero.get (by kernel_rfl))), by kernel_rfl⟩, rfl, ⟨Try.underlying304, _, (by kernel_rfl : Try.prog.info? 249 = some ((Try.prog.info? 249).get (by kernel_rfl))), by kernel_rfl⟩⟩
theorem tyF312 : TyF Try.prog 312 ⟨4, .st [(0, 1), (1, 1), (2, 1), (3, 1)], [.lit (.bool false), .lit (.int .i64 0), .lit (.bool false), .lit (.int .i64 0)]⟩ :=
  ⟨⟨_, _, (by kernel_rfl : Try.prog.info? 312 = some ((Try.prog.info? 312).get (by kernel_rfl))), by kernel_rfl, (by kernel_rfl : _ = some (((Try.prog.info? 312).get (by kernel_rfl)).zero.get (by kernel_rfl))), by kernel_rfl⟩, rfl, ⟨_, Try.underlying312, by kernel_rfl, rfl⟩⟩
theorem tyF317 : TyF Try.prog 317 ⟨1, .st [(0, 1)], [.sl 3 1]⟩ :=
  ⟨⟨_, _, (by kernel_rfl : Try.prog.info? 317 = some ((Try.prog.info? 317).get (by kernel_rfl))), by kernel_rfl, (by kernel_rfl : _ = some (((Try.prog.info? 317).get (by kernel_rfl)).zero.get (by kernel_rfl))), by kernel_rfl⟩, rfl, ⟨_, Try.underlying317, by kernel_rfl, rfl⟩⟩
theorem tyF318 : TyF Try.prog 318 ⟨1, .st [(0, 1)], [.sl 3 1]⟩ :=
  ⟨⟨_, _, (by kernel_rfl : Try.prog.info? 318 = some ((Try.prog.info? 318).get (by kernel_rfl))), by kernel_rfl, (by kernel_rfl : _ = some (((Try.prog.info? 318).get (by kernel_rfl)).zero.get (by kernel_rfl))), by kernel_rfl⟩, rfl, ⟨_, Try.underlying318, by kernel_rfl, rfl⟩⟩
theorem tyF322 : TyF Try.prog 322 ⟨2, .st [(0, 1), (1, 1)], [.lit (.int .i64 0), .lit (.int .i64 0)]⟩ :=
  ⟨⟨_, _, (by kernel_rfl : Try.prog.info? 322 = some ((Try.prog.info? 322).get (by kernel_rfl))), by kernel_rfl, (by kernel_rfl : _ = some (((Try.prog.info? 322).get (by kernel_rfl)).zero.get (by kernel_rfl))), by kernel_rfl⟩, rfl, ⟨_, Try.underlying322, by kernel_rfl, rfl⟩⟩
theorem tyF323 : TyF Try.prog 323 ⟨2, .st [(0, 1), (1, 1)], [.lit (.int .i64 0), .lit (.int .i64 0)]⟩ :=
  ⟨⟨_, _, (by kernel_rfl : Try.prog.info? 323 = some ((Try.prog.info? 323).get (by kernel_rfl))), by kernel_rfl, (by kernel_rfl : _ = some (((Try.prog.info? 323).get (by kernel_rfl)).zero.get (by kernel_rfl))), by kernel_rfl⟩, rfl, ⟨_, Try.underlying323, by kernel_rfl, rfl⟩⟩
theorem tyF325 : TyF Try.prog 325 ⟨2, .st [(0, 1), (1, 1)], [.lit (.int .i64 0), .lit (.int .i64 0)]⟩ :=
  ⟨⟨_, _, (by kernel_rfl : Try.prog.info? 325 = some ((Try.prog.info? 325).get (by kernel_rfl))), by kernel_rfl, (by kernel_rfl : _ = some (((Try.prog.info? 325).get (by kernel_rfl)).zero.get (by kernel_rfl))), by kernel_rfl⟩, rfl, ⟨_, Try.underlying325, by kernel_rfl, rfl⟩⟩
theorem tyF326 : TyF Try.prog 326 ⟨3, .st [(0, 1), (1, 1), (2, 1)], [.lit (.int .i64 0), .lit (.bool false), .lit (.int .i64 0)]⟩ :=
  ⟨⟨_, _, (by kernel_rfl : Try.prog.info? 326 = some ((Try.prog.info? 326).get (by kernel_rfl))), by kernel_rfl, (by kernel_rfl : _ = some (((Try.prog.info? 326).get (by kernel_rfl)).zero.get (by kernel_rfl))), by kernel_rfl⟩, rfl, ⟨_, Try.underlying326, by kernel_rfl, rfl⟩⟩
theorem tyF327 : TyF Try.prog 327 ⟨3, .st [(0, 1), (1, 1), (2, 1)], [.lit (.int .i64 0), .lit (.bool false), .lit (.int .i64 0)]⟩ :=
  ⟨⟨_, _, (by kernel_rfl : Try.prog.info? 327 = some ((Try.prog.info? 327).get (by kernel_rfl))), by kernel_rfl, (by kernel_rfl : _ = some (((Try.prog.info? 327).get (by kernel_rfl)).zero.get (by kernel_rfl))), by kernel_rfl⟩, rfl, ⟨_, Try.underlying327, by kernel_rfl, rfl⟩⟩
theorem tyF329 : TyF Try.prog 329 ⟨3, .st [(0, 1), (1, 1), (2, 1)], [.lit (.int .i64 0), .lit (.bool false), .lit (.int .i64 0)]⟩ :=
  ⟨⟨_, _, (by kernel_rfl : Try.prog.info? 329 = some ((Try.prog.info? 329).get (by kernel_rfl))), by kernel_rfl, (by kernel_rfl : _ = some (((Try.prog.info? 329).get (by kernel_rfl)).zero.get (by kernel_rfl))), by kernel_rfl⟩, rfl, ⟨_, Try.underlying329, by kernel_rfl, rfl⟩⟩
theorem tyF340 : TyF Try.prog 340 ⟨1, .st [(0, 1)], [.sl 3 1]⟩ :=
  ⟨⟨_, _, (by kernel_rfl : Try.prog.info? 340 = some ((Try.prog.info? 340).get (by kernel_rfl))), by kernel_rfl, (by kernel_rfl : _ = some (((Try.prog.info? 340).get (by kernel_rfl)).zero.get (by kernel_rfl))), by kernel_rfl⟩, rfl, ⟨_, Try.underlying340, by kernel_rfl, rfl⟩⟩
theorem tyF343 : TyF Try.prog 343 ⟨2, .st [(0, 1), (1, 1)], [.lit (.int .i64 0), .lit (.int .i64 0)]⟩ :=
  ⟨⟨_, _, (by kernel_rfl : Try.prog.info? 343 = some ((Try.prog.info? 343).get (by kernel_rfl))), by kernel_rfl, (by kernel_rfl : _ = some (((Try.prog.info? 343).get (by kernel_rfl)).zero.get (by kernel_rfl))), by kernel_rfl⟩, rfl, ⟨_, Try.underlying343, by kernel_rfl, rfl⟩⟩
theorem tyF345 : TyF Try.prog 345 ⟨1, .sc, [.lit (.int .u64 0)]⟩ :=
  ⟨⟨_, _, (by kernel_rfl : Try.prog.info? 345 = some ((Try.prog.info? 345).get (by kernel_rfl))), by kernel_rfl, (by kernel_rfl : _ = some (((Try.prog.info? 345).get (by kernel_rfl)).zero.get (by kernel_rfl))), by kernel_rfl⟩, rfl, ⟨_, Try.underlying345, rfl⟩⟩
theorem tyF351 : TyF Try.prog 351 ⟨1, .sc, [.lit (.int .u32 0)]⟩ :=
  ⟨⟨_, _, (by kernel_rfl : Try.prog.info? 351 = some ((Try.prog.info? 351).get (by kernel_rfl))), by kernel_rfl, (by kernel_rfl : _ = some (((Try.prog.info? 351).get (by kernel_rfl)).zero.get (by kernel_rfl))), by kernel_rfl⟩, rfl, ⟨_, Try.underlying351, rfl⟩⟩
theorem tyF354 : TyF Try.prog 354 ⟨1, .sc, [.lit (.int .u64 0)]⟩ :=
  ⟨⟨_, _, (by kernel_rfl : Try.prog.info? 354 = some ((Try.prog.info? 354).get (by kernel_rfl))), by kernel_rfl, (by kernel_rfl : _ = some (((Try.prog.info? 354).get (by kernel_rfl)).zero.get (by kernel_rfl))), by kernel_rfl⟩, rfl, ⟨_, Try.underlying354, rfl⟩⟩
theorem tyF368 : TyF Try.prog 368 ⟨1, .sc, [.lit (.int .u8 0)]⟩ :=
  ⟨⟨_, _, (by kernel_rfl : Try.prog.info? 368 = some ((Try.prog.info? 368).get (by kernel_rfl))), by kernel_rfl, (by kernel_rfl : _ = some (((Try.prog.info? 368).get (by kernel_rfl)).zero.get (by kernel_rfl))), by kernel_rfl⟩, rfl, ⟨_, Try.underlying368, rfl⟩⟩
theorem tyF369 : TyF Try.prog 369 ⟨1, .sc, [.lit (.int .u8 0)]⟩ :=
  ⟨⟨_, _, (by kernel_rfl : Try.prog.info? 369 = some ((Try.prog.info? 369).get (by kernel_rfl))), by kernel_rfl, (by kernel_rfl : _ = some (((Try.prog.info? 369).get (by kernel_rfl)).zero.get (by kernel_rfl))), by kernel_rfl⟩, rfl, ⟨_, Try.underlying369, rfl⟩⟩
theorem tyF372 : TyF Try.prog 372 ⟨1, .sc, [.lit (.int .i32 0)]⟩ :=
  ⟨⟨_, _, (by kernel_rfl : Try.prog.info? 372 = some ((Try.prog.info? 372).get (by kernel_rfl))), by kernel_rfl, (by kernel_rfl : _ = some (((Try.prog.info? 372).get (by kernel_rfl)).zero.get (by kernel_rfl))), by kernel_rfl⟩, rfl, ⟨_, Try.underlying372, rfl⟩⟩
theorem tyF373 : TyF Try.prog 373 ⟨1, .sc, [.lit (.int .i32 0)]⟩ :=
  ⟨⟨_, _, (by kernel_rfl : Try.prog.info? 373 = some ((Try.prog.info? 373).get (by kernel_rfl))), by kernel_rfl, (by kernel_rfl : _ = some (((Try.prog.info? 373).get (by kernel_rfl)).zero.get (by kernel_rfl))), by kernel_rfl⟩, rfl, ⟨_, Try.underlying373, rfl⟩⟩
theorem tyOk : TOk Try.prog tyT := by
  intro t i h
  unfold tyT at h
  split at h
  · injection h with h; subst h; exact tyF2
  · injection h with h; subst h; exact tyF3
  · injection h with h; subst h; exact tyF4
  · injection h with h; subst h; exact tyF5
  · injection h with h; subst h; exact tyF6
  · injection h with h; subst h; exact tyF7
  · injection h with h; subst h; exact tyF8
  · injection h with h; subst h; exact tyF12
  · injection h with h; subst h; exact tyF21
  · injection h with h; subst h; exact tyF22
  · injection h with h; subst h; exact tyF23
  · injection h with h; subst h; exact tyF24
  · injection h with h; subst h; exact tyF25
  · injection h with h; subst h; exact tyF26
  · injection h with h; subst h; exact tyF27
  · injection h with h; subst h; exact tyF28
  · injection h with h; subst h; exact tyF29
  · injection h with h; subst h; exact tyF30
  · injection h with h; subst h; exact tyF31
  · injection h with h; subst h; exact tyF32
  · injection h with h; subst h; exact tyF33
  · injection h with h; subst h; exact tyF34
  · injection h with h; subst h; exact tyF35
  · injection h with h; subst h; exact tyF36
  · injection h with h; subst h; exact tyF37
  · injection h with h; subst h; exact tyF38
  · injection h with h; subst h; exact tyF39
  · injection h with h; subst h; exact tyF40
  · injection h with h; subst h; exact tyF43
  · injection h with h; subst h; exact tyF44
  · injection h with h; subst h; exact tyF45
  · injection h with h; subst h; exact tyF46
  · injection h with h; subst h; exact tyF47
  · injection h with h; subst h; exact tyF48
  · injection h with h; subst h; exact tyF49
  · injection h with h; subst h; exact tyF50
  · injection h with h; subst h; exact tyF51
  · injection h with h; subst h; exact tyF52
  · injection h with h; subst h; exact tyF53
  · injection h with h; subst h; exact tyF54
  · injection h with h; subst h; exact tyF55
  · injection h with h; subst h; exact tyF56
  · injection h with h; subst h; exact tyF57
  · injection h with h; subst h; exact tyF58
  · injection h with h; subst h; exact tyF59
  · injection h with h; subst h; exact tyF77
  · injection h with h; subst h; exact tyF78
  · injection h with h; subst h; exact tyF79
  · injection h with h; subst h; exact tyF80
  · injection h with h; subst h; exact tyF81
  · injection h with h; subst h; exact tyF82
  · injection h with h; subst h; exact tyF85
  · injection h with h; subst h; exact tyF86
  · injection h with h; subst h; exact tyF87
  · injection h with h; subst h; exact tyF88
  · injection h with h; subst h; exact tyF89
  · injection h with h; subst h; exact tyF90
  · injection h with h; subst h; exact tyF95
  · injection h with h; subst h; exact tyF109
  · injection h with h; subst h; exact tyF110
  · injection h with h; subst h; exact tyF111
  · injection h with h; subst h; exact tyF112
  · injection h with h; subst h; exact tyF113
  · injection h with h; subst h; exact tyF114
  · injection h with h; subst h; exact tyF115
  · injection h with h; subst h; exact tyF116
  · injection h with h; subst h; exact tyF117
  · injection h with h; subst h; exact tyF124
  · injection h with h; subst h; exact tyF125
  · injection h with h; subst h; exact tyF129
  · injection h with h; subst h; exact tyF130
  · injection h with h; subst h; exact tyF131
  · injection h with h; subst h; exact tyF140
  · injection h with h; subst h; exact tyF142
  · injection h with h; subst h; exact tyF143
  · injection h with h; subst h; exact tyF147
  · injection h with h; subst h; exact tyF148
  · injection h with h; subst h; exact tyF149
  · injection h with h; subst h; exact tyF150
  · injection h with h; subst h; exact tyF151
  · injection h with h; subst h; exact tyF152
  · injection h with h; subst h; exact tyF153
  · injection h with h; subst h; exact tyF154
  · injection h with h; subst h; exact tyF155
  · injection h with h; subst h; exact tyF156
  · injection h with h; subst h; exact tyF157
  · injection h with h; subst h; exact tyF158
  · injection h with h; subst h; exact tyF159
  · injection h with h; subst h; exact tyF167
  · injection h with h; subst h; exact tyF168
  · injection h with h; subst h; exact tyF169
  · injection h with h; subst h; exact tyF170
  · injection h with h; subst h; exact tyF173
  · injection h with h; subst h; exact tyF174
  · injection h with h; subst h; exact tyF178
  · injection h with h; subst h; exact tyF179
  · injection h with h; subst h; exact tyF190
  · injection h with h; subst h; exact tyF191
  · injection h with h; subst h; exact tyF192
  · injection h with h; subst h; exact tyF193
  · injection h with h; subst h; exact tyF195
  · injection h with h; subst h; exact tyF212
  · injection h with h; subst h; exact tyF213
  · injection h with h; subst h; exact tyF215
  · injection h with h; subst h; exact tyF216
  · injection h with h; subst h; exact tyF217
  · injection h with h; subst h; exact tyF218
  · injection h with h; subst h; exact tyF219
  · injection h with h; subst h; exact tyF220
  · injection h with h; subst h; exact tyF221
  · injection h with h; subst h; exact tyF223
  · injection h with h; subst h; exact tyF224
  · injection h with h; subst h; exact tyF225
  · injection h with h; subst h; exact tyF226
  · injection h with h; subst h; exact tyF227
  · injection h with h; subst h; exact tyF229
  · injection h with h; subst h; exact tyF246
  · injection h with h; subst h; exact tyF247
  · injection h with h; subst h; exact tyF248
  · injection h with h; subst h; exact tyF249
  · injection h with h; subst h; exact tyF254
  · injection h with h; subst h; exact tyF255
  · injection h with h; subst h; exact tyF256
  · injection h with h; subst h; exact tyF269
  · injection h with h; subst h; exact tyF270
  · injection h with h; subst h; exact tyF298
  · injection h with h; subst h; exact tyF300
  · injection h with h; subst h; exact tyF304
  · injection h with h; subst h; exact tyF312
  · injection h with h; subst h; exact tyF317
  · injection h with h; subst h; exact tyF318
  · injection h with h; subst h; exact tyF322
  · injection h with h; subst h; exact tyF323
  · injection h with h; subst h; exact tyF325
  · injection h with h; subst h; exact tyF326
  · injection h with h; subst h; exact tyF327
  · injection h with h; subst h; exact tyF329
  · injection h with h; subst h; exact tyF340
  · injection h with h; subst h; exact tyF343
  · injection h with h; subst h; exact tyF345
  · injection h with h; subst h; exact tyF351
  · injection h with h; subst h; exact tyF354
  · injection h with h; subst h; exact tyF368
  · injection h with h; subst h; exact tyF369
  · injection h with h; subst h; exact tyF372
  · injection h with h; subst h; exact tyF373
  · cases h
end Go.Proofs.Ytlnlogflhagocaa

