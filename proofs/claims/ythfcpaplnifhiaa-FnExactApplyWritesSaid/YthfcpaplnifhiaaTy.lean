/- The types of the program that the proofs speak of. -/
import Derived.Test.YthfcpaplnifhiaaProg
import Derived.Test.YthfcpaplnifhiaaTrc
import Derived.KernelRfl
namespace Go.Proofs.Ythfcpaplnifhiaa
open Go Go.Tr
set_option linter.unusedVariables false
set_option linter.unusedSimpArgs false
set_option maxRecDepth 100000
def tyT : Nat → Option TyI
  | 2 => some ⟨1, .sc, [.lit (.int .i64 0)]⟩
  | 3 => some ⟨1, .sc, [.lit (.int .i64 0)]⟩
  | 4 => some ⟨1, .sc, [.lit (.bool false)]⟩
  | 5 => some ⟨1, .sc, [.lit (.int .u8 0)]⟩
  | 6 => some ⟨1, .sc, [.lit (.int .u8 0)]⟩
  | 7 => some ⟨4, .st [(0, 1), (1, 1), (2, 1), (3, 1)], [.lit (.int .i64 0), .lit (.int .i64 0), .lit (.bool false), .lit (.int .u8 0)]⟩
  | 8 => some ⟨4, .st [(0, 1), (1, 1), (2, 1), (3, 1)], [.lit (.int .i64 0), .lit (.int .i64 0), .lit (.bool false), .lit (.int .u8 0)]⟩
  | 12 => some ⟨1, .sc, [.lit (.int .u64 0)]⟩
  | 21 => some ⟨1, .sc, [.lit (.int .i32 0)]⟩
  | 22 => some ⟨1, .sl 122 2 16, [.sl 122 2]⟩
  | 24 => some ⟨1, .sl 120 2 16, [.sl 120 2]⟩
  | 30 => some ⟨1, .sl 32 3 24, [.sl 32 3]⟩
  | 31 => some ⟨3, .st [(0, 1), (1, 1), (2, 1)], [.lit (.int .i64 0), .lit (.bool false), .lit (.int .i64 0)]⟩
  | 32 => some ⟨3, .st [(0, 1), (1, 1), (2, 1)], [.lit (.int .i64 0), .lit (.bool false), .lit (.int .i64 0)]⟩
  | 34 => some ⟨1, .sl 37 3 24, [.sl 37 3]⟩
  | 37 => some ⟨3, .st [(0, 1), (1, 1), (2, 1)], [.lit (.int .i64 0), .lit (.bool false), .lit (.int .i64 0)]⟩
  | 42 => some ⟨3, .st [(0, 1), (1, 1), (2, 1)], [.lit (.int .i64 0), .lit (.int .i64 0), .lit (.int .i64 0)]⟩
  | 43 => some ⟨3, .st [(0, 1), (1, 1), (2, 1)], [.lit (.int .i64 0), .lit (.int .i64 0), .lit (.int .i64 0)]⟩
  | 44 => some ⟨2, .st [(0, 1), (1, 1)], [.lit (.bool false), .lit (.int .i64 0)]⟩
  | 45 => some ⟨2, .st [(0, 1), (1, 1)], [.lit (.bool false), .lit (.int .i64 0)]⟩
  | 48 => some ⟨3, .st [(0, 1), (1, 1), (2, 1)], [.lit (.int .i64 0), .lit (.int .i64 0), .lit (.int .i64 0)]⟩
  | 52 => some ⟨1, .sl 43 3 24, [.sl 43 3]⟩
  | 54 => some ⟨1, .sl 45 2 16, [.sl 45 2]⟩
  | 57 => some ⟨1, .sl 48 3 24, [.sl 48 3]⟩
  | 66 => some ⟨1, .sl 138 6 80, [.sl 138 6]⟩
  | 70 => some ⟨1, .sl 142 6 80, [.sl 142 6]⟩
  | 77 => some ⟨1, .sl 5 1 1, [.sl 5 1]⟩
  | 92 => some ⟨1, .sl 3 1 8, [.sl 3 1]⟩
  | 95 => some ⟨1, .sl 157 2 16, [.sl 157 2]⟩
  | 107 => some ⟨1, .sl 165 4 32, [.sl 165 4]⟩
  | 108 => some ⟨2, .st [(0, 1), (1, 1)], [.lit (.int .i64 0), .sl 165 4]⟩
  | 109 => some ⟨2, .st [(0, 1), (1, 1)], [.lit (.int .i64 0), .sl 165 4]⟩
  | 119 => some ⟨2, .st [(0, 1), (1, 1)], [.lit (.int .i64 0), .lit (.int .i64 0)]⟩
  | 120 => some ⟨2, .st [(0, 1), (1, 1)], [.lit (.int .i64 0), .lit (.int .i64 0)]⟩
  | 122 => some ⟨2, .st [(0, 1), (1, 1)], [.lit (.int .i64 0), .lit (.int .i64 0)]⟩
  | 136 => some ⟨1, .sl 185 2 16, [.sl 185 2]⟩
  | 137 => some ⟨6, .st [(0, 1), (1, 1), (2, 1), (3, 1), (4, 1), (5, 1)], [.lit (.int .i64 0), .lit (.int .i64 0), .lit (.int .i64 0), .lit (.int .i64 0), .sl 43 3, .sl 185 2]⟩
  | 138 => some ⟨6, .st [(0, 1), (1, 1), (2, 1), (3, 1), (4, 1), (5, 1)], [.lit (.int .i64 0), .lit (.int .i64 0), .lit (.int .i64 0), .lit (.int .i64 0), .sl 43 3, .sl 185 2]⟩
  | 141 => some ⟨6, .st [(0, 1), (1, 1), (2, 1), (3, 1), (4, 1), (5, 1)], [.lit (.int .i64 0), .lit (.int .i64 0), .lit (.int .i64 0), .lit (.int .i64 0), .sl 48 3, .sl 45 2]⟩
  | 142 => some ⟨6, .st [(0, 1), (1, 1), (2, 1), (3, 1), (4, 1), (5, 1)], [.lit (.int .i64 0), .lit (.int .i64 0), .lit (.int .i64 0), .lit (.int .i64 0), .sl 48 3, .sl 45 2]⟩
  | 154 => some ⟨2, .arr 2 4 1, [.lit (.bool false), .lit (.bool false)]⟩
  | 156 => some ⟨2, .st [(0, 1), (1, 1)], [.lit (.int .i64 0), .lit (.int .i64 0)]⟩
  | 157 => some ⟨2, .st [(0, 1), (1, 1)], [.lit (.int .i64 0), .lit (.int .i64 0)]⟩
  | 164 => some ⟨4, .st [(0, 1), (1, 1), (2, 1), (3, 1)], [.lit (.bool false), .lit (.int .i64 0), .lit (.bool false), .lit (.int .i64 0)]⟩
  | 165 => some ⟨4, .st [(0, 1), (1, 1), (2, 1), (3, 1)], [.lit (.bool false), .lit (.int .i64 0), .lit (.bool false), .lit (.int .i64 0)]⟩
  | 176 => some ⟨3, .st [(0, 1), (1, 1), (2, 1)], [.sl 5 1, .lit (.int .i64 0), .lit (.int .i64 0)]⟩
  | 177 => some ⟨3, .st [(0, 1), (1, 1), (2, 1)], [.sl 5 1, .lit (.int .i64 0), .lit (.int .i64 0)]⟩
  | 185 => some ⟨2, .st [(0, 1), (1, 1)], [.lit (.bool false), .lit (.int .i64 0)]⟩
  | 188 => some ⟨12, .arr 6 45 2, [.lit (.bool false), .lit (.int .i64 0), .lit (.bool false), .lit (.int .i64 0), .lit (.bool false), .lit (.int .i64 0), .lit (.bool false), .lit (.int .i64 0), .lit (.bool false), .lit (.int .i64 0), .lit (.bool false), .lit (.int .i64 0)]⟩
  | 190 => some ⟨1, .sc, [.lit (.int .u64 0)]⟩
  | 201 => some ⟨1, .sc, [.lit (.int .u32 0)]⟩
  | 202 => some ⟨1, .sc, [.lit (.int .u8 0)]⟩
  | 203 => some ⟨1, .sc, [.lit (.int .u8 0)]⟩
  | 206 => some ⟨1, .sc, [.lit (.int .i32 0)]⟩
  | 207 => some ⟨1, .sc, [.lit (.int .i32 0)]⟩
  | _ => none
theorem tyF2 : TyF Try.prog 2 ⟨1, .sc, [.lit (.int .i64 0)]⟩ :=
  ⟨⟨_, _, (by kernel_rfl : Try.prog.info? 2 = some ((Try.prog.info? 2).get (by kernel_rfl))), by kernel_rfl, (by kernel_rfl : _ = some (((Try.prog.info? 2).get (by kernel_rfl)).zero.get (by kernel_rfl))), by kernel_rfl⟩, rfl, ⟨_, Try.underlying2, rfl⟩⟩
theorem tyF3 : TyF Try.prog 3 ⟨1, .sc, [.lit (.int .i64 0)]⟩ :=
  ⟨⟨_, _, (by kernel_rfl : Try.prog.info? 3 = some ((Try.prog.info? 3).get (by kernel_rfl))), by kernel_rfl, (by kernel_rfl : _ = some (((Try.prog.info? 3).get (by kernel_rfl)).zero.get (by kernel_rfl))), by kernel_rfl⟩, rfl, ⟨_, Try.underlying3, rfl⟩⟩
theorem tyF4 : TyF Try.prog 4 ⟨1, .sc, [.lit (.bool false)]⟩ :=
  ⟨⟨_, _, (by kernel_rfl : Try.prog.info? 4 = some ((Try.prog.info? 4).get (by kernel_rfl))), by kernel_rfl, (by kernel_rfl : _ = some (((Try.prog.info? 4).get (by kernel_rfl)).zero.get (by kernel_rfl))), by kernel_rfl⟩, rfl, ⟨_, Try.underlying4, rfl⟩⟩
theorem tyF5 : TyF Try.prog 5 ⟨1, .sc, [.lit (.int .u8 0)]⟩ :=
  ⟨⟨_, _, (by kernel_rfl : Try.prog.info? 5 = some ((Try.prog.info? 5).get (by kernel_rfl))), by kernel_rfl, (by kernel_rfl : _ = some (((Try.prog.info? 5).get (by kernel_rfl)).zero.get (by kernel_rfl))), by kernel_rfl⟩, rfl, ⟨_, Try.underlying5, rfl⟩⟩
theorem tyF6 : TyF Try.prog 6 ⟨1, .sc, [.lit (.int .u8 0)]⟩ :=
  ⟨⟨_, _, (by kernel_rfl : Try.prog.info? 6 = some ((Try.prog.info? 6).get (by kernel_rfl))), by kernel_rfl, (by kernel_rfl : _ = some (((Try.prog.info? 6).get (by kernel_rfl)).zero.get (by kernel_rfl))), by kernel_rfl⟩, rfl, ⟨_, Try.underlying6, rfl⟩⟩
theorem tyF7 : TyF Try.prog 7 ⟨4, .st [(0, 1), (1, 1), (2, 1), (3, 1)], [.lit (.int .i64 0), .lit (.int .i64 0), .lit (.bool false), .lit (.int .u8 0)]⟩ :=
  ⟨⟨_, _, (by kernel_rfl : Try.prog.info? 7 = some ((Try.prog.info? 7).get (by kernel_rfl))), by kernel_rfl, (by kernel_rfl : _ = some (((Try.prog.info? 7).get (by kernel_rfl)).zero.get (by kernel_rfl))), by kernel_rfl⟩, rfl, ⟨_, Try.underlying7, by kernel_rfl, rfl⟩⟩
theorem tyF8 : TyF Try.prog 8 ⟨4, .st [(0, 1), (1, 1), (2, 1), (3, 1)], [.lit (.int .i64 0), .lit (.int .i64 0), .lit (.bool false), .lit (.int .u8 0)]⟩ :=
  ⟨⟨_, _, (by kernel_rfl : Try.prog.info? 8 = some ((Try.prog.info? 8).get (by kernel_rfl))), by kernel_rfl, (by kernel_rfl : _ = some (((Try.prog.info? 8).get (by kernel_rfl)).zero.get (by kernel_rfl))), by kernel_rfl⟩, rfl, ⟨_, Try.underlying8, by kernel_rfl, rfl⟩⟩
theorem tyF12 : TyF Try.prog 12 ⟨1, .sc, [.lit (.int .u64 0)]⟩ :=
  ⟨⟨_, _, (by kernel_rfl : Try.prog.info? 12 = some ((Try.prog.info? 12).get (by kernel_rfl))), by kernel_rfl, (by kernel_rfl : _ = some (((Try.prog.info? 12).get (by kernel_rfl)).zero.get (by kernel_rfl))), by kernel_rfl⟩, rfl, ⟨_, Try.underlying12, rfl⟩⟩
theorem tyF21 : TyF Try.prog 21 ⟨1, .sc, [.lit (.int .i32 0)]⟩ :=
  ⟨⟨_, _, (by kernel_rfl : Try.prog.info? 21 = some ((Try.prog.info? 21).get (by kernel_rfl))), by kernel_rfl, (by kernel_rfl : _ = some (((Try.prog.info? 21).get (by kernel_rfl)).zero.get (by kernel_rfl))), by kernel_rfl⟩, rfl, ⟨_, Try.underlying21, rfl⟩⟩
theorem tyF22 : TyF Try.prog 22 ⟨1, .sl 122 2 16, [.sl 122 2]⟩ :=
  ⟨⟨_, _, (by kernel_rfl : Try.prog.info? 22 = some ((Try.prog.info? 22).get (by kernel_rfl))), by kernel_rfl, (by kernel_rfl : _ = some (((Try.prog.info? 22).get (by kernel_rfl)).zero.get (by kernel_rfl))), by kernel_rfl⟩, rfl, ⟨Try.underlying22, _, _, (by kernel_rfl : Try.prog.info? 122 = some ((Try.prog.info? 122).get (by kernel_rfl))), by kernel_rfl, by kernel_rfl, (by kernel_rfl : _ = some (((Try.prog.info? 122).get (by kernel_rfl)).zero.get (by kernel_rfl))), by kernel_rfl, by decide, by kernel_rfl⟩⟩
theorem tyF24 : TyF Try.prog 24 ⟨1, .sl 120 2 16, [.sl 120 2]⟩ :=
  ⟨⟨_, _, (by kernel_rfl : Try.prog.info? 24 = some ((Try.prog.info? 24).get (by kernel_rfl))), by kernel_rfl, (by kernel_rfl : _ = some (((Try.prog.info? 24).get (by kernel_rfl)).zero.get (by kernel_rfl))), by kernel_rfl⟩, rfl, ⟨Try.underlying24, _, _, (by kernel_rfl : Try.prog.info? 120 = some ((Try.prog.info? 120).get (by kernel_rfl))), by kernel_rfl, by kernel_rfl, (by kernel_rfl : _ = some (((Try.prog.info? 120).get (by kernel_rfl)).zero.get (by kernel_rfl))), by kernel_rfl, by decide, by kernel_rfl⟩⟩
theorem tyF30 : TyF Try.prog 30 ⟨1, .sl 32 3 24, [.sl 32 3]⟩ :=
  ⟨⟨_, _, (by kernel_rfl : Try.prog.info? 30 = some ((Try.prog.info? 30).get (by kernel_rfl))), by kernel_rfl, (by kernel_rfl : _ = some (((Try.prog.info? 30).get (by kernel_rfl)).zero.get (by kernel_rfl))), by kernel_rfl⟩, rfl, ⟨Try.underlying30, _, _, (by kernel_rfl : Try.prog.info? 32 = some ((Try.prog.info? 32).get (by kernel_rfl))), by kernel_rfl, by kernel_rfl, (by kernel_rfl : _ = some (((Try.prog.info? 32).get (by kernel_rfl)).zero.get (by kernel_rfl))), by kernel_rfl, by decide, by kernel_rfl⟩⟩
theorem tyF31 : TyF Try.prog 31 ⟨3, .st [(0, 1), (1, 1), (2, 1)], [.lit (.int .i64 0), .lit (.bool false), .lit (.int .i64 0)]⟩ :=
  ⟨⟨_, _, (by kernel_rfl : Try.prog.info? 31 = some ((Try.prog.info? 31).get (by kernel_rfl))), by kernel_rfl, (by kernel_rfl : _ = some (((Try.prog.info? 31).get (by kernel_rfl)).zero.get (by kernel_rfl))), by kernel_rfl⟩, rfl, ⟨_, Try.underlying31, by kernel_rfl, rfl⟩⟩
theorem tyF32 : TyF Try.prog 32 ⟨3, .st [(0, 1), (1, 1), (2, 1)], [.lit (.int .i64 0), .lit (.bool false), .lit (.int .i64 0)]⟩ :=
  ⟨⟨_, _, (by kernel_rfl : Try.prog.info? 32 = some ((Try.prog.info? 32).get (by kernel_rfl))), by kernel_rfl, (by kernel_rfl : _ = some (((Try.prog.info? 32).get (by kernel_rfl)).zero.get (by kernel_rfl))), by kernel_rfl⟩, rfl, ⟨_, Try.underlying32, by kernel_rfl, rfl⟩⟩
theorem tyF34 : TyF Try.prog 34 ⟨1, .sl 37 3 24, [.sl 37 3]⟩ :=
  ⟨⟨_, _, (by kernel_rfl : Try.prog.info? 34 = some ((Try.prog.info? 34).get (by kernel_rfl))), by kernel_rfl, (by kernel_rfl : _ = some (((Try.prog.info? 34).get (by kernel_rfl)).zero.get (by kernel_rfl))), by kernel_rfl⟩, rfl, ⟨Try.underlying34, _, _, (by kernel_rfl : Try.prog.info? 37 = some ((Try.prog.info? 37).get (by kernel_rfl))), by kernel_rfl, by kernel_rfl, (by kernel_rfl : _ = some (((Try.prog.info? 37).get (by kernel_rfl)).zero.get (by kernel_rfl))), by kernel_rfl, by decide, by kernel_rfl⟩⟩
theorem tyF37 : TyF Try.prog 37 ⟨3, .st [(0, 1), (1, 1), (2, 1)], [.lit (.int .i64 0), .lit (.bool false), .lit (.int .i64 0)]⟩ :=
  ⟨⟨_, _, (by kernel_rfl : Try.prog.info? 37 = some ((Try.prog.info? 37).get (by kernel_rfl))), by kernel_rfl, (by kernel_rfl : _ = some (((Try.prog.info? 37).get (by kernel_rfl)).zero.get (by kernel_rfl))), by kernel_rfl⟩, rfl, ⟨_, Try.underlying37, by kernel_rfl, rfl⟩⟩
theorem tyF42 : TyF Try.prog 42 ⟨3, .st [(0, 1), (1, 1), (2, 1)], [.lit (.int .i64 0), .lit (.int .i64 0), .lit (.int .i64 0)]⟩ :=
  ⟨⟨_, _, (by kernel_rfl : Try.prog.info? 42 = some ((Try.prog.info? 42).get (by kernel_rfl))), by kernel_rfl, (by kernel_rfl : _ = some (((Try.prog.info? 42).get (by kernel_rfl)).zero.get (by kernel_rfl))), by kernel_rfl⟩, rfl, ⟨_, Try.underlying42, by kernel_rfl, rfl⟩⟩
theorem tyF43 : TyF Try.prog 43 ⟨3, .st [(0, 1), (1, 1), (2, 1)], [.lit (.int .i64 0), .lit (.int .i64 0), .lit (.int .i64 0)]⟩ :=
  ⟨⟨_, _, (by kernel_rfl : Try.prog.info? 43 = some ((Try.prog.info? 43).get (by kernel_rfl))), by kernel_rfl, (by kernel_rfl : _ = some (((Try.prog.info? 43).get (by kernel_rfl)).zero.get (by kernel_rfl))), by kernel_rfl⟩, rfl, ⟨_, Try.underlying43, by kernel_rfl, rfl⟩⟩
theorem tyF44 : TyF Try.prog 44 ⟨2, .st [(0, 1), (1, 1)], [.lit (.bool false), .lit (.int .i64 0)]⟩ :=
  ⟨⟨_, _, (by kernel_rfl : Try.prog.info? 44 = some ((Try.prog.info? 44).get (by kernel_rfl))), by kernel_rfl, (by kernel_rfl : _ = some (((Try.prog.info? 44).get (by kernel_rfl)).zero.get (by kernel_rfl))), by kernel_rfl⟩, rfl, ⟨_, Try.underlying44, by kernel_rfl, rfl⟩⟩
theorem tyF45 : TyF Try.prog 45 ⟨2, .st [(0, 1), (1, 1)], [.lit (.bool false), .lit (.int .i64 0)]⟩ :=
  ⟨⟨_, _, (by kernel_rfl : Try.prog.info? 45 = some ((Try.prog.info? 45).get (by kernel_rfl))), by kernel_rfl, (by kernel_rfl : _ = some (((Try.prog.info? 45).get (by kernel_rfl)).zero.get (by kernel_rfl))), by kernel_rfl⟩, rfl, ⟨_, Try.underlying45, by kernel_rfl, rfl⟩⟩
theorem tyF48 : TyF Try.prog 48 ⟨3, .st [(0, 1), (1, 1), (2, 1)], [.lit (.int .i64 0), .lit (.int .i64 0), .lit (.int .i64 0)]⟩ :=
  ⟨⟨_, _, (by kernel_rfl : Try.prog.info? 48 = some ((Try.prog.info? 48).get (by kernel_rfl))), by kernel_rfl, (by kernel_rfl : _ = some (((Try.prog.info? 48).get (by kernel_rfl)).zero.get (by kernel_rfl))), by kernel_rfl⟩, rfl, ⟨_, Try.underlying48, by kernel_rfl, rfl⟩⟩
theorem tyF52 : TyF Try.prog 52 ⟨1, .sl 43 3 24, [.sl 43 3]⟩ :=
  ⟨⟨_, _, (by kernel_rfl : Try.prog.info? 52 = some ((Try.prog.info? 52).get (by kernel_rfl))), by kernel_rfl, (by kernel_rfl : _ = some (((Try.prog.info? 52).get (by kernel_rfl)).zero.get (by kernel_rfl))), by kernel_rfl⟩, rfl, ⟨Try.underlying52, _, _, (by kernel_rfl : Try.prog.info? 43 = some ((Try.prog.info? 43).get (by kernel_rfl))), by kernel_rfl, by kernel_rfl, (by kernel_rfl : _ = some (((Try.prog.info? 43).get (by kernel_rfl)).zero.get (by kernel_rfl))), by kernel_rfl, by decide, by kernel_rfl⟩⟩
theorem tyF54 : TyF Try.prog 54 ⟨1, .sl 45 2 16, [.sl 45 2]⟩ :=
  ⟨⟨_, _, (by kernel_rfl : Try.prog.info? 54 = some ((Try.prog.info? 54).get (by kernel_rfl))), by kernel_rfl, (by kernel_rfl : _ = some (((Try.prog.info? 54).get (by kernel_rfl)).zero.get (by kernel_rfl))), by kernel_rfl⟩, rfl, ⟨Try.underlying54, _, _, (by kernel_rfl : Try.prog.info? 45 = some ((Try.prog.info? 45).get (by kernel_rfl))), by kernel_rfl, by kernel_rfl, (by kernel_rfl : _ = some (((Try.prog.info? 45).get (by kernel_rfl)).zero.get (by kernel_rfl))), by kernel_rfl, by decide, by kernel_rfl⟩⟩
theorem tyF57 : TyF Try.prog 57 ⟨1, .sl 48 3 24, [.sl 48 3]⟩ :=
  ⟨⟨_, _, (by kernel_rfl : Try.prog.info? 57 = some ((Try.prog.info? 57).get (by kernel_rfl))), by kernel_rfl, (by kernel_rfl : _ = some (((Try.prog.info? 57).get (by kernel_rfl)).zero.get (by kernel_rfl))), by kernel_rfl⟩, rfl, ⟨Try.underlying57, _, _, (by kernel_rfl : Try.prog.info? 48 = some ((Try.prog.info? 48).get (by kernel_rfl))), by kernel_rfl, by kernel_rfl, (by kernel_rfl : _ = some (((Try.prog.info? 48).get (by kernel_rfl)).zero.get (by kernel_rfl))), by kernel_rfl, by decide, by kernel_rfl⟩⟩
theorem tyF66 : TyF Try.prog 66 ⟨1, .sl 138 6 80, [.sl 138 6]⟩ :=
  ⟨⟨_, _, (by kernel_rfl : Try.prog.info? 66 = some ((Try.prog.info? 66).get (by kernel_rfl))), by kernel_rfl, (by kernel_rfl : _ = some (((Try.prog.info? 66).get (by kernel_rfl)).zero.get (by kernel_rfl))), by kernel_rfl⟩, rfl, ⟨Try.underlying66, _, _, (by kernel_rfl : Try.prog.info? 138 = some ((Try.prog.info? 138).get (by kernel_rfl))), by kernel_rfl, by kernel_rfl, (by kernel_rfl : _ = some (((Try.prog.info? 138).get (by kernel_rfl)).zero.get (by kernel_rfl))), by kernel_rfl, by decide, by kernel_rfl⟩⟩
theorem tyF70 : TyF Try.prog 70 ⟨1, .sl 142 6 80, [.sl 142 6]⟩ :=
  ⟨⟨_, _, (by kernel_rfl : Try.prog.info? 70 = some ((Try.prog.info? 70).get (by kernel_rfl))), by kernel_rfl, (by kernel_rfl : _ = some (((Try.prog.info? 70).get (by kernel_rfl)).zero.get (by kernel_rfl))), by kernel_rfl⟩, rfl, ⟨Try.underlying70, _, _, (by kernel_rfl : Try.prog.info? 142 = some ((Try.prog.info? 142).get (by kernel_rfl))), by kernel_rfl, by kernel_rfl, (by kernel_rfl : _ = some (((Try.prog.info? 142).get (by kernel_rfl)).zero.get (by kernel_rfl))), by kernel_rfl, by decide, by kernel_rfl⟩⟩
theorem tyF77 : TyF Try.prog 77 ⟨1, .sl 5 1 1, [.sl 5 1]⟩ :=
  ⟨⟨_, _, (by kernel_rfl : Try.prog.info? 77 = some ((Try.prog.info? 77).get (by kernel_rfl))), by kernel_rfl, (by kernel_rfl : _ = some (((Try.prog.info? 77).get (by kernel_rfl)).zero.get (by kernel_rfl))), by kernel_rfl⟩, rfl, ⟨Try.underlying77, _, _, (by kernel_rfl : Try.prog.info? 5 = some ((Try.prog.info? 5).get (by kernel_rfl))), by kernel_rfl, by kernel_rfl, (by kernel_rfl : _ = some (((Try.prog.info? 5).get (by kernel_rfl)).zero.get (by kernel_rfl))), by kernel_rfl, by decide, by kernel_rfl⟩⟩
theorem tyF92 : TyF Try.prog 92 ⟨1, .sl 3 1 8, [.sl 3 1]⟩ :=
  ⟨⟨_, _, (by kernel_rfl : Try.prog.info? 92 = some ((Try.prog.info? 92).get (by kernel_rfl))), by kernel_rfl, (by kernel_rfl : _ = some (((Try.prog.info? 92).get (by kernel_rfl)).zero.get (by kernel_rfl))), by kernel_rfl⟩, rfl, ⟨Try.underlying92, _, _, (by kernel_rfl : Try.prog.info? 3 = some ((Try.prog.info? 3).get (by kernel_rfl))), by kernel_rfl, by kernel_rfl, (by kernel_rfl : _ = some (((Try.prog.info? 3).get (by kernel_rfl)).zero.get (by kernel_rfl))), by kernel_rfl, by decide, by kernel_rfl⟩⟩
theorem tyF95 : TyF Try.prog 95 ⟨1, .sl 157 2 16, [.sl 157 2]⟩ :=
  ⟨⟨_, _, (by kernel_rfl : Try.prog.info? 95 = some ((Try.prog.info? 95).get (by kernel_rfl))), by kernel_rfl, (by kernel_rfl : _ = some (((Try.prog.info? 95).get (by kernel_rfl)).zero.get (by kernel_rfl))), by kernel_rfl⟩, rfl, ⟨Try.underlying95, _, _, (by kernel_rfl : Try.prog.info? 157 = some ((Try.prog.info? 157).get (by kernel_rfl))), by kernel_rfl, by kernel_rfl, (by kernel_rfl : _ = some (((Try.prog.info? 157).get (by kernel_rfl)).zero.get (by kernel_rfl))), by kernel_rfl, by decide, by kernel_rfl⟩⟩
theorem tyF107 : TyF Try.prog 107 ⟨1, .sl 165 4 32, [.sl 165 4]⟩ :=
  ⟨⟨_, _, (by kernel_rfl : Try.prog.info? 107 = some ((Try.prog.info? 107).get (by kernel_rfl))), by kernel_rfl, (by kernel_rfl : _ = some (((Try.prog.info? 107).get (by kernel_rfl)).zero.get (by kernel_rfl))), by kernel_rfl⟩, rfl, ⟨Try.underlying107, _, _, (by kernel_rfl : Try.prog.info? 165 = some ((Try.prog.info? 165).get (by kernel_rfl))), by kernel_rfl, by kernel_rfl, (by kernel_rfl : _ = some (((Try.prog.info? 165).get (by kernel_rfl)).zero.get (by kernel_rfl))), by kernel_rfl, by decide, by kernel_rfl⟩⟩
theorem tyF108 : TyF Try.prog 108 ⟨2, .st [(0, 1), (1, 1)], [.lit (.int .i64 0), .sl 165 4]⟩ :=
  ⟨⟨_, _, (by kernel_rfl : Try.prog.info? 108 = some ((Try.prog.info? 108).get (by kernel_rfl))), by kernel_rfl, (by kernel_rfl : _ = some (((Try.prog.info? 108).get (by kernel_rfl)).zero.get (by kernel_rfl))), by kernel_rfl⟩, rfl, ⟨_, Try.underlying108, by kernel_rfl, rfl⟩⟩
theorem tyF109 : TyF Try.prog 109 ⟨2, .st [(0, 1), (1, 1)], [.lit (.int .i64 0), .sl 165 4]⟩ :=
  ⟨⟨_, _, (by kernel_rfl : Try.prog.info? 109 = some ((Try.prog.info? 109).get (by kernel_rfl))), by kernel_rfl, (by kernel_rfl : _ = some (((Try.prog.info? 109).get (by kernel_rfl)).zero.get (by kernel_rfl))), by kernel_rfl⟩, rfl, ⟨_, Try.underlying109, by kernel_rfl, rfl⟩⟩
theorem tyF119 : TyF Try.prog 119 ⟨2, .st [(0, 1), (1, 1)], [.lit (.int .i64 0), .lit (.int .i64 0)]⟩ :=
  ⟨⟨_, _, (by kernel_rfl : Try.prog.info? 119 = some ((Try.prog.info? 119).get (by kernel_rfl))), by kernel_rfl, (by kernel_rfl : _ = some (((Try.prog.info? 119).get (by kernel_rfl)).zero.get (by kernel_rfl))), by kernel_rfl⟩, rfl, ⟨_, Try.underlying119, by kernel_rfl, rfl⟩⟩
theorem tyF120 : TyF Try.prog 120 ⟨2, .st [(0, 1), (1, 1)], [.lit (.int .i64 0), .lit (.int .i64 0)]⟩ :=
  ⟨⟨_, _, (by kernel_rfl : Try.prog.info? 120 = some ((Try.prog.info? 120).get (by kernel_rfl))), by kernel_rfl, (by kernel_rfl : _ = some (((Try.prog.info? 120).get (by kernel_rfl)).zero.get (by kernel_rfl))), by kernel_rfl⟩, rfl, ⟨_, Try.underlying120, by kernel_rfl, rfl⟩⟩
theorem tyF122 : TyF Try.prog 122 ⟨2, .st [(0, 1), (1, 1)], [.lit (.int .i64 0), .lit (.int .i64 0)]⟩ :=
  ⟨⟨_, _, (by kernel_rfl : Try.prog.info? 122 = some ((Try.prog.info? 122).get (by kernel_rfl))), by kernel_rfl, (by kernel_rfl : _ = some (((Try.prog.info? 122).get (by kernel_rfl)).zero.get (by kernel_rfl))), by kernel_rfl⟩, rfl, ⟨_, Try.underlying122, by kernel_rfl, rfl⟩⟩
theorem tyF136 : TyF Try.prog 136 ⟨1, .sl 185 2 16, [.sl 185 2]⟩ :=
  ⟨⟨_, _, (by kernel_rfl : Try.prog.info? 136 = some ((Try.prog.info? 136).get (by kernel_rfl))), by kernel_rfl, (by kernel_rfl : _ = some (((Try.prog.info? 136).get (by kernel_rfl)).zero.get (by kernel_rfl))), by kernel_rfl⟩, rfl, ⟨Try.underlying136, _, _, (by kernel_rfl : Try.prog.info? 185 = some ((Try.prog.info? 185).get (by kernel_rfl))), by kernel_rfl, by kernel_rfl, (by kernel_rfl : _ = some (((Try.prog.info? 185).get (by kernel_rfl)).zero.get (by kernel_rfl))), by kernel_rfl, by decide, by kernel_rfl⟩⟩
theorem tyF137 : TyF Try.prog 137 ⟨6, .st [(0, 1), (1, 1), (2, 1), (3, 1), (4, 1), (5, 1)], [.lit (.int .i64 0), .lit (.int .i64 0), .lit (.int .i64 0), .lit (.int .i64 0), .sl 43 3, .sl 185 2]⟩ :=
  ⟨⟨_, _, (by kernel_rfl : Try.prog.info? 137 = some ((Try.prog.info? 137).get (by kernel_rfl))), by kernel_rfl, (by kernel_rfl : _ = some (((Try.prog.info? 137).get (by kernel_rfl)).zero.get (by kernel_rfl))), by kernel_rfl⟩, rfl, ⟨_, Try.underlying137, by kernel_rfl, rfl⟩⟩
theorem tyF138 : TyF Try.prog 138 ⟨6, .st [(0, 1), (1, 1), (2, 1), (3, 1), (4, 1), (5, 1)], [.lit (.int .i64 0), .lit (.int .i64 0), .lit (.int .i64 0), .lit (.int .i64 0), .sl 43 3, .sl 185 2]⟩ :=
  ⟨⟨_, _, (by kernel_rfl : Try.prog.info? 138 = some ((Try.prog.info? 138).get (by kernel_rfl))), by kernel_rfl, (by kernel_rfl : _ = some (((Try.prog.info? 138).get (by kernel_rfl)).zero.get (by kernel_rfl))), by kernel_rfl⟩, rfl, ⟨_, Try.underlying138, by kernel_rfl, rfl⟩⟩
theorem tyF141 : TyF Try.prog 141 ⟨6, .st [(0, 1), (1, 1), (2, 1), (3, 1), (4, 1), (5, 1)], [.lit (.int .i64 0), .lit (.int .i64 0), .lit (.int .i64 0), .lit (.int .i64 0), .sl 48 3, .sl 45 2]⟩ :=
  ⟨⟨_, _, (by kernel_rfl : Try.prog.info? 141 = some ((Try.prog.info? 141).get (by kernel_rfl))), by kernel_rfl, (by kernel_rfl : _ = some (((Try.prog.info? 141).get (by kernel_rfl)).zero.get (by kernel_rfl))), by kernel_rfl⟩, rfl, ⟨_, Try.underlying141, by kernel_rfl, rfl⟩⟩
theorem tyF142 : TyF Try.prog 142 ⟨6, .st [(0, 1), (1, 1), (2, 1), (3, 1), (4, 1), (5, 1)], [.lit (.int .i64 0), .lit (.int .i64 0), .lit (.int .i64 0), .lit (.int .i64 0), .sl 48 3, .sl 45 2]⟩ :=
  ⟨⟨_, _, (by kernel_rfl : Try.prog.info? 142 = some ((Try.prog.info? 142).get (by kernel_rfl))), by kernel_rfl, (by kernel_rfl : _ = some (((Try.prog.info? 142).get (by kernel_rfl)).zero.get (by kernel_rfl))), by kernel_rfl⟩, rfl, ⟨_, Try.underlying142, by kernel_rfl, rfl⟩⟩
theorem tyF154 : TyF Try.prog 154 ⟨2, .arr 2 4 1, [.lit (.bool false), .lit (.bool false)]⟩ :=
  ⟨⟨_, _, (by kernel_rfl : Try.prog.info? 154 = some ((Try.prog.info? 154).get (by kernel_rfl))), by kernel_rfl, (by kernel_rfl : _ = some (((Try.prog.info? 154).get (by kernel_rfl)).zero.get (by kernel_rfl))), by kernel_rfl⟩, rfl, ⟨Try.underlying154, _, (by kernel_rfl : Try.prog.info? 4 = some ((Try.prog.info? 4).get (by kernel_rfl))), by kernel_rfl⟩⟩
theorem tyF156 : TyF Try.prog 156 ⟨2, .st [(0, 1), (1, 1)], [.lit (.int .i64 0), .lit (.int .i64 0)]⟩ :=
  ⟨⟨_, _, (by kernel_rfl : Try.prog.info? 156 = some ((Try.prog.info? 156).get (by kernel_rfl))), by kernel_rfl, (by kernel_rfl : _ = some (((Try.prog.info? 156).get (by kernel_rfl)).zero.get (by kernel_rfl))), by kernel_rfl⟩, rfl, ⟨_, Try.underlying156, by kernel_rfl, rfl⟩⟩
theorem tyF157 : TyF Try.prog 157 ⟨2, .st [(0, 1), (1, 1)], [.lit (.int .i64 0), .lit (.int .i64 0)]⟩ :=
  ⟨⟨_, _, (by kernel_rfl : Try.prog.info? 157 = some ((Try.prog.info? 157).get (by kernel_rfl))), by kernel_rfl, (by kernel_rfl : _ = some (((Try.prog.info? 157).get (by kernel_rfl)).zero.get (by kernel_rfl))), by kernel_rfl⟩, rfl, ⟨_, Try.underlying157, by kernel_rfl, rfl⟩⟩
theorem tyF164 : TyF Try.prog 164 ⟨4, .st [(0, 1), (1, 1), (2, 1), (3, 1)], [.lit (.bool false), .lit (.int .i64 0), .lit (.bool false), .lit (.int .i64 0)]⟩ :=
  ⟨⟨_, _, (by kernel_rfl : Try.prog.info? 164 = some ((Try.prog.info? 164).get (by kernel_rfl))), by kernel_rfl, (by kernel_rfl : _ = some (((Try.prog.info? 164).get (by kernel_rfl)).zero.get (by kernel_rfl))), by kernel_rfl⟩, rfl, ⟨_, Try.underlying164, by kernel_rfl, rfl⟩⟩
theorem tyF165 : TyF Try.prog 165 ⟨4, .st [(0, 1), (1, 1), (2, 1), (3, 1)], [.lit (.bool false), .lit (.int .i64 0), .lit (.bool false), .lit (.int .i64 0)]⟩ :=
  ⟨⟨_, _, (by kernel_rfl : Try.prog.info? 165 = some ((Try.prog.info? 165).get (by kernel_rfl))), by kernel_rfl, (by kernel_rfl : _ = some (((Try.prog.info? 165).get (by kernel_rfl)).zero.get (by kernel_rfl))), by kernel_rfl⟩, rfl, ⟨_, Try.underlying165, by kernel_rfl, rfl⟩⟩
theorem tyF176 : TyF Try.prog 176 ⟨3, .st [(0, 1), (1, 1), (2, 1)], [.sl 5 1, .lit (.int .i64 0), .lit (.int .i64 0)]⟩ :=
  ⟨⟨_, _, (by kernel_rfl : Try.prog.info? 176 = some ((Try.prog.info? 176).get (by kernel_rfl))), by kernel_rfl, (by kernel_rfl : _ = some (((Try.prog.info? 176).get (by kernel_rfl)).zero.get (by kernel_rfl))), by kernel_rfl⟩, rfl, ⟨_, Try.underlying176, by kernel_rfl, rfl⟩⟩
theorem tyF177 : TyF Try.prog 177 ⟨3, .st [(0, 1), (1, 1), (2, 1)], [.sl 5 1, .lit (.int .i64 0), .lit (.int .i64 0)]⟩ :=
  ⟨⟨_, _, (by kernel_rfl : Try.prog.info? 177 = some ((Try.prog.info? 177).get (by kernel_rfl))), by kernel_rfl, (by kernel_rfl : _ = some (((Try.prog.info? 177).get (by kernel_rfl)).zero.get (by kernel_rfl))), by kernel_rfl⟩, rfl, ⟨_, Try.underlying177, by kernel_rfl, rfl⟩⟩
theorem tyF185 : TyF Try.prog 185 ⟨2, .st [(0, 1), (1, 1)], [.lit (.bool false), .lit (.int .i64 0)]⟩ :=
  ⟨⟨_, _, (by kernel_rfl : Try.prog.info? 185 = some ((Try.prog.info? 185).get (by kernel_rfl))), by kernel_rfl, (by kernel_rfl : _ = some (((Try.prog.info? 185).get (by kernel_rfl)).zero.get (by kernel_rfl))), by kernel_rfl⟩, rfl, ⟨_, Try.underlying185, by kernel_rfl, rfl⟩⟩
theorem tyF188 : TyF Try.prog 188 ⟨12, .arr 6 45 2, [.lit (.bool false), .lit (.int .i64 0), .lit (.bool false), .lit (.int .i64 0), .lit (.bool false), .lit (.int .i64 0), .lit (.bool false), .lit (.int .i64 0), .lit (.bool false), .lit (.int .i64 0), .lit (.bool false), .lit (.int .i64 0)]⟩ :=
  ⟨⟨_, _, (by kernel_rfl : Try.prog.info? 188 = some ((Try.prog.info? 188).get (by kernel_rfl))), by kernel_rfl, (by kernel_rfl : _ = some (((Try.prog.info? 188).get (by kernel_rfl)).zero.get (by kernel_rfl))), by kernel_rfl⟩, rfl, ⟨Try.underlying188, _, (by kernel_rfl : Try.prog.info? 45 = some ((Try.prog.info? 45).get (by kernel_rfl))), by kernel_rfl⟩⟩
theorem tyF190 : TyF Try.prog 190 ⟨1, .sc, [.lit (.int .u64 0)]⟩ :=
  ⟨⟨_, _, (by kernel_rfl : Try.prog.info? 190 = some ((Try.prog.info? 190).get (by kernel_rfl))), by kernel_rfl, (by kernel_rfl : _ = some (((Try.prog.info? 190).get (by kernel_rfl)).zero.get (by kernel_rfl))), by kernel_rfl⟩, rfl, ⟨_, Try.underlying190, rfl⟩⟩
theorem tyF201 : TyF Try.prog 201 ⟨1, .sc, [.lit (.int .u32 0)]⟩ :=
  ⟨⟨_, _, (by kernel_rfl : Try.prog.info? 201 = some ((Try.prog.info? 201).get (by kernel_rfl))), by kernel_rfl, (by kernel_rfl : _ = some (((Try.prog.info? 201).get (by kernel_rfl)).zero.get (by kernel_rfl))), by kernel_rfl⟩, rfl, ⟨_, Try.underlying201, rfl⟩⟩
theorem tyF202 : TyF Try.prog 202 ⟨1, .sc, [.lit (.int .u8 0)]⟩ :=
  ⟨⟨_, _, (by kernel_rfl : Try.prog.info? 202 = some ((Try.prog.info? 202).get (by kernel_rfl))), by kernel_rfl, (by kernel_rfl : _ = some (((Try.prog.info? 202).get (by kernel_rfl)).zero.get (by kernel_rfl))), by kernel_rfl⟩, rfl, ⟨_, Try.underlying202, rfl⟩⟩
theorem tyF203 : TyF Try.prog 203 ⟨1, .sc, [.lit (.int .u8 0)]⟩ :=
  ⟨⟨_, _, (by kernel_rfl : Try.prog.info? 203 = some ((Try.prog.info? 203).get (by kernel_rfl))), by kernel_rfl, (by kernel_rfl : _ = some (((Try.prog.info? 203).get (by kernel_rfl)).zero.get (by kernel_rfl))), by kernel_rfl⟩, rfl, ⟨_, Try.underlying203, rfl⟩⟩
theorem tyF206 : TyF Try.prog 206 ⟨1, .sc, [.lit (.int .i32 0)]⟩ :=
  ⟨⟨_, _, (by kernel_rfl : Try.prog.info? 206 = some ((Try.prog.info? 206).get (by kernel_rfl))), by kernel_rfl, (by kernel_rfl : _ = some (((Try.prog.info? 206).get (by kernel_rfl)).zero.get (by kernel_rfl))), by kernel_rfl⟩, rfl, ⟨_, Try.underlying206, rfl⟩⟩
theorem tyF207 : TyF Try.prog 207 ⟨1, .sc, [.lit (.int .i32 0)]⟩ :=
  ⟨⟨_, _, (by kernel_rfl : Try.prog.info? 207 = some ((Try.prog.info? 207).get (by kernel_rfl))), by kernel_rfl, (by kernel_rfl : _ = some (((Try.prog.info? 207).get (by kernel_rfl)).zero.get (by kernel_rfl))), by kernel_rfl⟩, rfl, ⟨_, Try.underlying207, rfl⟩⟩
theorem tyOk : TOk Try.prog tyT := by
  intro t i h
  unfold tyT at h
  split at h
  · injection h with h; subst h; exact tyF2
  · injection h with h; subst h; exact tyF3
  · injection h with h; subst h; exact tyF4
  · injection h with h; subst h; exact tyF5
  · injection h with h; subst h; exact tyF6
  · injection h with h; subst h; exact tyF7
  · injection h with h; subst h; exact tyF8
  · injection h with h; subst h; exact tyF12
  · injection h with h; subst h; exact tyF21
  · injection h with h; subst h; exact tyF22
  · injection h with h; subst h; exact tyF24
  · injection h with h; subst h; exact tyF30
  · injection h with h; subst h; exact tyF31
  · injection h with h; subst h; exact tyF32
  · injection h with h; subst h; exact tyF34
  · injection h with h; subst h; exact tyF37
  · injection h with h; subst h; exact tyF42
  · injection h with h; subst h; exact tyF43
  · injection h with h; subst h; exact tyF44
  · injection h with h; subst h; exact tyF45
  · injection h with h; subst h; exact tyF48
  · injection h with h; subst h; exact tyF52
  · injection h with h; subst h; exact tyF54
  · injection h with h; subst h; exact tyF57
  · injection h with h; subst h; exact tyF66
  · injection h with h; subst h; exact tyF70
  · injection h with h; subst h; exact tyF77
  · injection h with h; subst h; exact tyF92
  · injection h with h; subst h; exact tyF95
  · injection h with h; subst h; exact tyF107
  · injection h with h; subst h; exact tyF108
  · injection h with h; subst h; exact tyF109
  · injection h with h; subst h; exact tyF119
  · injection h with h; subst h; exact tyF120
  · injection h with h; subst h; exact tyF122
  · injection h with h; subst h; exact tyF136
  · injection h with h; subst h; exact tyF137
  · injection h with h; subst h; exact tyF138
  · injection h with h; subst h; exact tyF141
  · injection h with h; subst h; exact tyF142
  · injection h with h; subst h; exact tyF154
  · injection h with h; subst h; exact tyF156
  · injection h with h; subst h; exact tyF157
  · injection h with h; subst h; exact tyF164
  · injection h with h; subst h; exact tyF165
  · injection h with h; subst h; exact tyF176
  · injection h with h; subst h; exact tyF177
  · injection h with h; subst h; exact tyF185
  · injection h with h; subst h; exact tyF188
  · injection h with h; subst h; exact tyF190
  · injection h with h; subst h; exact tyF201
  · injection h with h; subst h; exact tyF202
  · injection h with h; subst h; exact tyF203
  · injection h with h; subst h; exact tyF206
  · injection h with h; subst h; exact tyF207
  · cases h
end Go.Proofs.Ythfcpaplnifhiaa

