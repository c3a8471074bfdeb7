/- The types of the program that the proofs speak of. -/
import Derived.Test.YtkafibaoikmccabProg
import Derived.Test.YtkafibaoikmccabTrc
import Derived.KernelRfl
namespace Go.Proofs.Ytkafibaoikmccab
open Go Go.Tr
set_option linter.unusedVariables false
set_option linter.unusedSimpArgs false
set_option maxRecDepth 100000
def tyT : Nat → Option TyI
  | 2 => some ⟨1, .sc, [.lit (.int .i64 0)]⟩
  | 3 => some ⟨1, .sc, [.lit (.int .i64 0)]⟩
  | 4 => some ⟨1, .sc, [.lit (.bool false)]⟩
  | 5 => some ⟨1, .sc, [.lit (.int .u8 0)]⟩
  | 6 => some ⟨1, .sc, [.lit (.int .u8 0)]⟩
  | 7 => some ⟨4, .st [(0, 1), (1, 1), (2, 1), (3, 1)], [.lit (.int .i64 0), .lit (.int .i64 0), .lit (.bool false), .lit (.int .u8 0)]⟩
  | 8 => some ⟨4, .st [(0, 1), (1, 1), (2, 1), (3, 1)], [.lit (.int .i64 0), .lit (.int .i64 0), .lit (.bool false), .lit (.int .u8 0)]⟩
  | 12 => some ⟨1, .sc, [.lit (.int .u64 0)]⟩
  | 21 => some ⟨1, .sc, [.lit (.int .i32 0)]⟩
  | 22 => some ⟨3, .st [(0, 1), (1, 1), (2, 1)], [.lit (.int .i64 0), .lit (.int .i64 0), .lit (.int .i64 0)]⟩
  | 23 => some ⟨3, .st [(0, 1), (1, 1), (2, 1)], [.lit (.int .i64 0), .lit (.int .i64 0), .lit (.int .i64 0)]⟩
  | 25 => some ⟨3, .st [(0, 1), (1, 1), (2, 1)], [.lit (.int .i64 0), .lit (.int .i64 0), .lit (.int .i64 0)]⟩
  | 28 => some ⟨1, .sl 70 2 16, [.sl 70 2]⟩
  | 31 => some ⟨1, .sl 68 2 16, [.sl 68 2]⟩
  | 39 => some ⟨1, .sl 75 2 16, [.sl 75 2]⟩
  | 41 => some ⟨1, .sl 73 2 16, [.sl 73 2]⟩
  | 48 => some ⟨1, .sl 79 3 24, [.sl 79 3]⟩
  | 50 => some ⟨3, .st [(0, 1), (1, 1), (2, 1)], [.lit (.int .i64 0), .lit (.bool false), .lit (.int .i64 0)]⟩
  | 51 => some ⟨3, .st [(0, 1), (1, 1), (2, 1)], [.lit (.int .i64 0), .lit (.bool false), .lit (.int .i64 0)]⟩
  | 54 => some ⟨1, .sl 51 3 24, [.sl 51 3]⟩
  | 59 => some ⟨1, .sl 3 1 8, [.sl 3 1]⟩
  | 67 => some ⟨2, .st [(0, 1), (1, 1)], [.lit (.int .i64 0), .lit (.int .i64 0)]⟩
  | 68 => some ⟨2, .st [(0, 1), (1, 1)], [.lit (.int .i64 0), .lit (.int .i64 0)]⟩
  | 70 => some ⟨2, .st [(0, 1), (1, 1)], [.lit (.int .i64 0), .lit (.int .i64 0)]⟩
  | 72 => some ⟨2, .st [(0, 1), (1, 1)], [.lit (.int .i64 0), .lit (.int .i64 0)]⟩
  | 73 => some ⟨2, .st [(0, 1), (1, 1)], [.lit (.int .i64 0), .lit (.int .i64 0)]⟩
  | 75 => some ⟨2, .st [(0, 1), (1, 1)], [.lit (.int .i64 0), .lit (.int .i64 0)]⟩
  | 79 => some ⟨3, .st [(0, 1), (1, 1), (2, 1)], [.lit (.int .i64 0), .lit (.bool false), .lit (.int .i64 0)]⟩
  | 82 => some ⟨2, .arr 2 4 1, [.lit (.bool false), .lit (.bool false)]⟩
  | 90 => some ⟨1, .sc, [.lit (.int .u32 0)]⟩
  | 91 => some ⟨1, .sc, [.lit (.int .u8 0)]⟩
  | 92 => some ⟨1, .sc, [.lit (.int .u8 0)]⟩
  | 95 => some ⟨1, .sc, [.lit (.int .i32 0)]⟩
  | 96 => some ⟨1, .sc, [.lit (.int .i32 0)]⟩
  | _ => none
theorem tyF2 : TyF Try.prog 2 ⟨1, .sc, [.lit (.int .i64 0)]⟩ :=
  ⟨⟨_, _, (by kernel_rfl : Try.prog.info? 2 = some ((Try.prog.info? 2).get (by kernel_rfl))), by kernel_rfl, (by kernel_rfl : _ = some (((Try.prog.info? 2).get (by kernel_rfl)).zero.get (by kernel_rfl))), by kernel_rfl⟩, rfl, ⟨_, Try.underlying2, rfl⟩⟩
theorem tyF3 : TyF Try.prog 3 ⟨1, .sc, [.lit (.int .i64 0)]⟩ :=
  ⟨⟨_, _, (by kernel_rfl : Try.prog.info? 3 = some ((Try.prog.info? 3).get (by kernel_rfl))), by kernel_rfl, (by kernel_rfl : _ = some (((Try.prog.info? 3).get (by kernel_rfl)).zero.get (by kernel_rfl))), by kernel_rfl⟩, rfl, ⟨_, Try.underlying3, rfl⟩⟩
theorem tyF4 : TyF Try.prog 4 ⟨1, .sc, [.lit (.bool false)]⟩ :=
  ⟨⟨_, _, (by kernel_rfl : Try.prog.info? 4 = some ((Try.prog.info? 4).get (by kernel_rfl))), by kernel_rfl, (by kernel_rfl : _ = some (((Try.prog.info? 4).get (by kernel_rfl)).zero.get (by kernel_rfl))), by kernel_rfl⟩, rfl, ⟨_, Try.underlying4, rfl⟩⟩
theorem tyF5 : TyF Try.prog 5 ⟨1, .sc, [.lit (.int .u8 0)]⟩ :=
  ⟨⟨_, _, (by kernel_rfl : Try.prog.info? 5 = some ((Try.prog.info? 5).get (by kernel_rfl))), by kernel_rfl, (by kernel_rfl : _ = some (((Try.prog.info? 5).get (by kernel_rfl)).zero.get (by kernel_rfl))), by kernel_rfl⟩, rfl, ⟨_, Try.underlying5, rfl⟩⟩
theorem tyF6 : TyF Try.prog 6 ⟨1, .sc, [.lit (.int .u8 0)]⟩ :=
  ⟨⟨_, _, (by kernel_rfl : Try.prog.info? 6 = some ((Try.prog.info? 6).get (by kernel_rfl))), by kernel_rfl, (by kernel_rfl : _ = some (((Try.prog.info? 6).get (by kernel_rfl)).zero.get (by kernel_rfl))), by kernel_rfl⟩, rfl, ⟨_, Try.underlying6, rfl⟩⟩
theorem tyF7 : TyF Try.prog 7 ⟨4, .st [(0, 1), (1, 1), (2, 1), (3, 1)], [.lit (.int .i64 0), .lit (.int .i64 0), .lit (.bool false), .lit (.int .u8 0)]⟩ :=
  ⟨⟨_, _, (by kernel_rfl : Try.prog.info? 7 = some ((Try.prog.info? 7).get (by kernel_rfl))), by kernel_rfl, (by kernel_rfl : _ = some (((Try.prog.info? 7).get (by kernel_rfl)).zero.get (by kernel_rfl))), by kernel_rfl⟩, rfl, ⟨_, Try.underlying7, by kernel_rfl, rfl⟩⟩
theorem tyF8 : TyF Try.prog 8 ⟨4, .st [(0, 1), (1, 1), (2, 1), (3, 1)], [.lit (.int .i64 0), .lit (.int .i64 0), .lit (.bool false), .lit (.int .u8 0)]⟩ :=
  ⟨⟨_, _, (by kernel_rfl : Try.prog.info? 8 = some ((Try.prog.info? 8).get (by kernel_rfl))), by kernel_rfl, (by kernel_rfl : _ = some (((Try.prog.info? 8).get (by kernel_rfl)).zero.get (by kernel_rfl))), by kernel_rfl⟩, rfl, ⟨_, Try.underlying8, by kernel_rfl, rfl⟩⟩
theorem tyF12 : TyF Try.prog 12 ⟨1, .sc, [.lit (.int .u64 0)]⟩ :=
  ⟨⟨_, _, (by kernel_rfl : Try.prog.info? 12 = some ((Try.prog.info? 12).get (by kernel_rfl))), by kernel_rfl, (by kernel_rfl : _ = some (((Try.prog.info? 12).get (by kernel_rfl)).zero.get (by kernel_rfl))), by kernel_rfl⟩, rfl, ⟨_, Try.underlying12, rfl⟩⟩
theorem tyF21 : TyF Try.prog 21 ⟨1, .sc, [.lit (.int .i32 0)]⟩ :=
  ⟨⟨_, _, (by kernel_rfl : Try.prog.info? 21 = some ((Try.prog.info? 21).get (by kernel_rfl))), by kernel_rfl, (by kernel_rfl : _ = some (((Try.prog.info? 21).get (by kernel_rfl)).zero.get (by kernel_rfl))), by kernel_rfl⟩, rfl, ⟨_, Try.underlying21, rfl⟩⟩
theorem tyF22 : TyF Try.prog 22 ⟨3, .st [(0, 1), (1, 1), (2, 1)], [.lit (.int .i64 0), .lit (.int .i64 0), .lit (.int .i64 0)]⟩ :=
  ⟨⟨_, _, (by kernel_rfl : Try.prog.info? 22 = some ((Try.prog.info? 22).get (by kernel_rfl))), by kernel_rfl, (by kernel_rfl : _ = some (((Try.prog.info? 22).get (by kernel_rfl)).zero.get (by kernel_rfl))), by kernel_rfl⟩, rfl, ⟨_, Try.underlying22, by kernel_rfl, rfl⟩⟩
theorem tyF23 : TyF Try.prog 23 ⟨3, .st [(0, 1), (1, 1), (2, 1)], [.lit (.int .i64 0), .lit (.int .i64 0), .lit (.int .i64 0)]⟩ :=
  ⟨⟨_, _, (by kernel_rfl : Try.prog.info? 23 = some ((Try.prog.info? 23).get (by kernel_rfl))), by kernel_rfl, (by kernel_rfl : _ = some (((Try.prog.info? 23).get (by kernel_rfl)).zero.get (by kernel_rfl))), by kernel_rfl⟩, rfl, ⟨_, Try.underlying23, by kernel_rfl, rfl⟩⟩
theorem tyF25 : TyF Try.prog 25 ⟨3, .st [(0, 1), (1, 1), (2, 1)], [.lit (.int .i64 0), .lit (.int .i64 0), .lit (.int .i64 0)]⟩ :=
  ⟨⟨_, _, (by kernel_rfl : Try.prog.info? 25 = some ((Try.prog.info? 25).get (by kernel_rfl))), by kernel_rfl, (by kernel_rfl : _ = some (((Try.prog.info? 25).get (by kernel_rfl)).zero.get (by kernel_rfl))), by kernel_rfl⟩, rfl, ⟨_, Try.underlying25, by kernel_rfl, rfl⟩⟩
theorem tyF28 : TyF Try.prog 28 ⟨1, .sl 70 2 16, [.sl 70 2]⟩ :=
  ⟨⟨_, _, (by kernel_rfl : Try.prog.info? 28 = some ((Try.prog.info? 28).get (by kernel_rfl))), by kernel_rfl, (by kernel_rfl : _ = some (((Try.prog.info? 28).get (by kernel_rfl)).zero.get (by kernel_rfl))), by kernel_rfl⟩, rfl, ⟨Try.underlying28, _, _, (by kernel_rfl : Try.prog.info? 70 = some ((Try.prog.info? 70).get (by kernel_rfl))), by kernel_rfl, by kernel_rfl, (by kernel_rfl : _ = some (((Try.prog.info? 70).get (by kernel_rfl)).zero.get (by kernel_rfl))), by kernel_rfl, by decide⟩⟩
theorem tyF31 : TyF Try.prog 31 ⟨1, .sl 68 2 16, [.sl 68 2]⟩ :=
  ⟨⟨_, _, (by kernel_rfl : Try.prog.info? 31 = some ((Try.prog.info? 31).get (by kernel_rfl))), by kernel_rfl, (by kernel_rfl : _ = some (((Try.prog.info? 31).get (by kernel_rfl)).zero.get (by kernel_rfl))), by kernel_rfl⟩, rfl, ⟨Try.underlying31, _, _, (by kernel_rfl : Try.prog.info? 68 = some ((Try.prog.info? 68).get (by kernel_rfl))), by kernel_rfl, by kernel_rfl, (by kernel_rfl : _ = some (((Try.prog.info? 68).get (by kernel_rfl)).zero.get (by kernel_rfl))), by kernel_rfl, by decide⟩⟩
theorem tyF39 : TyF Try.prog 39 ⟨1, .sl 75 2 16, [.sl 75 2]⟩ :=
  ⟨⟨_, _, (by kernel_rfl : Try.prog.info? 39 = some ((Try.prog.info? 39).get (by kernel_rfl))), by kernel_rfl, (by kernel_rfl : _ = some (((Try.prog.info? 39).get (by kernel_rfl)).zero.get (by kernel_rfl))), by kernel_rfl⟩, rfl, ⟨Try.underlying39, _, _, (by kernel_rfl : Try.prog.info? 75 = some ((Try.prog.info? 75).get (by kernel_rfl))), by kernel_rfl, by kernel_rfl, (by kernel_rfl : _ = some (((Try.prog.info? 75).get (by kernel_rfl)).zero.get (by kernel_rfl))), by kernel_rfl, by decide⟩⟩
theorem tyF41 : TyF Try.prog 41 ⟨1, .sl 73 2 16, [.sl 73 2]⟩ :=
  ⟨⟨_, _, (by kernel_rfl : Try.prog.info? 41 = some ((Try.prog.info? 41).get (by kernel_rfl))), by kernel_rfl, (by kernel_rfl : _ = some (((Try.prog.info? 41).get (by kernel_rfl)).zero.get (by kernel_rfl))), by kernel_rfl⟩, rfl, ⟨Try.underlying41, _, _, (by kernel_rfl : Try.prog.info? 73 = some ((Try.prog.info? 73).get (by kernel_rfl))), by kernel_rfl, by kernel_rfl, (by kernel_rfl : _ = some (((Try.prog.info? 73).get (by kernel_rfl)).zero.get (by kernel_rfl))), by kernel_rfl, by decide⟩⟩
theorem tyF48 : TyF Try.prog 48 ⟨1, .sl 79 3 24, [.sl 79 3]⟩ :=
  ⟨⟨_, _, (by kernel_rfl : Try.prog.info? 48 = some ((Try.prog.info? 48).get (by kernel_rfl))), by kernel_rfl, (by kernel_rfl : _ = some (((Try.prog.info? 48).get (by kernel_rfl)).zero.get (by kernel_rfl))), by kernel_rfl⟩, rfl, ⟨Try.underlying48, _, _, (by kernel_rfl : Try.prog.info? 79 = some ((Try.prog.info? 79).get (by kernel_rfl))), by kernel_rfl, by kernel_rfl, (by kernel_rfl : _ = some (((Try.prog.info? 79).get (by kernel_rfl)).zero.get (by kernel_rfl))), by kernel_rfl, by decide⟩⟩
theorem tyF50 : TyF Try.prog 50 ⟨3, .st [(0, 1), (1, 1), (2, 1)], [.lit (.int .i64 0), .lit (.bool false), .lit (.int .i64 0)]⟩ :=
  ⟨⟨_, _, (by kernel_rfl : Try.prog.info? 50 = some ((Try.prog.info? 50).get (by kernel_rfl))), by kernel_rfl, (by kernel_rfl : _ = some (((Try.prog.info? 50).get (by kernel_rfl)).zero.get (by kernel_rfl))), by kernel_rfl⟩, rfl, ⟨_, Try.underlying50, by kernel_rfl, rfl⟩⟩
theorem tyF51 : TyF Try.prog 51 ⟨3, .st [(0, 1), (1, 1), (2, 1)], [.lit (.int .i64 0), .lit (.bool false), .lit (.int .i64 0)]⟩ :=
  ⟨⟨_, _, (by kernel_rfl : Try.prog.info? 51 = some ((Try.prog.info? 51).get (by kernel_rfl))), by kernel_rfl, (by kernel_rfl : _ = some (((Try.prog.info? 51).get (by kernel_rfl)).zero.get (by kernel_rfl))), by kernel_rfl⟩, rfl, ⟨_, Try.underlying51, by kernel_rfl, rfl⟩⟩
theorem tyF54 : TyF Try.prog 54 ⟨1, .sl 51 3 24, [.sl 51 3]⟩ :=
  ⟨⟨_, _, (by kernel_rfl : Try.prog.info? 54 = some ((Try.prog.info? 54).get (by kernel_rfl))), by kernel_rfl, (by kernel_rfl : _ = some (((Try.prog.info? 54).get (by kernel_rfl)).zero.get (by kernel_rfl))), by kernel_rfl⟩, rfl, ⟨Try.underlying54, _, _, (by kernel_rfl : Try.prog.info? 51 = some ((Try.prog.info? 51).get (by kernel_rfl))), by kernel_rfl, by kernel_rfl, (by kernel_rfl : _ = some (((Try.prog.info? 51).get (by kernel_rfl)).zero.get (by kernel_rfl))), by kernel_rfl, by decide⟩⟩
theorem tyF59 : TyF Try.prog 59 ⟨1, .sl 3 1 8, [.sl 3 1]⟩ :=
  ⟨⟨_, _, (by kernel_rfl : Try.prog.info? 59 = some ((Try.prog.info? 59).get (by kernel_rfl))), by kernel_rfl, (by kernel_rfl : _ = some (((Try.prog.info? 59).get (by kernel_rfl)).zero.get (by kernel_rfl))), by kernel_rfl⟩, rfl, ⟨Try.underlying59, _, _, (by kernel_rfl : Try.prog.info? 3 = some ((Try.prog.info? 3).get (by kernel_rfl))), by kernel_rfl, by kernel_rfl, (by kernel_rfl : _ = some (((Try.prog.info? 3).get (by kernel_rfl)).zero.get (by kernel_rfl))), by kernel_rfl, by decide⟩⟩
theorem tyF67 : TyF Try.prog 67 ⟨2, .st [(0, 1), (1, 1)], [.lit (.int .i64 0), .lit (.int .i64 0)]⟩ :=
  ⟨⟨_, _, (by kernel_rfl : Try.prog.info? 67 = some ((Try.prog.info? 67).get (by kernel_rfl))), by kernel_rfl, (by kernel_rfl : _ = some (((Try.prog.info? 67).get (by kernel_rfl)).zero.get (by kernel_rfl))), by kernel_rfl⟩, rfl, ⟨_, Try.underlying67, by kernel_rfl, rfl⟩⟩
theorem tyF68 : TyF Try.prog 68 ⟨2, .st [(0, 1), (1, 1)], [.lit (.int .i64 0), .lit (.int .i64 0)]⟩ :=
  ⟨⟨_, _, (by kernel_rfl : Try.prog.info? 68 = some ((Try.prog.info? 68).get (by kernel_rfl))), by kernel_rfl, (by kernel_rfl : _ = some (((Try.prog.info? 68).get (by kernel_rfl)).zero.get (by kernel_rfl))), by kernel_rfl⟩, rfl, ⟨_, Try.underlying68, by kernel_rfl, rfl⟩⟩
theorem tyF70 : TyF Try.prog 70 ⟨2, .st [(0, 1), (1, 1)], [.lit (.int .i64 0), .lit (.int .i64 0)]⟩ :=
  ⟨⟨_, _, (by kernel_rfl : Try.prog.info? 70 = some ((Try.prog.info? 70).get (by kernel_rfl))), by kernel_rfl, (by kernel_rfl : _ = some (((Try.prog.info? 70).get (by kernel_rfl)).zero.get (by kernel_rfl))), by kernel_rfl⟩, rfl, ⟨_, Try.underlying70, by kernel_rfl, rfl⟩⟩
theorem tyF72 : TyF Try.prog 72 ⟨2, .st [(0, 1), (1, 1)], [.lit (.int .i64 0), .lit (.int .i64 0)]⟩ :=
  ⟨⟨_, _, (by kernel_rfl : Try.prog.info? 72 = some ((Try.prog.info? 72).get (by kernel_rfl))), by kernel_rfl, (by kernel_rfl : _ = some (((Try.prog.info? 72).get (by kernel_rfl)).zero.get (by kernel_rfl))), by kernel_rfl⟩, rfl, ⟨_, Try.underlying72, by kernel_rfl, rfl⟩⟩
theorem tyF73 : TyF Try.prog 73 ⟨2, .st [(0, 1), (1, 1)], [.lit (.int .i64 0), .lit (.int .i64 0)]⟩ :=
  ⟨⟨_, _, (by kernel_rfl : Try.prog.info? 73 = some ((Try.prog.info? 73).get (by kernel_rfl))), by kernel_rfl, (by kernel_rfl : _ = some (((Try.prog.info? 73).get (by kernel_rfl)).zero.get (by kernel_rfl))), by kernel_rfl⟩, rfl, ⟨_, Try.underlying73, by kernel_rfl, rfl⟩⟩
theorem tyF75 : TyF Try.prog 75 ⟨2, .st [(0, 1), (1, 1)], [.lit (.int .i64 0), .lit (.int .i64 0)]⟩ :=
  ⟨⟨_, _, (by kernel_rfl : Try.prog.info? 75 = some ((Try.prog.info? 75).get (by kernel_rfl))), by kernel_rfl, (by kernel_rfl : _ = some (((Try.prog.info? 75).get (by kernel_rfl)).zero.get (by kernel_rfl))), by kernel_rfl⟩, rfl, ⟨_, Try.underlying75, by kernel_rfl, rfl⟩⟩
theorem tyF79 : TyF Try.prog 79 ⟨3, .st [(0, 1), (1, 1), (2, 1)], [.lit (.int .i64 0), .lit (.bool false), .lit (.int .i64 0)]⟩ :=
  ⟨⟨_, _, (by kernel_rfl : Try.prog.info? 79 = some ((Try.prog.info? 79).get (by kernel_rfl))), by kernel_rfl, (by kernel_rfl : _ = some (((Try.prog.info? 79).get (by kernel_rfl)).zero.get (by kernel_rfl))), by kernel_rfl⟩, rfl, ⟨_, Try.underlying79, by kernel_rfl, rfl⟩⟩
theorem tyF82 : TyF Try.prog 82 ⟨2, .arr 2 4 1, [.lit (.bool false), .lit (.bool false)]⟩ :=
  ⟨⟨_, _, (by kernel_rfl : Try.prog.info? 82 = some ((Try.prog.info? 82).get (by kernel_rfl))), by kernel_rfl, (by kernel_rfl : _ = some (((Try.prog.info? 82).get (by kernel_rfl)).zero.get (by kernel_rfl))), by kernel_rfl⟩, rfl, ⟨Try.underlying82, _, (by kernel_rfl : Try.prog.info? 4 = some ((Try.prog.info? 4).get (by kernel_rfl))), by kernel_rfl⟩⟩
theorem tyF90 : TyF Try.prog 90 ⟨1, .sc, [.lit (.int .u32 0)]⟩ :=
  ⟨⟨_, _, (by kernel_rfl : Try.prog.info? 90 = some ((Try.prog.info? 90).get (by kernel_rfl))), by kernel_rfl, (by kernel_rfl : _ = some (((Try.prog.info? 90).get (by kernel_rfl)).zero.get (by kernel_rfl))), by kernel_rfl⟩, rfl, ⟨_, Try.underlying90, rfl⟩⟩
theorem tyF91 : TyF Try.prog 91 ⟨1, .sc, [.lit (.int .u8 0)]⟩ :=
  ⟨⟨_, _, (by kernel_rfl : Try.prog.info? 91 = some ((Try.prog.info? 91).get (by kernel_rfl))), by kernel_rfl, (by kernel_rfl : _ = some (((Try.prog.info? 91).get (by kernel_rfl)).zero.get (by kernel_rfl))), by kernel_rfl⟩, rfl, ⟨_, Try.underlying91, rfl⟩⟩
theorem tyF92 : TyF Try.prog 92 ⟨1, .sc, [.lit (.int .u8 0)]⟩ :=
  ⟨⟨_, _, (by kernel_rfl : Try.prog.info? 92 = some ((Try.prog.info? 92).get (by kernel_rfl))), by kernel_rfl, (by kernel_rfl : _ = some (((Try.prog.info? 92).get (by kernel_rfl)).zero.get (by kernel_rfl))), by kernel_rfl⟩, rfl, ⟨_, Try.underlying92, rfl⟩⟩
theorem tyF95 : TyF Try.prog 95 ⟨1, .sc, [.lit (.int .i32 0)]⟩ :=
  ⟨⟨_, _, (by kernel_rfl : Try.prog.info? 95 = some ((Try.prog.info? 95).get (by kernel_rfl))), by kernel_rfl, (by kernel_rfl : _ = some (((Try.prog.info? 95).get (by kernel_rfl)).zero.get (by kernel_rfl))), by kernel_rfl⟩, rfl, ⟨_, Try.underlying95, rfl⟩⟩
theorem tyF96 : TyF Try.prog 96 ⟨1, .sc, [.lit (.int .i32 0)]⟩ :=
  ⟨⟨_, _, (by kernel_rfl : Try.prog.info? 96 = some ((Try.prog.info? 96).get (by kernel_rfl))), by kernel_rfl, (by kernel_rfl : _ = some (((Try.prog.info? 96).get (by kernel_rfl)).zero.get (by kernel_rfl))), by kernel_rfl⟩, rfl, ⟨_, Try.underlying96, rfl⟩⟩
theorem tyOk : TOk Try.prog tyT := by
  intro t i h
  unfold tyT at h
  split at h
  · injection h with h; subst h; exact tyF2
  · injection h with h; subst h; exact tyF3
  · injection h with h; subst h; exact tyF4
  · injection h with h; subst h; exact tyF5
  · injection h with h; subst h; exact tyF6
  · injection h with h; subst h; exact tyF7
  · injection h with h; subst h; exact tyF8
  · injection h with h; subst h; exact tyF12
  · injection h with h; subst h; exact tyF21
  · injection h with h; subst h; exact tyF22
  · injection h with h; subst h; exact tyF23
  · injection h with h; subst h; exact tyF25
  · injection h with h; subst h; exact tyF28
  · injection h with h; subst h; exact tyF31
  · injection h with h; subst h; exact tyF39
  · injection h with h; subst h; exact tyF41
  · injection h with h; subst h; exact tyF48
  · injection h with h; subst h; exact tyF50
  · injection h with h; subst h; exact tyF51
  · injection h with h; subst h; exact tyF54
  · injection h with h; subst h; exact tyF59
  · injection h with h; subst h; exact tyF67
  · injection h with h; subst h; exact tyF68
  · injection h with h; subst h; exact tyF70
  · injection h with h; subst h; exact tyF72
  · injection h with h; subst h; exact tyF73
  · injection h with h; subst h; exact tyF75
  · injection h with h; subst h; exact tyF79
  · injection h with h; subst h; exact tyF82
  · injection h with h; subst h; exact tyF90
  · injection h with h; subst h; exact tyF91
  · injection h with h; subst h; exact tyF92
  · injection h with h; subst h; exact tyF95
  · injection h with h; subst h; exact tyF96
  · cases h
end Go.Proofs.Ytkafibaoikmccab

