/- The types of the program that the proofs speak of. -/
import Derived.Test.YtbdegnamlmabbabProg
import Derived.Test.YtbdegnamlmabbabTrc
import Derived.KernelRfl
namespace Go.Proofs.Ytbdegnamlmabbab
open Go Go.Tr
set_option linter.unusedVariables false
set_option linter.unusedSimpArgs false
set_option maxRecDepth 100000
def tyT : Nat → Option TyI
  | 2 => some ⟨1, .sc, [.lit (.int .i64 0)]⟩
  | 3 => some ⟨1, .sc, [.lit (.int .i64 0)]⟩
  | 4 => some ⟨1, .sc, [.lit (.bool false)]⟩
  | 5 => some ⟨1, .sc, [.lit (.int .u8 0)]⟩
  | 6 => some ⟨1, .sc, [.lit (.int .u8 0)]⟩
  | 7 => some ⟨4, .st [(0, 1), (1, 1), (2, 1), (3, 1)], [.lit (.int .i64 0), .lit (.int .i64 0), .lit (.bool false), .lit (.int .u8 0)]⟩
  | 8 => some ⟨4, .st [(0, 1), (1, 1), (2, 1), (3, 1)], [.lit (.int .i64 0), .lit (.int .i64 0), .lit (.bool false), .lit (.int .u8 0)]⟩
  | 12 => some ⟨1, .sc, [.lit (.int .u64 0)]⟩
  | 21 => some ⟨1, .sc, [.lit (.int .i32 0)]⟩
  | 22 => some ⟨1, .sl 63 4 32, [.sl 63 4]⟩
  | 23 => some ⟨2, .st [(0, 1), (1, 1)], [.lit (.int .i64 0), .sl 63 4]⟩
  | 24 => some ⟨2, .st [(0, 1), (1, 1)], [.lit (.int .i64 0), .sl 63 4]⟩
  | 29 => some ⟨1, .sl 90 4 32, [.sl 90 4]⟩
  | 30 => some ⟨2, .st [(0, 1), (1, 1)], [.lit (.int .i64 0), .sl 90 4]⟩
  | 31 => some ⟨2, .st [(0, 1), (1, 1)], [.lit (.int .i64 0), .sl 90 4]⟩
  | 41 => some ⟨1, .sl 3 1 8, [.sl 3 1]⟩
  | 48 => some ⟨1, .sl 73 1 24, [.sl 73 1]⟩
  | 52 => some ⟨1, .sl 78 1 24, [.sl 78 1]⟩
  | 62 => some ⟨4, .st [(0, 1), (1, 1), (2, 1), (3, 1)], [.lit (.bool false), .lit (.int .i64 0), .lit (.bool false), .lit (.int .i64 0)]⟩
  | 63 => some ⟨4, .st [(0, 1), (1, 1), (2, 1), (3, 1)], [.lit (.bool false), .lit (.int .i64 0), .lit (.bool false), .lit (.int .i64 0)]⟩
  | 71 => some ⟨1, .sl 80 2 16, [.sl 80 2]⟩
  | 72 => some ⟨1, .st [(0, 1)], [.sl 80 2]⟩
  | 73 => some ⟨1, .st [(0, 1)], [.sl 80 2]⟩
  | 76 => some ⟨1, .sl 96 2 16, [.sl 96 2]⟩
  | 77 => some ⟨1, .st [(0, 1)], [.sl 96 2]⟩
  | 78 => some ⟨1, .st [(0, 1)], [.sl 96 2]⟩
  | 79 => some ⟨2, .st [(0, 1), (1, 1)], [.lit (.int .i64 0), .lit (.int .i64 0)]⟩
  | 80 => some ⟨2, .st [(0, 1), (1, 1)], [.lit (.int .i64 0), .lit (.int .i64 0)]⟩
  | 90 => some ⟨4, .st [(0, 1), (1, 1), (2, 1), (3, 1)], [.lit (.bool false), .lit (.int .i64 0), .lit (.bool false), .lit (.int .i64 0)]⟩
  | 96 => some ⟨2, .st [(0, 1), (1, 1)], [.lit (.int .i64 0), .lit (.int .i64 0)]⟩
  | 105 => some ⟨1, .sc, [.lit (.int .u32 0)]⟩
  | 106 => some ⟨1, .sc, [.lit (.int .u8 0)]⟩
  | 107 => some ⟨1, .sc, [.lit (.int .u8 0)]⟩
  | 110 => some ⟨1, .sc, [.lit (.int .i32 0)]⟩
  | 111 => some ⟨1, .sc, [.lit (.int .i32 0)]⟩
  | _ => none
theorem tyF2 : TyF Try.prog 2 ⟨1, .sc, [.lit (.int .i64 0)]⟩ :=
  ⟨⟨_, _, (by kernel_rfl : Try.prog.info? 2 = some ((Try.prog.info? 2).get (by kernel_rfl))), by kernel_rfl, (by kernel_rfl : _ = some (((Try.prog.info? 2).get (by kernel_rfl)).zero.get (by kernel_rfl))), by kernel_rfl⟩, rfl, ⟨_, Try.underlying2, rfl⟩⟩
theorem tyF3 : TyF Try.prog 3 ⟨1, .sc, [.lit (.int .i64 0)]⟩ :=
  ⟨⟨_, _, (by kernel_rfl : Try.prog.info? 3 = some ((Try.prog.info? 3).get (by kernel_rfl))), by kernel_rfl, (by kernel_rfl : _ = some (((Try.prog.info? 3).get (by kernel_rfl)).zero.get (by kernel_rfl))), by kernel_rfl⟩, rfl, ⟨_, Try.underlying3, rfl⟩⟩
theorem tyF4 : TyF Try.prog 4 ⟨1, .sc, [.lit (.bool false)]⟩ :=
  ⟨⟨_, _, (by kernel_rfl : Try.prog.info? 4 = some ((Try.prog.info? 4).get (by kernel_rfl))), by kernel_rfl, (by kernel_rfl : _ = some (((Try.prog.info? 4).get (by kernel_rfl)).zero.get (by kernel_rfl))), by kernel_rfl⟩, rfl, ⟨_, Try.underlying4, rfl⟩⟩
theorem tyF5 : TyF Try.prog 5 ⟨1, .sc, [.lit (.int .u8 0)]⟩ :=
  ⟨⟨_, _, (by kernel_rfl : Try.prog.info? 5 = some ((Try.prog.info? 5).get (by kernel_rfl))), by kernel_rfl, (by kernel_rfl : _ = some (((Try.prog.info? 5).get (by kernel_rfl)).zero.get (by kernel_rfl))), by kernel_rfl⟩, rfl, ⟨_, Try.underlying5, rfl⟩⟩
theorem tyF6 : TyF Try.prog 6 ⟨1, .sc, [.lit (.int .u8 0)]⟩ :=
  ⟨⟨_, _, (by kernel_rfl : Try.prog.info? 6 = some ((Try.prog.info? 6).get (by kernel_rfl))), by kernel_rfl, (by kernel_rfl : _ = some (((Try.prog.info? 6).get (by kernel_rfl)).zero.get (by kernel_rfl))), by kernel_rfl⟩, rfl, ⟨_, Try.underlying6, rfl⟩⟩
theorem tyF7 : TyF Try.prog 7 ⟨4, .st [(0, 1), (1, 1), (2, 1), (3, 1)], [.lit (.int .i64 0), .lit (.int .i64 0), .lit (.bool false), .lit (.int .u8 0)]⟩ :=
  ⟨⟨_, _, (by kernel_rfl : Try.prog.info? 7 = some ((Try.prog.info? 7).get (by kernel_rfl))), by kernel_rfl, (by kernel_rfl : _ = some (((Try.prog.info? 7).get (by kernel_rfl)).zero.get (by kernel_rfl))), by kernel_rfl⟩, rfl, ⟨_, Try.underlying7, by kernel_rfl, rfl⟩⟩
theorem tyF8 : TyF Try.prog 8 ⟨4, .st [(0, 1), (1, 1), (2, 1), (3, 1)], [.lit (.int .i64 0), .lit (.int .i64 0), .lit (.bool false), .lit (.int .u8 0)]⟩ :=
  ⟨⟨_, _, (by kernel_rfl : Try.prog.info? 8 = some ((Try.prog.info? 8).get (by kernel_rfl))), by kernel_rfl, (by kernel_rfl : _ = some (((Try.prog.info? 8).get (by kernel_rfl)).zero.get (by kernel_rfl))), by kernel_rfl⟩, rfl, ⟨_, Try.underlying8, by kernel_rfl, rfl⟩⟩
theorem tyF12 : TyF Try.prog 12 ⟨1, .sc, [.lit (.int .u64 0)]⟩ :=
  ⟨⟨_, _, (by kernel_rfl : Try.prog.info? 12 = some ((Try.prog.info? 12).get (by kernel_rfl))), by kernel_rfl, (by kernel_rfl : _ = some (((Try.prog.info? 12).get (by kernel_rfl)).zero.get (by kernel_rfl))), by kernel_rfl⟩, rfl, ⟨_, Try.underlying12, rfl⟩⟩
theorem tyF21 : TyF Try.prog 21 ⟨1, .sc, [.lit (.int .i32 0)]⟩ :=
  ⟨⟨_, _, (by kernel_rfl : Try.prog.info? 21 = some ((Try.prog.info? 21).get (by kernel_rfl))), by kernel_rfl, (by kernel_rfl : _ = some (((Try.prog.info? 21).get (by kernel_rfl)).zero.get (by kernel_rfl))), by kernel_rfl⟩, rfl, ⟨_, Try.underlying21, rfl⟩⟩
theorem tyF22 : TyF Try.prog 22 ⟨1, .sl 63 4 32, [.sl 63 4]⟩ :=
  ⟨⟨_, _, (by kernel_rfl : Try.prog.info? 22 = some ((Try.prog.info? 22).get (by kernel_rfl))), by kernel_rfl, (by kernel_rfl : _ = some (((Try.prog.info? 22).get (by kernel_rfl)).zero.get (by kernel_rfl))), by kernel_rfl⟩, rfl, ⟨Try.underlying22, _, _, (by kernel_rfl : Try.prog.info? 63 = some ((Try.prog.info? 63).get (by kernel_rfl))), by kernel_rfl, by kernel_rfl, (by kernel_rfl : _ = some (((Try.prog.info? 63).get (by kernel_rfl)).zero.get (by kernel_rfl))), by kernel_rfl, by decide⟩⟩
theorem tyF23 : TyF Try.prog 23 ⟨2, .st [(0, 1), (1, 1)], [.lit (.int .i64 0), .sl 63 4]⟩ :=
  ⟨⟨_, _, (by kernel_rfl : Try.prog.info? 23 = some ((Try.prog.info? 23).get (by kernel_rfl))), by kernel_rfl, (by kernel_rfl : _ = some (((Try.prog.info? 23).get (by kernel_rfl)).zero.get (by kernel_rfl))), by kernel_rfl⟩, rfl, ⟨_, Try.underlying23, by kernel_rfl, rfl⟩⟩
theorem tyF24 : TyF Try.prog 24 ⟨2, .st [(0, 1), (1, 1)], [.lit (.int .i64 0), .sl 63 4]⟩ :=
  ⟨⟨_, _, (by kernel_rfl : Try.prog.info? 24 = some ((Try.prog.info? 24).get (by kernel_rfl))), by kernel_rfl, (by kernel_rfl : _ = some (((Try.prog.info? 24).get (by kernel_rfl)).zero.get (by kernel_rfl))), by kernel_rfl⟩, rfl, ⟨_, Try.underlying24, by kernel_rfl, rfl⟩⟩
theorem tyF29 : TyF Try.prog 29 ⟨1, .sl 90 4 32, [.sl 90 4]⟩ :=
  ⟨⟨_, _, (by kernel_rfl : Try.prog.info? 29 = some ((Try.prog.info? 29).get (by kernel_rfl))), by kernel_rfl, (by kernel_rfl : _ = some (((Try.prog.info? 29).get (by kernel_rfl)).zero.get (by kernel_rfl))), by kernel_rfl⟩, rfl, ⟨Try.underlying29, _, _, (by kernel_rfl : Try.prog.info? 90 = some ((Try.prog.info? 90).get (by kernel_rfl))), by kernel_rfl, by kernel_rfl, (by kernel_rfl : _ = some (((Try.prog.info? 90).get (by kernel_rfl)).zero.get (by kernel_rfl))), by kernel_rfl, by decide⟩⟩
theorem tyF30 : TyF Try.prog 30 ⟨2, .st [(0, 1), (1, 1)], [.lit (.int .i64 0), .sl 90 4]⟩ :=
  ⟨⟨_, _, (by kernel_rfl : Try.prog.info? 30 = some ((Try.prog.info? 30).get (by kernel_rfl))), by kernel_rfl, (by kernel_rfl : _ = some (((Try.prog.info? 30).get (by kernel_rfl)).zero.get (by kernel_rfl))), by kernel_rfl⟩, rfl, ⟨_, Try.underlying30, by kernel_rfl, rfl⟩⟩
theorem tyF31 : TyF Try.prog 31 ⟨2, .st [(0, 1), (1, 1)], [.lit (.int .i64 0), .sl 90 4]⟩ :=
  ⟨⟨_, _, (by kernel_rfl : Try.prog.info? 31 = some ((Try.prog.info? 31).get (by kernel_rfl))), by kernel_rfl, (by kernel_rfl : _ = some (((Try.prog.info? 31).get (by kernel_rfl)).zero.get (by kernel_rfl))), by kernel_rfl⟩, rfl, ⟨_, Try.underlying31, by kernel_rfl, rfl⟩⟩
theorem tyF41 : TyF Try.prog 41 ⟨1, .sl 3 1 8, [.sl 3 1]⟩ :=
  ⟨⟨_, _, (by kernel_rfl : Try.prog.info? 41 = some ((Try.prog.info? 41).get (by kernel_rfl))), by kernel_rfl, (by kernel_rfl : _ = some (((Try.prog.info? 41).get (by kernel_rfl)).zero.get (by kernel_rfl))), by kernel_rfl⟩, rfl, ⟨Try.underlying41, _, _, (by kernel_rfl : Try.prog.info? 3 = some ((Try.prog.info? 3).get (by kernel_rfl))), by kernel_rfl, by kernel_rfl, (by kernel_rfl : _ = some (((Try.prog.info? 3).get (by kernel_rfl)).zero.get (by kernel_rfl))), by kernel_rfl, by decide⟩⟩
theorem tyF48 : TyF Try.prog 48 ⟨1, .sl 73 1 24, [.sl 73 1]⟩ :=
  ⟨⟨_, _, (by kernel_rfl : Try.prog.info? 48 = some ((Try.prog.info? 48).get (by kernel_rfl))), by kernel_rfl, (by kernel_rfl : _ = some (((Try.prog.info? 48).get (by kernel_rfl)).zero.get (by kernel_rfl))), by kernel_rfl⟩, rfl, ⟨Try.underlying48, _, _, (by kernel_rfl : Try.prog.info? 73 = some ((Try.prog.info? 73).get (by kernel_rfl))), by kernel_rfl, by kernel_rfl, (by kernel_rfl : _ = some (((Try.prog.info? 73).get (by kernel_rfl)).zero.get (by kernel_rfl))), by kernel_rfl, by decide⟩⟩
theorem tyF52 : TyF Try.prog 52 ⟨1, .sl 78 1 24, [.sl 78 1]⟩ :=
  ⟨⟨_, _, (by kernel_rfl : Try.prog.info? 52 = some ((Try.prog.info? 52).get (by kernel_rfl))), by kernel_rfl, (by kernel_rfl : _ = some (((Try.prog.info? 52).get (by kernel_rfl)).zero.get (by kernel_rfl))), by kernel_rfl⟩, rfl, ⟨Try.underlying52, _, _, (by kernel_rfl : Try.prog.info? 78 = some ((Try.prog.info? 78).get (by kernel_rfl))), by kernel_rfl, by kernel_rfl, (by kernel_rfl : _ = some (((Try.prog.info? 78).get (by kernel_rfl)).zero.get (by kernel_rfl))), by kernel_rfl, by decide⟩⟩
theorem tyF62 : TyF Try.prog 62 ⟨4, .st [(0, 1), (1, 1), (2, 1), (3, 1)], [.lit (.bool false), .lit (.int .i64 0), .lit (.bool false), .lit (.int .i64 0)]⟩ :=
  ⟨⟨_, _, (by kernel_rfl : Try.prog.info? 62 = some ((Try.prog.info? 62).get (by kernel_rfl))), by kernel_rfl, (by kernel_rfl : _ = some (((Try.prog.info? 62).get (by kernel_rfl)).zero.get (by kernel_rfl))), by kernel_rfl⟩, rfl, ⟨_, Try.underlying62, by kernel_rfl, rfl⟩⟩
theorem tyF63 : TyF Try.prog 63 ⟨4, .st [(0, 1), (1, 1), (2, 1), (3, 1)], [.lit (.bool false), .lit (.int .i64 0), .lit (.bool false), .lit (.int .i64 0)]⟩ :=
  ⟨⟨_, _, (by kernel_rfl : Try.prog.info? 63 = some ((Try.prog.info? 63).get (by kernel_rfl))), by kernel_rfl, (by kernel_rfl : _ = some (((Try.prog.info? 63).get (by kernel_rfl)).zero.get (by kernel_rfl))), by kernel_rfl⟩, rfl, ⟨_, Try.underlying63, by kernel_rfl, rfl⟩⟩
theorem tyF71 : TyF Try.prog 71 ⟨1, .sl 80 2 16, [.sl 80 2]⟩ :=
  ⟨⟨_, _, (by kernel_rfl : Try.prog.info? 71 = some ((Try.prog.info? 71).get (by kernel_rfl))), by kernel_rfl, (by kernel_rfl : _ = some (((Try.prog.info? 71).get (by kernel_rfl)).zero.get (by kernel_rfl))), by kernel_rfl⟩, rfl, ⟨Try.underlying71, _, _, (by kernel_rfl : Try.prog.info? 80 = some ((Try.prog.info? 80).get (by kernel_rfl))), by kernel_rfl, by kernel_rfl, (by kernel_rfl : _ = some (((Try.prog.info? 80).get (by kernel_rfl)).zero.get (by kernel_rfl))), by kernel_rfl, by decide⟩⟩
theorem tyF72 : TyF Try.prog 72 ⟨1, .st [(0, 1)], [.sl 80 2]⟩ :=
  ⟨⟨_, _, (by kernel_rfl : Try.prog.info? 72 = some ((Try.prog.info? 72).get (by kernel_rfl))), by kernel_rfl, (by kernel_rfl : _ = some (((Try.prog.info? 72).get (by kernel_rfl)).zero.get (by kernel_rfl))), by kernel_rfl⟩, rfl, ⟨_, Try.underlying72, by kernel_rfl, rfl⟩⟩
theorem tyF73 : TyF Try.prog 73 ⟨1, .st [(0, 1)], [.sl 80 2]⟩ :=
  ⟨⟨_, _, (by kernel_rfl : Try.prog.info? 73 = some ((Try.prog.info? 73).get (by kernel_rfl))), by kernel_rfl, (by kernel_rfl : _ = some (((Try.prog.info? 73).get (by kernel_rfl)).zero.get (by kernel_rfl))), by kernel_rfl⟩, rfl, ⟨_, Try.underlying73, by kernel_rfl, rfl⟩⟩
theorem tyF76 : TyF Try.prog 76 ⟨1, .sl 96 2 16, [.sl 96 2]⟩ :=
  ⟨⟨_, _, (by kernel_rfl : Try.prog.info? 76 = some ((Try.prog.info? 76).get (by kernel_rfl))), by kernel_rfl, (by kernel_rfl : _ = some (((Try.prog.info? 76).get (by kernel_rfl)).zero.get (by kernel_rfl))), by kernel_rfl⟩, rfl, ⟨Try.underlying76, _, _, (by kernel_rfl : Try.prog.info? 96 = some ((Try.prog.info? 96).get (by kernel_rfl))), by kernel_rfl, by kernel_rfl, (by kernel_rfl : _ = some (((Try.prog.info? 96).get (by kernel_rfl)).zero.get (by kernel_rfl))), by kernel_rfl, by decide⟩⟩
theorem tyF77 : TyF Try.prog 77 ⟨1, .st [(0, 1)], [.sl 96 2]⟩ :=
  ⟨⟨_, _, (by kernel_rfl : Try.prog.info? 77 = some ((Try.prog.info? 77).get (by kernel_rfl))), by kernel_rfl, (by kernel_rfl : _ = some (((Try.prog.info? 77).get (by kernel_rfl)).zero.get (by kernel_rfl))), by kernel_rfl⟩, rfl, ⟨_, Try.underlying77, by kernel_rfl, rfl⟩⟩
theorem tyF78 : TyF Try.prog 78 ⟨1, .st [(0, 1)], [.sl 96 2]⟩ :=
  ⟨⟨_, _, (by kernel_rfl : Try.prog.info? 78 = some ((Try.prog.info? 78).get (by kernel_rfl))), by kernel_rfl, (by kernel_rfl : _ = some (((Try.prog.info? 78).get (by kernel_rfl)).zero.get (by kernel_rfl))), by kernel_rfl⟩, rfl, ⟨_, Try.underlying78, by kernel_rfl, rfl⟩⟩
theorem tyF79 : TyF Try.prog 79 ⟨2, .st [(0, 1), (1, 1)], [.lit (.int .i64 0), .lit (.int .i64 0)]⟩ :=
  ⟨⟨_, _, (by kernel_rfl : Try.prog.info? 79 = some ((Try.prog.info? 79).get (by kernel_rfl))), by kernel_rfl, (by kernel_rfl : _ = some (((Try.prog.info? 79).get (by kernel_rfl)).zero.get (by kernel_rfl))), by kernel_rfl⟩, rfl, ⟨_, Try.underlying79, by kernel_rfl, rfl⟩⟩
theorem tyF80 : TyF Try.prog 80 ⟨2, .st [(0, 1), (1, 1)], [.lit (.int .i64 0), .lit (.int .i64 0)]⟩ :=
  ⟨⟨_, _, (by kernel_rfl : Try.prog.info? 80 = some ((Try.prog.info? 80).get (by kernel_rfl))), by kernel_rfl, (by kernel_rfl : _ = some (((Try.prog.info? 80).get (by kernel_rfl)).zero.get (by kernel_rfl))), by kernel_rfl⟩, rfl, ⟨_, Try.underlying80, by kernel_rfl, rfl⟩⟩
theorem tyF90 : TyF Try.prog 90 ⟨4, .st [(0, 1), (1, 1), (2, 1), (3, 1)], [.lit (.bool false), .lit (.int .i64 0), .lit (.bool false), .lit (.int .i64 0)]⟩ :=
  ⟨⟨_, _, (by kernel_rfl : Try.prog.info? 90 = some ((Try.prog.info? 90).get (by kernel_rfl))), by kernel_rfl, (by kernel_rfl : _ = some (((Try.prog.info? 90).get (by kernel_rfl)).zero.get (by kernel_rfl))), by kernel_rfl⟩, rfl, ⟨_, Try.underlying90, by kernel_rfl, rfl⟩⟩
theorem tyF96 : TyF Try.prog 96 ⟨2, .st [(0, 1), (1, 1)], [.lit (.int .i64 0), .lit (.int .i64 0)]⟩ :=
  ⟨⟨_, _, (by kernel_rfl : Try.prog.info? 96 = some ((Try.prog.info? 96).get (by kernel_rfl))), by kernel_rfl, (by kernel_rfl : _ = some (((Try.prog.info? 96).get (by kernel_rfl)).zero.get (by kernel_rfl))), by kernel_rfl⟩, rfl, ⟨_, Try.underlying96, by kernel_rfl, rfl⟩⟩
theorem tyF105 : TyF Try.prog 105 ⟨1, .sc, [.lit (.int .u32 0)]⟩ :=
  ⟨⟨_, _, (by kernel_rfl : Try.prog.info? 105 = some ((Try.prog.info? 105).get (by kernel_rfl))), by kernel_rfl, (by kernel_rfl : _ = some (((Try.prog.info? 105).get (by kernel_rfl)).zero.get (by kernel_rfl))), by kernel_rfl⟩, rfl, ⟨_, Try.underlying105, rfl⟩⟩
theorem tyF106 : TyF Try.prog 106 ⟨1, .sc, [.lit (.int .u8 0)]⟩ :=
  ⟨⟨_, _, (by kernel_rfl : Try.prog.info? 106 = some ((Try.prog.info? 106).get (by kernel_rfl))), by kernel_rfl, (by kernel_rfl : _ = some (((Try.prog.info? 106).get (by kernel_rfl)).zero.get (by kernel_rfl))), by kernel_rfl⟩, rfl, ⟨_, Try.underlying106, rfl⟩⟩
theorem tyF107 : TyF Try.prog 107 ⟨1, .sc, [.lit (.int .u8 0)]⟩ :=
  ⟨⟨_, _, (by kernel_rfl : Try.prog.info? 107 = some ((Try.prog.info? 107).get (by kernel_rfl))), by kernel_rfl, (by kernel_rfl : _ = some (((Try.prog.info? 107).get (by kernel_rfl)).zero.get (by kernel_rfl))), by kernel_rfl⟩, rfl, ⟨_, Try.underlying107, rfl⟩⟩
theorem tyF110 : TyF Try.prog 110 ⟨1, .sc, [.lit (.int .i32 0)]⟩ :=
  ⟨⟨_, _, (by kernel_rfl : Try.prog.info? 110 = some ((Try.prog.info? 110).get (by kernel_rfl))), by kernel_rfl, (by kernel_rfl : _ = some (((Try.prog.info? 110).get (by kernel_rfl)).zero.get (by kernel_rfl))), by kernel_rfl⟩, rfl, ⟨_, Try.underlying110, rfl⟩⟩
theorem tyF111 : TyF Try.prog 111 ⟨1, .sc, [.lit (.int .i32 0)]⟩ :=
  ⟨⟨_, _, (by kernel_rfl : Try.prog.info? 111 = some ((Try.prog.info? 111).get (by kernel_rfl))), by kernel_rfl, (by kernel_rfl : _ = some (((Try.prog.info? 111).get (by kernel_rfl)).zero.get (by kernel_rfl))), by kernel_rfl⟩, rfl, ⟨_, Try.underlying111, rfl⟩⟩
theorem tyOk : TOk Try.prog tyT := by
  intro t i h
  unfold tyT at h
  split at h
  · injection h with h; subst h; exact tyF2
  · injection h with h; subst h; exact tyF3
  · injection h with h; subst h; exact tyF4
  · injection h with h; subst h; exact tyF5
  · injection h with h; subst h; exact tyF6
  · injection h with h; subst h; exact tyF7
  · injection h with h; subst h; exact tyF8
  · injection h with h; subst h; exact tyF12
  · injection h with h; subst h; exact tyF21
  · injection h with h; subst h; exact tyF22
  · injection h with h; subst h; exact tyF23
  · injection h with h; subst h; exact tyF24
  · injection h with h; subst h; exact tyF29
  · injection h with h; subst h; exact tyF30
  · injection h with h; subst h; exact tyF31
  · injection h with h; subst h; exact tyF41
  · injection h with h; subst h; exact tyF48
  · injection h with h; subst h; exact tyF52
  · injection h with h; subst h; exact tyF62
  · injection h with h; subst h; exact tyF63
  · injection h with h; subst h; exact tyF71
  · injection h with h; subst h; exact tyF72
  · injection h with h; subst h; exact tyF73
  · injection h with h; subst h; exact tyF76
  · injection h with h; subst h; exact tyF77
  · injection h with h; subst h; exact tyF78
  · injection h with h; subst h; exact tyF79
  · injection h with h; subst h; exact tyF80
  · injection h with h; subst h; exact tyF90
  · injection h with h; subst h; exact tyF96
  · injection h with h; subst h; exact tyF105
  · injection h with h; subst h; exact tyF106
  · injection h with h; subst h; exact tyF107
  · injection h with h; subst h; exact tyF110
  · injection h with h; subst h; exact tyF111
  · cases h
end Go.Proofs.Ytbdegnamlmabbab

