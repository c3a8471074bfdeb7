/- The types of the program that the proofs speak of. -/
import Derived.Test.YtofdaaajbkjocaaProg
import Derived.Test.YtofdaaajbkjocaaTrc
import Derived.KernelRfl
namespace Go.Proofs.Ytofdaaajbkjocaa
open Go Go.Tr
set_option linter.unusedVariables false
set_option linter.unusedSimpArgs false
set_option maxRecDepth 100000
def tyT : Nat → Option TyI
  | 2 => some ⟨1, .sc, [.lit (.int .i64 0)]⟩
  | 3 => some ⟨1, .sc, [.lit (.int .i64 0)]⟩
  | 4 => some ⟨1, .sc, [.lit (.bool false)]⟩
  | 5 => some ⟨1, .sc, [.lit (.int .u8 0)]⟩
  | 6 => some ⟨1, .sc, [.lit (.int .u8 0)]⟩
  | 7 => some ⟨4, .st [(0, 1), (1, 1), (2, 1), (3, 1)], [.lit (.int .i64 0), .lit (.int .i64 0), .lit (.bool false), .lit (.int .u8 0)]⟩
  | 8 => some ⟨4, .st [(0, 1), (1, 1), (2, 1), (3, 1)], [.lit (.int .i64 0), .lit (.int .i64 0), .lit (.bool false), .lit (.int .u8 0)]⟩
  | 12 => some ⟨1, .sc, [.lit (.int .u64 0)]⟩
  | 21 => some ⟨1, .sc, [.lit (.int .i32 0)]⟩
  | 22 => some ⟨1, .sl 3 1 8, [.sl 3 1]⟩
  | 23 => some ⟨2, .st [(0, 1), (1, 1)], [.sl 3 1, .sl 3 1]⟩
  | 24 => some ⟨2, .st [(0, 1), (1, 1)], [.sl 3 1, .sl 3 1]⟩
  | 25 => some ⟨1, .sl 101 1 24, [.sl 101 1]⟩
  | 26 => some ⟨2, .st [(0, 1), (1, 1)], [.sl 101 1, .sl 101 1]⟩
  | 27 => some ⟨2, .st [(0, 1), (1, 1)], [.sl 101 1, .sl 101 1]⟩
  | 28 => some ⟨4, .st [(0, 2), (2, 2)], [.sl 3 1, .sl 3 1, .sl 101 1, .sl 101 1]⟩
  | 29 => some ⟨4, .st [(0, 2), (2, 2)], [.sl 3 1, .sl 3 1, .sl 101 1, .sl 101 1]⟩
  | 32 => some ⟨2, .st [(0, 1), (1, 1)], [.sl 3 1, .sl 3 1]⟩
  | 33 => some ⟨1, .sl 84 1 24, [.sl 84 1]⟩
  | 34 => some ⟨2, .st [(0, 1), (1, 1)], [.sl 84 1, .sl 84 1]⟩
  | 35 => some ⟨2, .st [(0, 1), (1, 1)], [.sl 84 1, .sl 84 1]⟩
  | 36 => some ⟨4, .st [(0, 2), (2, 2)], [.sl 3 1, .sl 3 1, .sl 84 1, .sl 84 1]⟩
  | 37 => some ⟨4, .st [(0, 2), (2, 2)], [.sl 3 1, .sl 3 1, .sl 84 1, .sl 84 1]⟩
  | 40 => some ⟨1, .sl 69 1 24, [.sl 69 1]⟩
  | 45 => some ⟨1, .sl 106 4 32, [.sl 106 4]⟩
  | 46 => some ⟨2, .st [(0, 1), (1, 1)], [.lit (.int .i64 0), .sl 106 4]⟩
  | 47 => some ⟨2, .st [(0, 1), (1, 1)], [.lit (.int .i64 0), .sl 106 4]⟩
  | 48 => some ⟨1, .sl 93 1 24, [.sl 93 1]⟩
  | 49 => some ⟨8, .st [(0, 4), (4, 2), (6, 1), (7, 1)], [.sl 3 1, .sl 3 1, .sl 101 1, .sl 101 1, .lit (.int .i64 0), .sl 106 4, .sl 93 1, .sl 3 1]⟩
  | 50 => some ⟨8, .st [(0, 4), (4, 2), (6, 1), (7, 1)], [.sl 3 1, .sl 3 1, .sl 101 1, .sl 101 1, .lit (.int .i64 0), .sl 106 4, .sl 93 1, .sl 3 1]⟩
  | 53 => some ⟨1, .sl 95 4 32, [.sl 95 4]⟩
  | 54 => some ⟨2, .st [(0, 1), (1, 1)], [.lit (.int .i64 0), .sl 95 4]⟩
  | 55 => some ⟨2, .st [(0, 1), (1, 1)], [.lit (.int .i64 0), .sl 95 4]⟩
  | 56 => some ⟨8, .st [(0, 4), (4, 2), (6, 1), (7, 1)], [.sl 3 1, .sl 3 1, .sl 84 1, .sl 84 1, .lit (.int .i64 0), .sl 95 4, .sl 69 1, .sl 3 1]⟩
  | 57 => some ⟨8, .st [(0, 4), (4, 2), (6, 1), (7, 1)], [.sl 3 1, .sl 3 1, .sl 84 1, .sl 84 1, .lit (.int .i64 0), .sl 95 4, .sl 69 1, .sl 3 1]⟩
  | 67 => some ⟨1, .sl 88 2 16, [.sl 88 2]⟩
  | 68 => some ⟨1, .st [(0, 1)], [.sl 88 2]⟩
  | 69 => some ⟨1, .st [(0, 1)], [.sl 88 2]⟩
  | 83 => some ⟨1, .st [(0, 1)], [.sl 3 1]⟩
  | 84 => some ⟨1, .st [(0, 1)], [.sl 3 1]⟩
  | 87 => some ⟨2, .st [(0, 1), (1, 1)], [.lit (.int .i64 0), .lit (.int .i64 0)]⟩
  | 88 => some ⟨2, .st [(0, 1), (1, 1)], [.lit (.int .i64 0), .lit (.int .i64 0)]⟩
  | 91 => some ⟨1, .sl 110 2 16, [.sl 110 2]⟩
  | 92 => some ⟨1, .st [(0, 1)], [.sl 110 2]⟩
  | 93 => some ⟨1, .st [(0, 1)], [.sl 110 2]⟩
  | 94 => some ⟨4, .st [(0, 1), (1, 1), (2, 1), (3, 1)], [.lit (.bool false), .lit (.int .i64 0), .lit (.bool false), .lit (.int .i64 0)]⟩
  | 95 => some ⟨4, .st [(0, 1), (1, 1), (2, 1), (3, 1)], [.lit (.bool false), .lit (.int .i64 0), .lit (.bool false), .lit (.int .i64 0)]⟩
  | 101 => some ⟨1, .st [(0, 1)], [.sl 3 1]⟩
  | 106 => some ⟨4, .st [(0, 1), (1, 1), (2, 1), (3, 1)], [.lit (.bool false), .lit (.int .i64 0), .lit (.bool false), .lit (.int .i64 0)]⟩
  | 110 => some ⟨2, .st [(0, 1), (1, 1)], [.lit (.int .i64 0), .lit (.int .i64 0)]⟩
  | 118 => some ⟨1, .sc, [.lit (.int .u32 0)]⟩
  | 119 => some ⟨1, .sc, [.lit (.int .u8 0)]⟩
  | 120 => some ⟨1, .sc, [.lit (.int .u8 0)]⟩
  | 123 => some ⟨1, .sc, [.lit (.int .i32 0)]⟩
  | 124 => some ⟨1, .sc, [.lit (.int .i32 0)]⟩
  | _ => none
theorem tyF2 : TyF Try.prog 2 ⟨1, .sc, [.lit (.int .i64 0)]⟩ :=
  ⟨⟨_, _, (by kernel_rfl : Try.prog.info? 2 = some ((Try.prog.info? 2).get (by kernel_rfl))), by kernel_rfl, (by kernel_rfl : _ = some (((Try.prog.info? 2).get (by kernel_rfl)).zero.get (by kernel_rfl))), by kernel_rfl⟩, rfl, ⟨_, Try.underlying2, rfl⟩⟩
theorem tyF3 : TyF Try.prog 3 ⟨1, .sc, [.lit (.int .i64 0)]⟩ :=
  ⟨⟨_, _, (by kernel_rfl : Try.prog.info? 3 = some ((Try.prog.info? 3).get (by kernel_rfl))), by kernel_rfl, (by kernel_rfl : _ = some (((Try.prog.info? 3).get (by kernel_rfl)).zero.get (by kernel_rfl))), by kernel_rfl⟩, rfl, ⟨_, Try.underlying3, rfl⟩⟩
theorem tyF4 : TyF Try.prog 4 ⟨1, .sc, [.lit (.bool false)]⟩ :=
  ⟨⟨_, _, (by kernel_rfl : Try.prog.info? 4 = some ((Try.prog.info? 4).get (by kernel_rfl))), by kernel_rfl, (by kernel_rfl : _ = some (((Try.prog.info? 4).get (by kernel_rfl)).zero.get (by kernel_rfl))), by kernel_rfl⟩, rfl, ⟨_, Try.underlying4, rfl⟩⟩
theorem tyF5 : TyF Try.prog 5 ⟨1, .sc, [.lit (.int .u8 0)]⟩ :=
  ⟨⟨_, _, (by kernel_rfl : Try.prog.info? 5 = some ((Try.prog.info? 5).get (by kernel_rfl))), by kernel_rfl, (by kernel_rfl : _ = some (((Try.prog.info? 5).get (by kernel_rfl)).zero.get (by kernel_rfl))), by kernel_rfl⟩, rfl, ⟨_, Try.underlying5, rfl⟩⟩
theorem tyF6 : TyF Try.prog 6 ⟨1, .sc, [.lit (.int .u8 0)]⟩ :=
  ⟨⟨_, _, (by kernel_rfl : Try.prog.info? 6 = some ((Try.prog.info? 6).get (by kernel_rfl))), by kernel_rfl, (by kernel_rfl : _ = some (((Try.prog.info? 6).get (by kernel_rfl)).zero.get (by kernel_rfl))), by kernel_rfl⟩, rfl, ⟨_, Try.underlying6, rfl⟩⟩
theorem tyF7 : TyF Try.prog 7 ⟨4, .st [(0, 1), (1, 1), (2, 1), (3, 1)], [.lit (.int .i64 0), .lit (.int .i64 0), .lit (.bool false), .lit (.int .u8 0)]⟩ :=
  ⟨⟨_, _, (by kernel_rfl : Try.prog.info? 7 = some ((Try.prog.info? 7).get (by kernel_rfl))), by kernel_rfl, (by kernel_rfl : _ = some (((Try.prog.info? 7).get (by kernel_rfl)).zero.get (by kernel_rfl))), by kernel_rfl⟩, rfl, ⟨_, Try.underlying7, by kernel_rfl, rfl⟩⟩
theorem tyF8 : TyF Try.prog 8 ⟨4, .st [(0, 1), (1, 1), (2, 1), (3, 1)], [.lit (.int .i64 0), .lit (.int .i64 0), .lit (.bool false), .lit (.int .u8 0)]⟩ :=
  ⟨⟨_, _, (by kernel_rfl : Try.prog.info? 8 = some ((Try.prog.info? 8).get (by kernel_rfl))), by kernel_rfl, (by kernel_rfl : _ = some (((Try.prog.info? 8).get (by kernel_rfl)).zero.get (by kernel_rfl))), by kernel_rfl⟩, rfl, ⟨_, Try.underlying8, by kernel_rfl, rfl⟩⟩
theorem tyF12 : TyF Try.prog 12 ⟨1, .sc, [.lit (.int .u64 0)]⟩ :=
  ⟨⟨_, _, (by kernel_rfl : Try.prog.info? 12 = some ((Try.prog.info? 12).get (by kernel_rfl))), by kernel_rfl, (by kernel_rfl : _ = some (((Try.prog.info? 12).get (by kernel_rfl)).zero.get (by kernel_rfl))), by kernel_rfl⟩, rfl, ⟨_, Try.underlying12, rfl⟩⟩
theorem tyF21 : TyF Try.prog 21 ⟨1, .sc, [.lit (.int .i32 0)]⟩ :=
  ⟨⟨_, _, (by kernel_rfl : Try.prog.info? 21 = some ((Try.prog.info? 21).get (by kernel_rfl))), by kernel_rfl, (by kernel_rfl : _ = some (((Try.prog.info? 21).get (by kernel_rfl)).zero.get (by kernel_rfl))), by kernel_rfl⟩, rfl, ⟨_, Try.underlying21, rfl⟩⟩
theorem tyF22 : TyF Try.prog 22 ⟨1, .sl 3 1 8, [.sl 3 1]⟩ :=
  ⟨⟨_, _, (by kernel_rfl : Try.prog.info? 22 = some ((Try.prog.info? 22).get (by kernel_rfl))), by kernel_rfl, (by kernel_rfl : _ = some (((Try.prog.info? 22).get (by kernel_rfl)).zero.get (by kernel_rfl))), by kernel_rfl⟩, rfl, ⟨Try.underlying22, _, _, (by kernel_rfl : Try.prog.info? 3 = some ((Try.prog.info? 3).get (by kernel_rfl))), by kernel_rfl, by kernel_rfl, (by kernel_rfl : _ = some (((Try.prog.info? 3).get (by kernel_rfl)).zero.get (by kernel_rfl))), by kernel_rfl, by decide⟩⟩
theorem tyF23 : TyF Try.prog 23 ⟨2, .st [(0, 1), (1, 1)], [.sl 3 1, .sl 3 1]⟩ :=
  ⟨⟨_, _, (by kernel_rfl : Try.prog.info? 23 = some ((Try.prog.info? 23).get (by kernel_rfl))), by kernel_rfl, (by kernel_rfl : _ = some (((Try.prog.info? 23).get (by kernel_rfl)).zero.get (by kernel_rfl))), by kernel_rfl⟩, rfl, ⟨_, Try.underlying23, by kernel_rfl, rfl⟩⟩
theorem tyF24 : TyF Try.prog 24 ⟨2, .st [(0, 1), (1, 1)], [.sl 3 1, .sl 3 1]⟩ :=
  ⟨⟨_, _, (by kernel_rfl : Try.prog.info? 24 = some ((Try.prog.info? 24).get (by kernel_rfl))), by kernel_rfl, (by kernel_rfl : _ = some (((Try.prog.info? 24).get (by kernel_rfl)).zero.get (by kernel_rfl))), by kernel_rfl⟩, rfl, ⟨_, Try.underlying24, by kernel_rfl, rfl⟩⟩
theorem tyF25 : TyF Try.prog 25 ⟨1, .sl 101 1 24, [.sl 101 1]⟩ :=
  ⟨⟨_, _, (by kernel_rfl : Try.prog.info? 25 = some ((Try.prog.info? 25).get (by kernel_rfl))), by kernel_rfl, (by kernel_rfl : _ = some (((Try.prog.info? 25).get (by kernel_rfl)).zero.get (by kernel_rfl))), by kernel_rfl⟩, rfl, ⟨Try.underlying25, _, _, (by kernel_rfl : Try.prog.info? 101 = some ((Try.prog.info? 101).get (by kernel_rfl))), by kernel_rfl, by kernel_rfl, (by kernel_rfl : _ = some (((Try.prog.info? 101).get (by kernel_rfl)).zero.get (by kernel_rfl))), by kernel_rfl, by decide⟩⟩
theorem tyF26 : TyF Try.prog 26 ⟨2, .st [(0, 1), (1, 1)], [.sl 101 1, .sl 101 1]⟩ :=
  ⟨⟨_, _, (by kernel_rfl : Try.prog.info? 26 = some ((Try.prog.info? 26).get (by kernel_rfl))), by kernel_rfl, (by kernel_rfl : _ = some (((Try.prog.info? 26).get (by kernel_rfl)).zero.get (by kernel_rfl))), by kernel_rfl⟩, rfl, ⟨_, Try.underlying26, by kernel_rfl, rfl⟩⟩
theorem tyF27 : TyF Try.prog 27 ⟨2, .st [(0, 1), (1, 1)], [.sl 101 1, .sl 101 1]⟩ :=
  ⟨⟨_, _, (by kernel_rfl : Try.prog.info? 27 = some ((Try.prog.info? 27).get (by kernel_rfl))), by kernel_rfl, (by kernel_rfl : _ = some (((Try.prog.info? 27).get (by kernel_rfl)).zero.get (by kernel_rfl))), by kernel_rfl⟩, rfl, ⟨_, Try.underlying27, by kernel_rfl, rfl⟩⟩
theorem tyF28 : TyF Try.prog 28 ⟨4, .st [(0, 2), (2, 2)], [.sl 3 1, .sl 3 1, .sl 101 1, .sl 101 1]⟩ :=
  ⟨⟨_, _, (by kernel_rfl : Try.prog.info? 28 = some ((Try.prog.info? 28).get (by kernel_rfl))), by kernel_rfl, (by kernel_rfl : _ = some (((Try.prog.info? 28).get (by kernel_rfl)).zero.get (by kernel_rfl))), by kernel_rfl⟩, rfl, ⟨_, Try.underlying28, by kernel_rfl, rfl⟩⟩
theorem tyF29 : TyF Try.prog 29 ⟨4, .st [(0, 2), (2, 2)], [.sl 3 1, .sl 3 1, .sl 101 1, .sl 101 1]⟩ :=
  ⟨⟨_, _, (by kernel_rfl : Try.prog.info? 29 = some ((Try.prog.info? 29).get (by kernel_rfl))), by kernel_rfl, (by kernel_rfl : _ = some (((Try.prog.info? 29).get (by kernel_rfl)).zero.get (by kernel_rfl))), by kernel_rfl⟩, rfl, ⟨_, Try.underlying29, by kernel_rfl, rfl⟩⟩
theorem tyF32 : TyF Try.prog 32 ⟨2, .st [(0, 1), (1, 1)], [.sl 3 1, .sl 3 1]⟩ :=
  ⟨⟨_, _, (by kernel_rfl : Try.prog.info? 32 = some ((Try.prog.info? 32).get (by kernel_rfl))), by kernel_rfl, (by kernel_rfl : _ = some (((Try.prog.info? 32).get (by kernel_rfl)).zero.get (by kernel_rfl))), by kernel_rfl⟩, rfl, ⟨_, Try.underlying32, by kernel_rfl, rfl⟩⟩
theorem tyF33 : TyF Try.prog 33 ⟨1, .sl 84 1 24, [.sl 84 1]⟩ :=
  ⟨⟨_, _, (by kernel_rfl : Try.prog.info? 33 = some ((Try.prog.info? 33).get (by kernel_rfl))), by kernel_rfl, (by kernel_rfl : _ = some (((Try.prog.info? 33).get (by kernel_rfl)).zero.get (by kernel_rfl))), by kernel_rfl⟩, rfl, ⟨Try.underlying33, _, _, (by kernel_rfl : Try.prog.info? 84 = some ((Try.prog.info? 84).get (by kernel_rfl))), by kernel_rfl, by kernel_rfl, (by kernel_rfl : _ = some (((Try.prog.info? 84).get (by kernel_rfl)).zero.get (by kernel_rfl))), by kernel_rfl, by decide⟩⟩
theorem tyF34 : TyF Try.prog 34 ⟨2, .st [(0, 1), (1, 1)], [.sl 84 1, .sl 84 1]⟩ :=
  ⟨⟨_, _, (by kernel_rfl : Try.prog.info? 34 = some ((Try.prog.info? 34).get (by kernel_rfl))), by kernel_rfl, (by kernel_rfl : _ = some (((Try.prog.info? 34).get (by kernel_rfl)).zero.get (by kernel_rfl))), by kernel_rfl⟩, rfl, ⟨_, Try.underlying34, by kernel_rfl, rfl⟩⟩
theorem tyF35 : TyF Try.prog 35 ⟨2, .st [(0, 1), (1, 1)], [.sl 84 1, .sl 84 1]⟩ :=
  ⟨⟨_, _, (by kernel_rfl : Try.prog.info? 35 = some ((Try.prog.info? 35).get (by kernel_rfl))), by kernel_rfl, (by kernel_rfl : _ = some (((Try.prog.info? 35).get (by kernel_rfl)).zero.get (by kernel_rfl))), by kernel_rfl⟩, rfl, ⟨_, Try.underlying35, by kernel_rfl, rfl⟩⟩
theorem tyF36 : TyF Try.prog 36 ⟨4, .st [(0, 2), (2, 2)], [.sl 3 1, .sl 3 1, .sl 84 1, .sl 84 1]⟩ :=
  ⟨⟨_, _, (by kernel_rfl : Try.prog.info? 36 = some ((Try.prog.info? 36).get (by kernel_rfl))), by kernel_rfl, (by kernel_rfl : _ = some (((Try.prog.info? 36).get (by kernel_rfl)).zero.get (by kernel_rfl))), by kernel_rfl⟩, rfl, ⟨_, Try.underlying36, by kernel_rfl, rfl⟩⟩
theorem tyF37 : TyF Try.prog 37 ⟨4, .st [(0, 2), (2, 2)], [.sl 3 1, .sl 3 1, .sl 84 1, .sl 84 1]⟩ :=
  ⟨⟨_, _, (by kernel_rfl : Try.prog.info? 37 = some ((Try.prog.info? 37).get (by kernel_rfl))), by kernel_rfl, (by kernel_rfl : _ = some (((Try.prog.info? 37).get (by kernel_rfl)).zero.get (by kernel_rfl))), by kernel_rfl⟩, rfl, ⟨_, Try.underlying37, by kernel_rfl, rfl⟩⟩
theorem tyF40 : TyF Try.prog 40 ⟨1, .sl 69 1 24, [.sl 69 1]⟩ :=
  ⟨⟨_, _, (by kernel_rfl : Try.prog.info? 40 = some ((Try.prog.info? 40).get (by kernel_rfl))), by kernel_rfl, (by kernel_rfl : _ = some (((Try.prog.info? 40).get (by kernel_rfl)).zero.get (by kernel_rfl))), by kernel_rfl⟩, rfl, ⟨Try.underlying40, _, _, (by kernel_rfl : Try.prog.info? 69 = some ((Try.prog.info? 69).get (by kernel_rfl))), by kernel_rfl, by kernel_rfl, (by kernel_rfl : _ = some (((Try.prog.info? 69).get (by kernel_rfl)).zero.get (by kernel_rfl))), by kernel_rfl, by decide⟩⟩
theorem tyF45 : TyF Try.prog 45 ⟨1, .sl 106 4 32, [.sl 106 4]⟩ :=
  ⟨⟨_, _, (by kernel_rfl : Try.prog.info? 45 = some ((Try.prog.info? 45).get (by kernel_rfl))), by kernel_rfl, (by kernel_rfl : _ = some (((Try.prog.info? 45).get (by kernel_rfl)).zero.get (by kernel_rfl))), by kernel_rfl⟩, rfl, ⟨Try.underlying45, _, _, (by kernel_rfl : Try.prog.info? 106 = some ((Try.prog.info? 106).get (by kernel_rfl))), by kernel_rfl, by kernel_rfl, (by kernel_rfl : _ = some (((Try.prog.info? 106).get (by kernel_rfl)).zero.get (by kernel_rfl))), by kernel_rfl, by decide⟩⟩
theorem tyF46 : TyF Try.prog 46 ⟨2, .st [(0, 1), (1, 1)], [.lit (.int .i64 0), .sl 106 4]⟩ :=
  ⟨⟨_, _, (by kernel_rfl : Try.prog.info? 46 = some ((Try.prog.info? 46).get (by kernel_rfl))), by kernel_rfl, (by kernel_rfl : _ = some (((Try.prog.info? 46).get (by kernel_rfl)).zero.get (by kernel_rfl))), by kernel_rfl⟩, rfl, ⟨_, Try.underlying46, by kernel_rfl, rfl⟩⟩
theorem tyF47 : TyF Try.prog 47 ⟨2, .st [(0, 1), (1, 1)], [.lit (.int .i64 0), .sl 106 4]⟩ :=
  ⟨⟨_, _, (by kernel_rfl : Try.prog.info? 47 = some ((Try.prog.info? 47).get (by kernel_rfl))), by kernel_rfl, (by kernel_rfl : _ = some (((Try.prog.info? 47).get (by kernel_rfl)).zero.get (by kernel_rfl))), by kernel_rfl⟩, rfl, ⟨_, Try.underlying47, by kernel_rfl, rfl⟩⟩
theorem tyF48 : TyF Try.prog 48 ⟨1, .sl 93 1 24, [.sl 93 1]⟩ :=
  ⟨⟨_, _, (by kernel_rfl : Try.prog.info? 48 = some ((Try.prog.info? 48).get (by kernel_rfl))), by kernel_rfl, (by kernel_rfl : _ = some (((Try.prog.info? 48).get (by kernel_rfl)).zero.get (by kernel_rfl))), by kernel_rfl⟩, rfl, ⟨Try.underlying48, _, _, (by kernel_rfl : Try.prog.info? 93 = some ((Try.prog.info? 93).get (by kernel_rfl))), by kernel_rfl, by kernel_rfl, (by kernel_rfl : _ = some (((Try.prog.info? 93).get (by kernel_rfl)).zero.get (by kernel_rfl))), by kernel_rfl, by decide⟩⟩
theorem tyF49 : TyF Try.prog 49 ⟨8, .st [(0, 4), (4, 2), (6, 1), (7, 1)], [.sl 3 1, .sl 3 1, .sl 101 1, .sl 101 1, .lit (.int .i64 0), .sl 106 4, .sl 93 1, .sl 3 1]⟩ :=
  ⟨⟨_, _, (by kernel_rfl : Try.prog.info? 49 = some ((Try.prog.info? 49).get (by kernel_rfl))), by kernel_rfl, (by kernel_rfl : _ = some (((Try.prog.info? 49).get (by kernel_rfl)).zero.get (by kernel_rfl))), by kernel_rfl⟩, rfl, ⟨_, Try.underlying49, by kernel_rfl, rfl⟩⟩
theorem tyF50 : TyF Try.prog 50 ⟨8, .st [(0, 4), (4, 2), (6, 1), (7, 1)], [.sl 3 1, .sl 3 1, .sl 101 1, .sl 101 1, .lit (.int .i64 0), .sl 106 4, .sl 93 1, .sl 3 1]⟩ :=
  ⟨⟨_, _, (by kernel_rfl : Try.prog.info? 50 = some ((Try.prog.info? 50).get (by kernel_rfl))), by kernel_rfl, (by kernel_rfl : _ = some (((Try.prog.info? 50).get (by kernel_rfl)).zero.get (by kernel_rfl))), by kernel_rfl⟩, rfl, ⟨_, Try.underlying50, by kernel_rfl, rfl⟩⟩
theorem tyF53 : TyF Try.prog 53 ⟨1, .sl 95 4 32, [.sl 95 4]⟩ :=
  ⟨⟨_, _, (by kernel_rfl : Try.prog.info? 53 = some ((Try.prog.info? 53).get (by kernel_rfl))), by kernel_rfl, (by kernel_rfl : _ = some (((Try.prog.info? 53).get (by kernel_rfl)).zero.get (by kernel_rfl))), by kernel_rfl⟩, rfl, ⟨Try.underlying53, _, _, (by kernel_rfl : Try.prog.info? 95 = some ((Try.prog.info? 95).get (by kernel_rfl))), by kernel_rfl, by kernel_rfl, (by kernel_rfl : _ = some (((Try.prog.info? 95).get (by kernel_rfl)).zero.get (by kernel_rfl))), by kernel_rfl, by decide⟩⟩
theorem tyF54 : TyF Try.prog 54 ⟨2, .st [(0, 1), (1, 1)], [.lit (.int .i64 0), .sl 95 4]⟩ :=
  ⟨⟨_, _, (by kernel_rfl : Try.prog.info? 54 = some ((Try.prog.info? 54).get (by kernel_rfl))), by kernel_rfl, (by kernel_rfl : _ = some (((Try.prog.info? 54).get (by kernel_rfl)).zero.get (by kernel_rfl))), by kernel_rfl⟩, rfl, ⟨_, Try.underlying54, by kernel_rfl, rfl⟩⟩
theorem tyF55 : TyF Try.prog 55 ⟨2, .st [(0, 1), (1, 1)], [.lit (.int .i64 0), .sl 95 4]⟩ :=
  ⟨⟨_, _, (by kernel_rfl : Try.prog.info? 55 = some ((Try.prog.info? 55).get (by kernel_rfl))), by kernel_rfl, (by kernel_rfl : _ = some (((Try.prog.info? 55).get (by kernel_rfl)).zero.get (by kernel_rfl))), by kernel_rfl⟩, rfl, ⟨_, Try.underlying55, by kernel_rfl, rfl⟩⟩
theorem tyF56 : TyF Try.prog 56 ⟨8, .st [(0, 4), (4, 2), (6, 1), (7, 1)], [.sl 3 1, .sl 3 1, .sl 84 1, .sl 84 1, .lit (.int .i64 0), .sl 95 4, .sl 69 1, .sl 3 1]⟩ :=
  ⟨⟨_, _, (by kernel_rfl : Try.prog.info? 56 = some ((Try.prog.info? 56).get (by kernel_rfl))), by kernel_rfl, (by kernel_rfl : _ = some (((Try.prog.info? 56).get (by kernel_rfl)).zero.get (by kernel_rfl))), by kernel_rfl⟩, rfl, ⟨_, Try.underlying56, by kernel_rfl, rfl⟩⟩
theorem tyF57 : TyF Try.prog 57 ⟨8, .st [(0, 4), (4, 2), (6, 1), (7, 1)], [.sl 3 1, .sl 3 1, .sl 84 1, .sl 84 1, .lit (.int .i64 0), .sl 95 4, .sl 69 1, .sl 3 1]⟩ :=
  ⟨⟨_, _, (by kernel_rfl : Try.prog.info? 57 = some ((Try.prog.info? 57).get (by kernel_rfl))), by kernel_rfl, (by kernel_rfl : _ = some (((Try.prog.info? 57).get (by kernel_rfl)).zero.get (by kernel_rfl))), by kernel_rfl⟩, rfl, ⟨_, Try.underlying57, by kernel_rfl, rfl⟩⟩
theorem tyF67 : TyF Try.prog 67 ⟨1, .sl 88 2 16, [.sl 88 2]⟩ :=
  ⟨⟨_, _, (by kernel_rfl : Try.prog.info? 67 = some ((Try.prog.info? 67).get (by kernel_rfl))), by kernel_rfl, (by kernel_rfl : _ = some (((Try.prog.info? 67).get (by kernel_rfl)).zero.get (by kernel_rfl))), by kernel_rfl⟩, rfl, ⟨Try.underlying67, _, _, (by kernel_rfl : Try.prog.info? 88 = some ((Try.prog.info? 88).get (by kernel_rfl))), by kernel_rfl, by kernel_rfl, (by kernel_rfl : _ = some (((Try.prog.info? 88).get (by kernel_rfl)).zero.get (by kernel_rfl))), by kernel_rfl, by decide⟩⟩
theorem tyF68 : TyF Try.prog 68 ⟨1, .st [(0, 1)], [.sl 88 2]⟩ :=
  ⟨⟨_, _, (by kernel_rfl : Try.prog.info? 68 = some ((Try.prog.info? 68).get (by kernel_rfl))), by kernel_rfl, (by kernel_rfl : _ = some (((Try.prog.info? 68).get (by kernel_rfl)).zero.get (by kernel_rfl))), by kernel_rfl⟩, rfl, ⟨_, Try.underlying68, by kernel_rfl, rfl⟩⟩
theorem tyF69 : TyF Try.prog 69 ⟨1, .st [(0, 1)], [.sl 88 2]⟩ :=
  ⟨⟨_, _, (by kernel_rfl : Try.prog.info? 69 = some ((Try.prog.info? 69).get (by kernel_rfl))), by kernel_rfl, (by kernel_rfl : _ = some (((Try.prog.info? 69).get (by kernel_rfl)).zero.get (by kernel_rfl))), by kernel_rfl⟩, rfl, ⟨_, Try.underlying69, by kernel_rfl, rfl⟩⟩
theorem tyF83 : TyF Try.prog 83 ⟨1, .st [(0, 1)], [.sl 3 1]⟩ :=
  ⟨⟨_, _, (by kernel_rfl : Try.prog.info? 83 = some ((Try.prog.info? 83).get (by kernel_rfl))), by kernel_rfl, (by kernel_rfl : _ = some (((Try.prog.info? 83).get (by kernel_rfl)).zero.get (by kernel_rfl))), by kernel_rfl⟩, rfl, ⟨_, Try.underlying83, by kernel_rfl, rfl⟩⟩
theorem tyF84 : TyF Try.prog 84 ⟨1, .st [(0, 1)], [.sl 3 1]⟩ :=
  ⟨⟨_, _, (by kernel_rfl : Try.prog.info? 84 = some ((Try.prog.info? 84).get (by kernel_rfl))), by kernel_rfl, (by kernel_rfl : _ = some (((Try.prog.info? 84).get (by kernel_rfl)).zero.get (by kernel_rfl))), by kernel_rfl⟩, rfl, ⟨_, Try.underlying84, by kernel_rfl, rfl⟩⟩
theorem tyF87 : TyF Try.prog 87 ⟨2, .st [(0, 1), (1, 1)], [.lit (.int .i64 0), .lit (.int .i64 0)]⟩ :=
  ⟨⟨_, _, (by kernel_rfl : Try.prog.info? 87 = some ((Try.prog.info? 87).get (by kernel_rfl))), by kernel_rfl, (by kernel_rfl : _ = some (((Try.prog.info? 87).get (by kernel_rfl)).zero.get (by kernel_rfl))), by kernel_rfl⟩, rfl, ⟨_, Try.underlying87, by kernel_rfl, rfl⟩⟩
theorem tyF88 : TyF Try.prog 88 ⟨2, .st [(0, 1), (1, 1)], [.lit (.int .i64 0), .lit (.int .i64 0)]⟩ :=
  ⟨⟨_, _, (by kernel_rfl : Try.prog.info? 88 = some ((Try.prog.info? 88).get (by kernel_rfl))), by kernel_rfl, (by kernel_rfl : _ = some (((Try.prog.info? 88).get (by kernel_rfl)).zero.get (by kernel_rfl))), by kernel_rfl⟩, rfl, ⟨_, Try.underlying88, by kernel_rfl, rfl⟩⟩
theorem tyF91 : TyF Try.prog 91 ⟨1, .sl 110 2 16, [.sl 110 2]⟩ :=
  ⟨⟨_, _, (by kernel_rfl : Try.prog.info? 91 = some ((Try.prog.info? 91).get (by kernel_rfl))), by kernel_rfl, (by kernel_rfl : _ = some (((Try.prog.info? 91).get (by kernel_rfl)).zero.get (by kernel_rfl))), by kernel_rfl⟩, rfl, ⟨Try.underlying91, _, _, (by kernel_rfl : Try.prog.info? 110 = some ((Try.prog.info? 110).get (by kernel_rfl))), by kernel_rfl, by kernel_rfl, (by kernel_rfl : _ = some (((Try.prog.info? 110).get (by kernel_rfl)).zero.get (by kernel_rfl))), by kernel_rfl, by decide⟩⟩
theorem tyF92 : TyF Try.prog 92 ⟨1, .st [(0, 1)], [.sl 110 2]⟩ :=
  ⟨⟨_, _, (by kernel_rfl : Try.prog.info? 92 = some ((Try.prog.info? 92).get (by kernel_rfl))), by kernel_rfl, (by kernel_rfl : _ = some (((Try.prog.info? 92).get (by kernel_rfl)).zero.get (by kernel_rfl))), by kernel_rfl⟩, rfl, ⟨_, Try.underlying92, by kernel_rfl, rfl⟩⟩
theorem tyF93 : TyF Try.prog 93 ⟨1, .st [(0, 1)], [.sl 110 2]⟩ :=
  ⟨⟨_, _, (by kernel_rfl : Try.prog.info? 93 = some ((Try.prog.info? 93).get (by kernel_rfl))), by kernel_rfl, (by kernel_rfl : _ = some (((Try.prog.info? 93).get (by kernel_rfl)).zero.get (by kernel_rfl))), by kernel_rfl⟩, rfl, ⟨_, Try.underlying93, by kernel_rfl, rfl⟩⟩
theorem tyF94 : TyF Try.prog 94 ⟨4, .st [(0, 1), (1, 1), (2, 1), (3, 1)], [.lit (.bool false), .lit (.int .i64 0), .lit (.bool false), .lit (.int .i64 0)]⟩ :=
  ⟨⟨_, _, (by kernel_rfl : Try.prog.info? 94 = some ((Try.prog.info? 94).get (by kernel_rfl))), by kernel_rfl, (by kernel_rfl : _ = some (((Try.prog.info? 94).get (by kernel_rfl)).zero.get (by kernel_rfl))), by kernel_rfl⟩, rfl, ⟨_, Try.underlying94, by kernel_rfl, rfl⟩⟩
theorem tyF95 : TyF Try.prog 95 ⟨4, .st [(0, 1), (1, 1), (2, 1), (3, 1)], [.lit (.bool false), .lit (.int .i64 0), .lit (.bool false), .lit (.int .i64 0)]⟩ :=
  ⟨⟨_, _, (by kernel_rfl : Try.prog.info? 95 = some ((Try.prog.info? 95).get (by kernel_rfl))), by kernel_rfl, (by kernel_rfl : _ = some (((Try.prog.info? 95).get (by kernel_rfl)).zero.get (by kernel_rfl))), by kernel_rfl⟩, rfl, ⟨_, Try.underlying95, by kernel_rfl, rfl⟩⟩
theorem tyF101 : TyF Try.prog 101 ⟨1, .st [(0, 1)], [.sl 3 1]⟩ :=
  ⟨⟨_, _, (by kernel_rfl : Try.prog.info? 101 = some ((Try.prog.info? 101).get (by kernel_rfl))), by kernel_rfl, (by kernel_rfl : _ = some (((Try.prog.info? 101).get (by kernel_rfl)).zero.get (by kernel_rfl))), by kernel_rfl⟩, rfl, ⟨_, Try.underlying101, by kernel_rfl, rfl⟩⟩
theorem tyF106 : TyF Try.prog 106 ⟨4, .st [(0, 1), (1, 1), (2, 1), (3, 1)], [.lit (.bool false), .lit (.int .i64 0), .lit (.bool false), .lit (.int .i64 0)]⟩ :=
  ⟨⟨_, _, (by kernel_rfl : Try.prog.info? 106 = some ((Try.prog.info? 106).get (by kernel_rfl))), by kernel_rfl, (by kernel_rfl : _ = some (((Try.prog.info? 106).get (by kernel_rfl)).zero.get (by kernel_rfl))), by kernel_rfl⟩, rfl, ⟨_, Try.underlying106, by kernel_rfl, rfl⟩⟩
theorem tyF110 : TyF Try.prog 110 ⟨2, .st [(0, 1), (1, 1)], [.lit (.int .i64 0), .lit (.int .i64 0)]⟩ :=
  ⟨⟨_, _, (by kernel_rfl : Try.prog.info? 110 = some ((Try.prog.info? 110).get (by kernel_rfl))), by kernel_rfl, (by kernel_rfl : _ = some (((Try.prog.info? 110).get (by kernel_rfl)).zero.get (by kernel_rfl))), by kernel_rfl⟩, rfl, ⟨_, Try.underlying110, by kernel_rfl, rfl⟩⟩
theorem tyF118 : TyF Try.prog 118 ⟨1, .sc, [.lit (.int .u32 0)]⟩ :=
  ⟨⟨_, _, (by kernel_rfl : Try.prog.info? 118 = some ((Try.prog.info? 118).get (by kernel_rfl))), by kernel_rfl, (by kernel_rfl : _ = some (((Try.prog.info? 118).get (by kernel_rfl)).zero.get (by kernel_rfl))), by kernel_rfl⟩, rfl, ⟨_, Try.underlying118, rfl⟩⟩
theorem tyF119 : TyF Try.prog 119 ⟨1, .sc, [.lit (.int .u8 0)]⟩ :=
  ⟨⟨_, _, (by kernel_rfl : Try.prog.info? 119 = some ((Try.prog.info? 119).get (by kernel_rfl))), by kernel_rfl, (by kernel_rfl : _ = some (((Try.prog.info? 119).get (by kernel_rfl)).zero.get (by kernel_rfl))), by kernel_rfl⟩, rfl, ⟨_, Try.underlying119, rfl⟩⟩
theorem tyF120 : TyF Try.prog 120 ⟨1, .sc, [.lit (.int .u8 0)]⟩ :=
  ⟨⟨_, _, (by kernel_rfl : Try.prog.info? 120 = some ((Try.prog.info? 120).get (by kernel_rfl))), by kernel_rfl, (by kernel_rfl : _ = some (((Try.prog.info? 120).get (by kernel_rfl)).zero.get (by kernel_rfl))), by kernel_rfl⟩, rfl, ⟨_, Try.underlying120, rfl⟩⟩
theorem tyF123 : TyF Try.prog 123 ⟨1, .sc, [.lit (.int .i32 0)]⟩ :=
  ⟨⟨_, _, (by kernel_rfl : Try.prog.info? 123 = some ((Try.prog.info? 123).get (by kernel_rfl))), by kernel_rfl, (by kernel_rfl : _ = some (((Try.prog.info? 123).get (by kernel_rfl)).zero.get (by kernel_rfl))), by kernel_rfl⟩, rfl, ⟨_, Try.underlying123, rfl⟩⟩
theorem tyF124 : TyF Try.prog 124 ⟨1, .sc, [.lit (.int .i32 0)]⟩ :=
  ⟨⟨_, _, (by kernel_rfl : Try.prog.info? 124 = some ((Try.prog.info? 124).get (by kernel_rfl))), by kernel_rfl, (by kernel_rfl : _ = some (((Try.prog.info? 124).get (by kernel_rfl)).zero.get (by kernel_rfl))), by kernel_rfl⟩, rfl, ⟨_, Try.underlying124, rfl⟩⟩
theorem tyOk : TOk Try.prog tyT := by
  intro t i h
  unfold tyT at h
  split at h
  · injection h with h; subst h; exact tyF2
  · injection h with h; subst h; exact tyF3
  · injection h with h; subst h; exact tyF4
  · injection h with h; subst h; exact tyF5
  · injection h with h; subst h; exact tyF6
  · injection h with h; subst h; exact tyF7
  · injection h with h; subst h; exact tyF8
  · injection h with h; subst h; exact tyF12
  · injection h with h; subst h; exact tyF21
  · injection h with h; subst h; exact tyF22
  · injection h with h; subst h; exact tyF23
  · injection h with h; subst h; exact tyF24
  · injection h with h; subst h; exact tyF25
  · injection h with h; subst h; exact tyF26
  · injection h with h; subst h; exact tyF27
  · injection h with h; subst h; exact tyF28
  · injection h with h; subst h; exact tyF29
  · injection h with h; subst h; exact tyF32
  · injection h with h; subst h; exact tyF33
  · injection h with h; subst h; exact tyF34
  · injection h with h; subst h; exact tyF35
  · injection h with h; subst h; exact tyF36
  · injection h with h; subst h; exact tyF37
  · injection h with h; subst h; exact tyF40
  · injection h with h; subst h; exact tyF45
  · injection h with h; subst h; exact tyF46
  · injection h with h; subst h; exact tyF47
  · injection h with h; subst h; exact tyF48
  · injection h with h; subst h; exact tyF49
  · injection h with h; subst h; exact tyF50
  · injection h with h; subst h; exact tyF53
  · injection h with h; subst h; exact tyF54
  · injection h with h; subst h; exact tyF55
  · injection h with h; subst h; exact tyF56
  · injection h with h; subst h; exact tyF57
  · injection h with h; subst h; exact tyF67
  · injection h with h; subst h; exact tyF68
  · injection h with h; subst h; exact tyF69
  · injection h with h; subst h; exact tyF83
  · injection h with h; subst h; exact tyF84
  · injection h with h; subst h; exact tyF87
  · injection h with h; subst h; exact tyF88
  · injection h with h; subst h; exact tyF91
  · injection h with h; subst h; exact tyF92
  · injection h with h; subst h; exact tyF93
  · injection h with h; subst h; exact tyF94
  · injection h with h; subst h; exact tyF95
  · injection h with h; subst h; exact tyF101
  · injection h with h; subst h; exact tyF106
  · injection h with h; subst h; exact tyF110
  · injection h with h; subst h; exact tyF118
  · injection h with h; subst h; exact tyF119
  · injection h with h; subst h; exact tyF120
  · injection h with h; subst h; exact tyF123
  · injection h with h; subst h; exact tyF124
  · cases h
end Go.Proofs.Ytofdaaajbkjocaa

