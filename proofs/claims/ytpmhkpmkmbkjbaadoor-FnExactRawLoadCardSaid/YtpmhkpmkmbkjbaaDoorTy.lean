/- The types of the program that the proofs speak of. -/
import Derived.Test.YtpmhkpmkmbkjbaaDoorProg
import Derived.Test.YtpmhkpmkmbkjbaaDoorTrc
import Derived.KernelRfl
namespace Go.Proofs.YtpmhkpmkmbkjbaaDoor
open Go Go.Tr
set_option linter.unusedVariables false
set_option linter.unusedSimpArgs false
set_option maxRecDepth 100000
def tyT : Nat → Option TyI
  | 2 => some ⟨1, .sc, [.lit (.int .i64 0)]⟩
  | 3 => some ⟨1, .sc, [.lit (.int .i64 0)]⟩
  | 4 => some ⟨1, .sc, [.lit (.bool false)]⟩
  | 5 => some ⟨1, .sc, [.lit (.int .u8 0)]⟩
  | 6 => some ⟨1, .sc, [.lit (.int .u8 0)]⟩
  | 7 => some ⟨4, .st [(0, 1), (1, 1), (2, 1), (3, 1)], [.lit (.int .i64 0), .lit (.int .i64 0), .lit (.bool false), .lit (.int .u8 0)]⟩
  | 8 => some ⟨4, .st [(0, 1), (1, 1), (2, 1), (3, 1)], [.lit (.int .i64 0), .lit (.int .i64 0), .lit (.bool false), .lit (.int .u8 0)]⟩
  | 12 => some ⟨1, .sc, [.lit (.int .u64 0)]⟩
  | 21 => some ⟨1, .sc, [.lit (.int .i32 0)]⟩
  | 22 => some ⟨1, .sl 3 1 8, [.sl 3 1]⟩
  | 23 => some ⟨2, .st [(0, 1), (1, 1)], [.sl 3 1, .sl 3 1]⟩
  | 24 => some ⟨2, .st [(0, 1), (1, 1)], [.sl 3 1, .sl 3 1]⟩
  | 26 => some ⟨2, .st [(0, 1), (1, 1)], [.sl 3 1, .sl 3 1]⟩
  | 38 => some ⟨1, .sl 128 1 24, [.sl 128 1]⟩
  | 39 => some ⟨2, .st [(0, 1), (1, 1)], [.sl 128 1, .sl 128 1]⟩
  | 40 => some ⟨2, .st [(0, 1), (1, 1)], [.sl 128 1, .sl 128 1]⟩
  | 41 => some ⟨4, .st [(0, 2), (2, 2)], [.sl 3 1, .sl 3 1, .sl 128 1, .sl 128 1]⟩
  | 42 => some ⟨4, .st [(0, 2), (2, 2)], [.sl 3 1, .sl 3 1, .sl 128 1, .sl 128 1]⟩
  | 44 => some ⟨3, .st [(0, 1), (1, 1), (2, 1)], [.lit (.int .i64 0), .lit (.int .i64 0), .lit (.int .i64 0)]⟩
  | 45 => some ⟨3, .st [(0, 1), (1, 1), (2, 1)], [.lit (.int .i64 0), .lit (.int .i64 0), .lit (.int .i64 0)]⟩
  | 48 => some ⟨1, .sl 108 1 24, [.sl 108 1]⟩
  | 49 => some ⟨2, .st [(0, 1), (1, 1)], [.sl 108 1, .sl 108 1]⟩
  | 50 => some ⟨2, .st [(0, 1), (1, 1)], [.sl 108 1, .sl 108 1]⟩
  | 51 => some ⟨4, .st [(0, 2), (2, 2)], [.sl 3 1, .sl 3 1, .sl 108 1, .sl 108 1]⟩
  | 52 => some ⟨4, .st [(0, 2), (2, 2)], [.sl 3 1, .sl 3 1, .sl 108 1, .sl 108 1]⟩
  | 57 => some ⟨1, .sl 137 4 32, [.sl 137 4]⟩
  | 58 => some ⟨2, .st [(0, 1), (1, 1)], [.lit (.int .i64 0), .sl 137 4]⟩
  | 59 => some ⟨2, .st [(0, 1), (1, 1)], [.lit (.int .i64 0), .sl 137 4]⟩
  | 60 => some ⟨1, .sl 116 1 24, [.sl 116 1]⟩
  | 61 => some ⟨8, .st [(0, 4), (4, 2), (6, 1), (7, 1)], [.sl 3 1, .sl 3 1, .sl 128 1, .sl 128 1, .lit (.int .i64 0), .sl 137 4, .sl 116 1, .sl 3 1]⟩
  | 62 => some ⟨8, .st [(0, 4), (4, 2), (6, 1), (7, 1)], [.sl 3 1, .sl 3 1, .sl 128 1, .sl 128 1, .lit (.int .i64 0), .sl 137 4, .sl 116 1, .sl 3 1]⟩
  | 66 => some ⟨1, .sl 135 4 32, [.sl 135 4]⟩
  | 67 => some ⟨2, .st [(0, 1), (1, 1)], [.lit (.int .i64 0), .sl 135 4]⟩
  | 68 => some ⟨2, .st [(0, 1), (1, 1)], [.lit (.int .i64 0), .sl 135 4]⟩
  | 69 => some ⟨1, .sl 120 1 24, [.sl 120 1]⟩
  | 70 => some ⟨8, .st [(0, 4), (4, 2), (6, 1), (7, 1)], [.sl 3 1, .sl 3 1, .sl 108 1, .sl 108 1, .lit (.int .i64 0), .sl 135 4, .sl 120 1, .sl 3 1]⟩
  | 71 => some ⟨8, .st [(0, 4), (4, 2), (6, 1), (7, 1)], [.sl 3 1, .sl 3 1, .sl 108 1, .sl 108 1, .lit (.int .i64 0), .sl 135 4, .sl 120 1, .sl 3 1]⟩
  | 83 => some ⟨8, .arr 8 3 1, [.lit (.int .i64 0), .lit (.int .i64 0), .lit (.int .i64 0), .lit (.int .i64 0), .lit (.int .i64 0), .lit (.int .i64 0), .lit (.int .i64 0), .lit (.int .i64 0)]⟩
  | 107 => some ⟨1, .st [(0, 1)], [.sl 3 1]⟩
  | 108 => some ⟨1, .st [(0, 1)], [.sl 3 1]⟩
  | 114 => some ⟨1, .sl 146 2 16, [.sl 146 2]⟩
  | 115 => some ⟨1, .st [(0, 1)], [.sl 146 2]⟩
  | 116 => some ⟨1, .st [(0, 1)], [.sl 146 2]⟩
  | 118 => some ⟨1, .sl 144 2 16, [.sl 144 2]⟩
  | 119 => some ⟨1, .st [(0, 1)], [.sl 144 2]⟩
  | 120 => some ⟨1, .st [(0, 1)], [.sl 144 2]⟩
  | 122 => some ⟨3, .arr 3 3 1, [.lit (.int .i64 0), .lit (.int .i64 0), .lit (.int .i64 0)]⟩
  | 123 => some ⟨1, .sc, [.lit (.int .u64 0)]⟩
  | 126 => some ⟨1, .sl 5 1 1, [.sl 5 1]⟩
  | 128 => some ⟨1, .st [(0, 1)], [.sl 3 1]⟩
  | 134 => some ⟨4, .st [(0, 1), (1, 1), (2, 1), (3, 1)], [.lit (.bool false), .lit (.int .i64 0), .lit (.bool false), .lit (.int .i64 0)]⟩
  | 135 => some ⟨4, .st [(0, 1), (1, 1), (2, 1), (3, 1)], [.lit (.bool false), .lit (.int .i64 0), .lit (.bool false), .lit (.int .i64 0)]⟩
  | 137 => some ⟨4, .st [(0, 1), (1, 1), (2, 1), (3, 1)], [.lit (.bool false), .lit (.int .i64 0), .lit (.bool false), .lit (.int .i64 0)]⟩
  | 141 => some ⟨24, .arr 24 4 1, [.lit (.bool false), .lit (.bool false), .lit (.bool false), .lit (.bool false), .lit (.bool false), .lit (.bool false), .lit (.bool false), .lit (.bool false), .lit (.bool false), .lit (.bool false), .lit (.bool false), .lit (.bool false), .lit (.bool false), .lit (.bool false), .lit (.bool false), .lit (.bool false), .lit (.bool false), .lit (.bool false), .lit (.bool false), .lit (.bool false), .lit (.bool false), .lit (.bool false), .lit (.bool false), .lit (.bool false)]⟩
  | 143 => some ⟨2, .st [(0, 1), (1, 1)], [.lit (.int .i64 0), .lit (.int .i64 0)]⟩
  | 144 => some ⟨2, .st [(0, 1), (1, 1)], [.lit (.int .i64 0), .lit (.int .i64 0)]⟩
  | 146 => some ⟨2, .st [(0, 1), (1, 1)], [.lit (.int .i64 0), .lit (.int .i64 0)]⟩
  | 148 => some ⟨1, .sl 48 1 24, [.sl 48 1]⟩
  | 157 => some ⟨1, .sc, [.lit (.int .u32 0)]⟩
  | 158 => some ⟨1, .sc, [.lit (.int .u8 0)]⟩
  | 159 => some ⟨1, .sc, [.lit (.int .u8 0)]⟩
  | 162 => some ⟨1, .sc, [.lit (.int .i32 0)]⟩
  | 163 => some ⟨1, .sc, [.lit (.int .i32 0)]⟩
  | _ => none
theorem tyF2 : TyF Tryd.prog 2 ⟨1, .sc, [.lit (.int .i64 0)]⟩ :=
  ⟨⟨_, _, (by kernel_rfl : Tryd.prog.info? 2 = some ((Tryd.prog.info? 2).get (by kernel_rfl))), by kernel_rfl, (by kernel_rfl : _ = some (((Tryd.prog.info? 2).get (by kernel_rfl)).zero.get (by kernel_rfl))), by kernel_rfl⟩, rfl, ⟨_, Tryd.underlying2, rfl⟩⟩
theorem tyF3 : TyF Tryd.prog 3 ⟨1, .sc, [.lit (.int .i64 0)]⟩ :=
  ⟨⟨_, _, (by kernel_rfl : Tryd.prog.info? 3 = some ((Tryd.prog.info? 3).get (by kernel_rfl))), by kernel_rfl, (by kernel_rfl : _ = some (((Tryd.prog.info? 3).get (by kernel_rfl)).zero.get (by kernel_rfl))), by kernel_rfl⟩, rfl, ⟨_, Tryd.underlying3, rfl⟩⟩
theorem tyF4 : TyF Tryd.prog 4 ⟨1, .sc, [.lit (.bool false)]⟩ :=
  ⟨⟨_, _, (by kernel_rfl : Tryd.prog.info? 4 = some ((Tryd.prog.info? 4).get (by kernel_rfl))), by kernel_rfl, (by kernel_rfl : _ = some (((Tryd.prog.info? 4).get (by kernel_rfl)).zero.get (by kernel_rfl))), by kernel_rfl⟩, rfl, ⟨_, Tryd.underlying4, rfl⟩⟩
theorem tyF5 : TyF Tryd.prog 5 ⟨1, .sc, [.lit (.int .u8 0)]⟩ :=
  ⟨⟨_, _, (by kernel_rfl : Tryd.prog.info? 5 = some ((Tryd.prog.info? 5).get (by kernel_rfl))), by kernel_rfl, (by kernel_rfl : _ = some (((Tryd.prog.info? 5).get (by kernel_rfl)).zero.get (by kernel_rfl))), by kernel_rfl⟩, rfl, ⟨_, Tryd.underlying5, rfl⟩⟩
theorem tyF6 : TyF Tryd.prog 6 ⟨1, .sc, [.lit (.int .u8 0)]⟩ :=
  ⟨⟨_, _, (by kernel_rfl : Tryd.prog.info? 6 = some ((Tryd.prog.info? 6).get (by kernel_rfl))), by kernel_rfl, (by kernel_rfl : _ = some (((Tryd.prog.info? 6).get (by kernel_rfl)).zero.get (by kernel_rfl))), by kernel_rfl⟩, rfl, ⟨_, Tryd.underlying6, rfl⟩⟩
theorem tyF7 : TyF Tryd.prog 7 ⟨4, .st [(0, 1), (1, 1), (2, 1), (3, 1)], [.lit (.int .i64 0), .lit (.int .i64 0), .lit (.bool false), .lit (.int .u8 0)]⟩ :=
  ⟨⟨_, _, (by kernel_rfl : Tryd.prog.info? 7 = some ((Tryd.prog.info? 7).get (by kernel_rfl))), by kernel_rfl, (by kernel_rfl : _ = some (((Tryd.prog.info? 7).get (by kernel_rfl)).zero.get (by kernel_rfl))), by kernel_rfl⟩, rfl, ⟨_, Tryd.underlying7, by kernel_rfl, rfl⟩⟩
theorem tyF8 : TyF Tryd.prog 8 ⟨4, .st [(0, 1), (1, 1), (2, 1), (3, 1)], [.lit (.int .i64 0), .lit (.int .i64 0), .lit (.bool false), .lit (.int .u8 0)]⟩ :=
  ⟨⟨_, _, (by kernel_rfl : Tryd.prog.info? 8 = some ((Tryd.prog.info? 8).get (by kernel_rfl))), by kernel_rfl, (by kernel_rfl : _ = some (((Tryd.prog.info? 8).get (by kernel_rfl)).zero.get (by kernel_rfl))), by kernel_rfl⟩, rfl, ⟨_, Tryd.underlying8, by kernel_rfl, rfl⟩⟩
theorem tyF12 : TyF Tryd.prog 12 ⟨1, .sc, [.lit (.int .u64 0)]⟩ :=
  ⟨⟨_, _, (by kernel_rfl : Tryd.prog.info? 12 = some ((Tryd.prog.info? 12).get (by kernel_rfl))), by kernel_rfl, (by kernel_rfl : _ = some (((Tryd.prog.info? 12).get (by kernel_rfl)).zero.get (by kernel_rfl))), by kernel_rfl⟩, rfl, ⟨_, Tryd.underlying12, rfl⟩⟩
theorem tyF21 : TyF Tryd.prog 21 ⟨1, .sc, [.lit (.int .i32 0)]⟩ :=
  ⟨⟨_, _, (by kernel_rfl : Tryd.prog.info? 21 = some ((Tryd.prog.info? 21).get (by kernel_rfl))), by kernel_rfl, (by kernel_rfl : _ = some (((Tryd.prog.info? 21).get (by kernel_rfl)).zero.get (by kernel_rfl))), by kernel_rfl⟩, rfl, ⟨_, Tryd.underlying21, rfl⟩⟩
theorem tyF22 : TyF Tryd.prog 22 ⟨1, .sl 3 1 8, [.sl 3 1]⟩ :=
  ⟨⟨_, _, (by kernel_rfl : Tryd.prog.info? 22 = some ((Tryd.prog.info? 22).get (by kernel_rfl))), by kernel_rfl, (by kernel_rfl : _ = some (((Tryd.prog.info? 22).get (by kernel_rfl)).zero.get (by kernel_rfl))), by kernel_rfl⟩, rfl, ⟨Tryd.underlying22, _, _, (by kernel_rfl : Tryd.prog.info? 3 = some ((Tryd.prog.info? 3).get (by kernel_rfl))), by kernel_rfl, by kernel_rfl, (by kernel_rfl : _ = some (((Tryd.prog.info? 3).get (by kernel_rfl)).zero.get (by kernel_rfl))), by kernel_rfl, by decide⟩⟩
theorem tyF23 : TyF Tryd.prog 23 ⟨2, .st [(0, 1), (1, 1)], [.sl 3 1, .sl 3 1]⟩ :=
  ⟨⟨_, _, (by kernel_rfl : Tryd.prog.info? 23 = some ((Tryd.prog.info? 23).get (by kernel_rfl))), by kernel_rfl, (by kernel_rfl : _ = some (((Tryd.prog.info? 23).get (by kernel_rfl)).zero.get (by kernel_rfl))), by kernel_rfl⟩, rfl, ⟨_, Tryd.underlying23, by kernel_rfl, rfl⟩⟩
theorem tyF24 : TyF Tryd.prog 24 ⟨2, .st [(0, 1), (1, 1)], [.sl 3 1, .sl 3 1]⟩ :=
  ⟨⟨_, _, (by kernel_rfl : Tryd.prog.info? 24 = some ((Tryd.prog.info? 24).get (by kernel_rfl))), by kernel_rfl, (by kernel_rfl : _ = some (((Tryd.prog.info? 24).get (by kernel_rfl)).zero.get (by kernel_rfl))), by kernel_rfl⟩, rfl, ⟨_, Tryd.underlying24, by kernel_rfl, rfl⟩⟩
theorem tyF26 : TyF Tryd.prog 26 ⟨2, .st [(0, 1), (1, 1)], [.sl 3 1, .sl 3 1]⟩ :=
  ⟨⟨_, _, (by kernel_rfl : Tryd.prog.info? 26 = some ((Tryd.prog.info? 26).get (by kernel_rfl))), by kernel_rfl, (by kernel_rfl : _ = some (((Tryd.prog.info? 26).get (by kernel_rfl)).zero.get (by kernel_rfl))), by kernel_rfl⟩, rfl, ⟨_, Tryd.underlying26, by kernel_rfl, rfl⟩⟩
theorem tyF38 : TyF Tryd.prog 38 ⟨1, .sl 128 1 24, [.sl 128 1]⟩ :=
  ⟨⟨_, _, (by kernel_rfl : Tryd.prog.info? 38 = some ((Tryd.prog.info? 38).get (by kernel_rfl))), by kernel_rfl, (by kernel_rfl : _ = some (((Tryd.prog.info? 38).get (by kernel_rfl)).zero.get (by kernel_rfl))), by kernel_rfl⟩, rfl, ⟨Tryd.underlying38, _, _, (by kernel_rfl : Tryd.prog.info? 128 = some ((Tryd.prog.info? 128).get (by kernel_rfl))), by kernel_rfl, by kernel_rfl, (by kernel_rfl : _ = some (((Tryd.prog.info? 128).get (by kernel_rfl)).zero.get (by kernel_rfl))), by kernel_rfl, by decide⟩⟩
theorem tyF39 : TyF Tryd.prog 39 ⟨2, .st [(0, 1), (1, 1)], [.sl 128 1, .sl 128 1]⟩ :=
  ⟨⟨_, _, (by kernel_rfl : Tryd.prog.info? 39 = some ((Tryd.prog.info? 39).get (by kernel_rfl))), by kernel_rfl, (by kernel_rfl : _ = some (((Tryd.prog.info? 39).get (by kernel_rfl)).zero.get (by kernel_rfl))), by kernel_rfl⟩, rfl, ⟨_, Tryd.underlying39, by kernel_rfl, rfl⟩⟩
theorem tyF40 : TyF Tryd.prog 40 ⟨2, .st [(0, 1), (1, 1)], [.sl 128 1, .sl 128 1]⟩ :=
  ⟨⟨_, _, (by kernel_rfl : Tryd.prog.info? 40 = some ((Tryd.prog.info? 40).get (by kernel_rfl))), by kernel_rfl, (by kernel_rfl : _ = some (((Tryd.prog.info? 40).get (by kernel_rfl)).zero.get (by kernel_rfl))), by kernel_rfl⟩, rfl, ⟨_, Tryd.underlying40, by kernel_rfl, rfl⟩⟩
theorem tyF41 : TyF Tryd.prog 41 ⟨4, .st [(0, 2), (2, 2)], [.sl 3 1, .sl 3 1, .sl 128 1, .sl 128 1]⟩ :=
  ⟨⟨_, _, (by kernel_rfl : Tryd.prog.info? 41 = some ((Tryd.prog.info? 41).get (by kernel_rfl))), by kernel_rfl, (by kernel_rfl : _ = some (((Tryd.prog.info? 41).get (by kernel_rfl)).zero.get (by kernel_rfl))), by kernel_rfl⟩, rfl, ⟨_, Tryd.underlying41, by kernel_rfl, rfl⟩⟩
theorem tyF42 : TyF Tryd.prog 42 ⟨4, .st [(0, 2), (2, 2)], [.sl 3 1, .sl 3 1, .sl 128 1, .sl 128 1]⟩ :=
  ⟨⟨_, _, (by kernel_rfl : Tryd.prog.info? 42 = some ((Tryd.prog.info? 42).get (by kernel_rfl))), by kernel_rfl, (by kernel_rfl : _ = some (((Tryd.prog.info? 42).get (by kernel_rfl)).zero.get (by kernel_rfl))), by kernel_rfl⟩, rfl, ⟨_, Tryd.underlying42, by kernel_rfl, rfl⟩⟩
theorem tyF44 : TyF Tryd.prog 44 ⟨3, .st [(0, 1), (1, 1), (2, 1)], [.lit (.int .i64 0), .lit (.int .i64 0), .lit (.int .i64 0)]⟩ :=
  ⟨⟨_, _, (by kernel_rfl : Tryd.prog.info? 44 = some ((Tryd.prog.info? 44).get (by kernel_rfl))), by kernel_rfl, (by kernel_rfl : _ = some (((Tryd.prog.info? 44).get (by kernel_rfl)).zero.get (by kernel_rfl))), by kernel_rfl⟩, rfl, ⟨_, Tryd.underlying44, by kernel_rfl, rfl⟩⟩
theorem tyF45 : TyF Tryd.prog 45 ⟨3, .st [(0, 1), (1, 1), (2, 1)], [.lit (.int .i64 0), .lit (.int .i64 0), .lit (.int .i64 0)]⟩ :=
  ⟨⟨_, _, (by kernel_rfl : Tryd.prog.info? 45 = some ((Tryd.prog.info? 45).get (by kernel_rfl))), by kernel_rfl, (by kernel_rfl : _ = some (((Tryd.prog.info? 45).get (by kernel_rfl)).zero.get (by kernel_rfl))), by kernel_rfl⟩, rfl, ⟨_, Tryd.underlying45, by kernel_rfl, rfl⟩⟩
theorem tyF48 : TyF Tryd.prog 48 ⟨1, .sl 108 1 24, [.sl 108 1]⟩ :=
  ⟨⟨_, _, (by kernel_rfl : Tryd.prog.info? 48 = some ((Tryd.prog.info? 48).get (by kernel_rfl))), by kernel_rfl, (by kernel_rfl : _ = some (((Tryd.prog.info? 48).get (by kernel_rfl)).zero.get (by kernel_rfl))), by kernel_rfl⟩, rfl, ⟨Tryd.underlying48, _, _, (by kernel_rfl : Tryd.prog.info? 108 = some ((Tryd.prog.info? 108).get (by kernel_rfl))), by kernel_rfl, by kernel_rfl, (by kernel_rfl : _ = some (((Tryd.prog.info? 108).get (by kernel_rfl)).zero.get (by kernel_rfl))), by kernel_rfl, by decide⟩⟩
theorem tyF49 : TyF Tryd.prog 49 ⟨2, .st [(0, 1), (1, 1)], [.sl 108 1, .sl 108 1]⟩ :=
  ⟨⟨_, _, (by kernel_rfl : Tryd.prog.info? 49 = some ((Tryd.prog.info? 49).get (by kernel_rfl))), by kernel_rfl, (by kernel_rfl : _ = some (((Tryd.prog.info? 49).get (by kernel_rfl)).zero.get (by kernel_rfl))), by kernel_rfl⟩, rfl, ⟨_, Tryd.underlying49, by kernel_rfl, rfl⟩⟩
theorem tyF50 : TyF Tryd.prog 50 ⟨2, .st [(0, 1), (1, 1)], [.sl 108 1, .sl 108 1]⟩ :=
  ⟨⟨_, _, (by kernel_rfl : Tryd.prog.info? 50 = some ((Tryd.prog.info? 50).get (by kernel_rfl))), by kernel_rfl, (by kernel_rfl : _ = some (((Tryd.prog.info? 50).get (by kernel_rfl)).zero.get (by kernel_rfl))), by kernel_rfl⟩, rfl, ⟨_, Tryd.underlying50, by kernel_rfl, rfl⟩⟩
theorem tyF51 : TyF Tryd.prog 51 ⟨4, .st [(0, 2), (2, 2)], [.sl 3 1, .sl 3 1, .sl 108 1, .sl 108 1]⟩ :=
  ⟨⟨_, _, (by kernel_rfl : Tryd.prog.info? 51 = some ((Tryd.prog.info? 51).get (by kernel_rfl))), by kernel_rfl, (by kernel_rfl : _ = some (((Tryd.prog.info? 51).get (by kernel_rfl)).zero.get (by kernel_rfl))), by kernel_rfl⟩, rfl, ⟨_, Tryd.underlying51, by kernel_rfl, rfl⟩⟩
theorem tyF52 : TyF Tryd.prog 52 ⟨4, .st [(0, 2), (2, 2)], [.sl 3 1, .sl 3 1, .sl 108 1, .sl 108 1]⟩ :=
  ⟨⟨_, _, (by kernel_rfl : Tryd.prog.info? 52 = some ((Tryd.prog.info? 52).get (by kernel_rfl))), by kernel_rfl, (by kernel_rfl : _ = some (((Tryd.prog.info? 52).get (by kernel_rfl)).zero.get (by kernel_rfl))), by kernel_rfl⟩, rfl, ⟨_, Tryd.underlying52, by kernel_rfl, rfl⟩⟩
theorem tyF57 : TyF Tryd.prog 57 ⟨1, .sl 137 4 32, [.sl 137 4]⟩ :=
  ⟨⟨_, _, (by kernel_rfl : Tryd.prog.info? 57 = some ((Tryd.prog.info? 57).get (by kernel_rfl))), by kernel_rfl, (by kernel_rfl : _ = some (((Tryd.prog.info? 57).get (by kernel_rfl)).zero.get (by kernel_rfl))), by kernel_rfl⟩, rfl, ⟨Tryd.underlying57, _, _, (by kernel_rfl : Tryd.prog.info? 137 = some ((Tryd.prog.info? 137).get (by kernel_rfl))), by kernel_rfl, by kernel_rfl, (by kernel_rfl : _ = some (((Tryd.prog.info? 137).get (by kernel_rfl)).zero.get (by kernel_rfl))), by kernel_rfl, by decide⟩⟩
theorem tyF58 : TyF Tryd.prog 58 ⟨2, .st [(0, 1), (1, 1)], [.lit (.int .i64 0), .sl 137 4]⟩ :=
  ⟨⟨_, _, (by kernel_rfl : Tryd.prog.info? 58 = some ((Tryd.prog.info? 58).get (by kernel_rfl))), by kernel_rfl, (by kernel_rfl : _ = some (((Tryd.prog.info? 58).get (by kernel_rfl)).zero.get (by kernel_rfl))), by kernel_rfl⟩, rfl, ⟨_, Tryd.underlying58, by kernel_rfl, rfl⟩⟩
theorem tyF59 : TyF Tryd.prog 59 ⟨2, .st [(0, 1), (1, 1)], [.lit (.int .i64 0), .sl 137 4]⟩ :=
  ⟨⟨_, _, (by kernel_rfl : Tryd.prog.info? 59 = some ((Tryd.prog.info? 59).get (by kernel_rfl))), by kernel_rfl, (by kernel_rfl : _ = some (((Tryd.prog.info? 59).get (by kernel_rfl)).zero.get (by kernel_rfl))), by kernel_rfl⟩, rfl, ⟨_, Tryd.underlying59, by kernel_rfl, rfl⟩⟩
theorem tyF60 : TyF Tryd.prog 60 ⟨1, .sl 116 1 24, [.sl 116 1]⟩ :=
  ⟨⟨_, _, (by kernel_rfl : Tryd.prog.info? 60 = some ((Tryd.prog.info? 60).get (by kernel_rfl))), by kernel_rfl, (by kernel_rfl : _ = some (((Tryd.prog.info? 60).get (by kernel_rfl)).zero.get (by kernel_rfl))), by kernel_rfl⟩, rfl, ⟨Tryd.underlying60, _, _, (by kernel_rfl : Tryd.prog.info? 116 = some ((Tryd.prog.info? 116).get (by kernel_rfl))), by kernel_rfl, by kernel_rfl, (by kernel_rfl : _ = some (((Tryd.prog.info? 116).get (by kernel_rfl)).zero.get (by kernel_rfl))), by kernel_rfl, by decide⟩⟩
theorem tyF61 : TyF Tryd.prog 61 ⟨8, .st [(0, 4), (4, 2), (6, 1), (7, 1)], [.sl 3 1, .sl 3 1, .sl 128 1, .sl 128 1, .lit (.int .i64 0), .sl 137 4, .sl 116 1, .sl 3 1]⟩ :=
  ⟨⟨_, _, (by kernel_rfl : Tryd.prog.info? 61 = some ((Tryd.prog.info? 61).get (by kernel_rfl))), by kernel_rfl, (by kernel_rfl : _ = some (((Tryd.prog.info? 61).get (by kernel_rfl)).zero.get (by kernel_rfl))), by kernel_rfl⟩, rfl, ⟨_, Tryd.underlying61, by kernel_rfl, rfl⟩⟩
theorem tyF62 : TyF Tryd.prog 62 ⟨8, .st [(0, 4), (4, 2), (6, 1), (7, 1)], [.sl 3 1, .sl 3 1, .sl 128 1, .sl 128 1, .lit (.int .i64 0), .sl 137 4, .sl 116 1, .sl 3 1]⟩ :=
  ⟨⟨_, _, (by kernel_rfl : Tryd.prog.info? 62 = some ((Tryd.prog.info? 62).get (by kernel_rfl))), by kernel_rfl, (by kernel_rfl : _ = some (((Tryd.prog.info? 62).get (by kernel_rfl)).zero.get (by kernel_rfl))), by kernel_rfl⟩, rfl, ⟨_, Tryd.underlying62, by kernel_rfl, rfl⟩⟩
theorem tyF66 : TyF Tryd.prog 66 ⟨1, .sl 135 4 32, [.sl 135 4]⟩ :=
  ⟨⟨_, _, (by kernel_rfl : Tryd.prog.info? 66 = some ((Tryd.prog.info? 66).get (by kernel_rfl))), by kernel_rfl, (by kernel_rfl : _ = some (((Tryd.prog.info? 66).get (by kernel_rfl)).zero.get (by kernel_rfl))), by kernel_rfl⟩, rfl, ⟨Tryd.underlying66, _, _, (by kernel_rfl : Tryd.prog.info? 135 = some ((Tryd.prog.info? 135).get (by kernel_rfl))), by kernel_rfl, by kernel_rfl, (by kernel_rfl : _ = some (((Tryd.prog.info? 135).get (by kernel_rfl)).zero.get (by kernel_rfl))), by kernel_rfl, by decide⟩⟩
theorem tyF67 : TyF Tryd.prog 67 ⟨2, .st [(0, 1), (1, 1)], [.lit (.int .i64 0), .sl 135 4]⟩ :=
  ⟨⟨_, _, (by kernel_rfl : Tryd.prog.info? 67 = some ((Tryd.prog.info? 67).get (by kernel_rfl))), by kernel_rfl, (by kernel_rfl : _ = some (((Tryd.prog.info? 67).get (by kernel_rfl)).zero.get (by kernel_rfl))), by kernel_rfl⟩, rfl, ⟨_, Tryd.underlying67, by kernel_rfl, rfl⟩⟩
theorem tyF68 : TyF Tryd.prog 68 ⟨2, .st [(0, 1), (1, 1)], [.lit (.int .i64 0), .sl 135 4]⟩ :=
  ⟨⟨_, _, (by kernel_rfl : Tryd.prog.info? 68 = some ((Tryd.prog.info? 68).get (by kernel_rfl))), by kernel_rfl, (by kernel_rfl : _ = some (((Tryd.prog.info? 68).get (by kernel_rfl)).zero.get (by kernel_rfl))), by kernel_rfl⟩, rfl, ⟨_, Tryd.underlying68, by kernel_rfl, rfl⟩⟩
theorem tyF69 : TyF Tryd.prog 69 ⟨1, .sl 120 1 24, [.sl 120 1]⟩ :=
  ⟨⟨_, _, (by kernel_rfl : Tryd.prog.info? 69 = some ((Tryd.prog.info? 69).get (by kernel_rfl))), by kernel_rfl, (by kernel_rfl : _ = some (((Tryd.prog.info? 69).get (by kernel_rfl)).zero.get (by kernel_rfl))), by kernel_rfl⟩, rfl, ⟨Tryd.underlying69, _, _, (by kernel_rfl : Tryd.prog.info? 120 = some ((Tryd.prog.info? 120).get (by kernel_rfl))), by kernel_rfl, by kernel_rfl, (by kernel_rfl : _ = some (((Tryd.prog.info? 120).get (by kernel_rfl)).zero.get (by kernel_rfl))), by kernel_rfl, by decide⟩⟩
theorem tyF70 : TyF Tryd.prog 70 ⟨8, .st [(0, 4), (4, 2), (6, 1), (7, 1)], [.sl 3 1, .sl 3 1, .sl 108 1, .sl 108 1, .lit (.int .i64 0), .sl 135 4, .sl 120 1, .sl 3 1]⟩ :=
  ⟨⟨_, _, (by kernel_rfl : Tryd.prog.info? 70 = some ((Tryd.prog.info? 70).get (by kernel_rfl))), by kernel_rfl, (by kernel_rfl : _ = some (((Tryd.prog.info? 70).get (by kernel_rfl)).zero.get (by kernel_rfl))), by kernel_rfl⟩, rfl, ⟨_, Tryd.underlying70, by kernel_rfl, rfl⟩⟩
theorem tyF71 : TyF Tryd.prog 71 ⟨8, .st [(0, 4), (4, 2), (6, 1), (7, 1)], [.sl 3 1, .sl 3 1, .sl 108 1, .sl 108 1, .lit (.int .i64 0), .sl 135 4, .sl 120 1, .sl 3 1]⟩ :=
  ⟨⟨_, _, (by kernel_rfl : Tryd.prog.info? 71 = some ((Tryd.prog.info? 71).get (by kernel_rfl))), by kernel_rfl, (by kernel_rfl : _ = some (((Tryd.prog.info? 71).get (by kernel_rfl)).zero.get (by kernel_rfl))), by kernel_rfl⟩, rfl, ⟨_, Tryd.underlying71, by kernel_rfl, rfl⟩⟩
theorem tyF83 : TyF Tryd.prog 83 ⟨8, .arr 8 3 1, [.lit (.int .i64 0), .lit (.int .i64 0), .lit (.int .i64 0), .lit (.int .i64 0), .lit (.int .i64 0), .lit (.int .i64 0), .lit (.int .i64 0), .lit (.int .i64 0)]⟩ :=
  ⟨⟨_, _, (by kernel_rfl : Tryd.prog.info? 83 = some ((Tryd.prog.info? 83).get (by kernel_rfl))), by kernel_rfl, (by kernel_rfl : _ = some (((Tryd.prog.info? 83).get (by kernel_rfl)).zero.get (by kernel_rfl))), by kernel_rfl⟩, rfl, ⟨Tryd.underlying83, _, (by kernel_rfl : Tryd.prog.info? 3 = some ((Tryd.prog.info? 3).get (by kernel_rfl))), by kernel_rfl⟩⟩
theorem tyF107 : TyF Tryd.prog 107 ⟨1, .st [(0, 1)], [.sl 3 1]⟩ :=
  ⟨⟨_, _, (by kernel_rfl : Tryd.prog.info? 107 = some ((Tryd.prog.info? 107).get (by kernel_rfl))), by kernel_rfl, (by kernel_rfl : _ = some (((Tryd.prog.info? 107).get (by kernel_rfl)).zero.get (by kernel_rfl))), by kernel_rfl⟩, rfl, ⟨_, Tryd.underlying107, by kernel_rfl, rfl⟩⟩
theorem tyF108 : TyF Tryd.prog 108 ⟨1, .st [(0, 1)], [.sl 3 1]⟩ :=
  ⟨⟨_, _, (by kernel_rfl : Tryd.prog.info? 108 = some ((Tryd.prog.info? 108).get (by kernel_rfl))), by kernel_rfl, (by kernel_rfl : _ = some (((Tryd.prog.info? 108).get (by kernel_rfl)).zero.get (by kernel_rfl))), by kernel_rfl⟩, rfl, ⟨_, Tryd.underlying108, by kernel_rfl, rfl⟩⟩
theorem tyF114 : TyF Tryd.prog 114 ⟨1, .sl 146 2 16, [.sl 146 2]⟩ :=
  ⟨⟨_, _, (by kernel_rfl : Tryd.prog.info? 114 = some ((Tryd.prog.info? 114).get (by kernel_rfl))), by kernel_rfl, (by kernel_rfl : _ = some (((Tryd.prog.info? 114).get (by kernel_rfl)).zero.get (by kernel_rfl))), by kernel_rfl⟩, rfl, ⟨Tryd.underlying114, _, _, (by kernel_rfl : Tryd.prog.info? 146 = some ((Tryd.prog.info? 146).get (by kernel_rfl))), by kernel_rfl, by kernel_rfl, (by kernel_rfl : _ = some (((Tryd.prog.info? 146).get (by kernel_rfl)).zero.get (by kernel_rfl))), by kernel_rfl, by decide⟩⟩
theorem tyF115 : TyF Tryd.prog 115 ⟨1, .st [(0, 1)], [.sl 146 2]⟩ :=
  ⟨⟨_, _, (by kernel_rfl : Tryd.prog.info? 115 = some ((Tryd.prog.info? 115).get (by kernel_rfl))), by kernel_rfl, (by kernel_rfl : _ = some (((Tryd.prog.info? 115).get (by kernel_rfl)).zero.get (by kernel_rfl))), by kernel_rfl⟩, rfl, ⟨_, Tryd.underlying115, by kernel_rfl, rfl⟩⟩
theorem tyF116 : TyF Tryd.prog 116 ⟨1, .st [(0, 1)], [.sl 146 2]⟩ :=
  ⟨⟨_, _, (by kernel_rfl : Tryd.prog.info? 116 = some ((Tryd.prog.info? 116).get (by kernel_rfl))), by kernel_rfl, (by kernel_rfl : _ = some (((Tryd.prog.info? 116).get (by kernel_rfl)).zero.get (by kernel_rfl))), by kernel_rfl⟩, rfl, ⟨_, Tryd.underlying116, by kernel_rfl, rfl⟩⟩
theorem tyF118 : TyF Tryd.prog 118 ⟨1, .sl 144 2 16, [.sl 144 2]⟩ :=
  ⟨⟨_, _, (by kernel_rfl : Tryd.prog.info? 118 = some ((Tryd.prog.info? 118).get (by kernel_rfl))), by kernel_rfl, (by kernel_rfl : _ = some (((Tryd.prog.info? 118).get (by kernel_rfl)).zero.get (by kernel_rfl))), by kernel_rfl⟩, rfl, ⟨Tryd.underlying118, _, _, (by kernel_rfl : Tryd.prog.info? 144 = some ((Tryd.prog.info? 144).get (by kernel_rfl))), by kernel_rfl, by kernel_rfl, (by kernel_rfl : _ = some (((Tryd.prog.info? 144).get (by kernel_rfl)).zero.get (by kernel_rfl))), by kernel_rfl, by decide⟩⟩
theorem tyF119 : TyF Tryd.prog 119 ⟨1, .st [(0, 1)], [.sl 144 2]⟩ :=
  ⟨⟨_, _, (by kernel_rfl : Tryd.prog.info? 119 = some ((Tryd.prog.info? 119).get (by kernel_rfl))), by kernel_rfl, (by kernel_rfl : _ = some (((Tryd.prog.info? 119).get (by kernel_rfl)).zero.get (by kernel_rfl))), by kernel_rfl⟩, rfl, ⟨_, Tryd.underlying119, by kernel_rfl, rfl⟩⟩
theorem tyF120 : TyF Tryd.prog 120 ⟨1, .st [(0, 1)], [.sl 144 2]⟩ :=
  ⟨⟨_, _, (by kernel_rfl : Tryd.prog.info? 120 = some ((Tryd.prog.info? 120).get (by kernel_rfl))), by kernel_rfl, (by kernel_rfl : _ = some (((Tryd.prog.info? 120).get (by kernel_rfl)).zero.get (by kernel_rfl))), by kernel_rfl⟩, rfl, ⟨_, Tryd.underlying120, by kernel_rfl, rfl⟩⟩
theorem tyF122 : TyF Tryd.prog 122 ⟨3, .arr 3 3 1, [.lit (.int .i64 0), .lit (.int .i64 0), .lit (.int .i64 0)]⟩ :=
  ⟨⟨_, _, (by kernel_rfl : Tryd.prog.info? 122 = some ((Tryd.prog.info? 122).get (by kernel_rfl))), by kernel_rfl, (by kernel_rfl : _ = some (((Tryd.prog.info? 122).get (by kernel_rfl)).zero.get (by kernel_rfl))), by kernel_rfl⟩, rfl, ⟨Tryd.underlying122, _, (by kernel_rfl : Tryd.prog.info? 3 = some ((Tryd.prog.info? 3).get (by kernel_rfl))), by kernel_rfl⟩⟩
theorem tyF123 : TyF Tryd.prog 123 ⟨1, .sc, [.lit (.int .u64 0)]⟩ :=
  ⟨⟨_, _, (by kernel_rfl : Tryd.prog.info? 123 = some ((Tryd.prog.info? 123).get (by kernel_rfl))), by kernel_rfl, (by kernel_rfl : _ = some (((Tryd.prog.info? 123).get (by kernel_rfl)).zero.get (by kernel_rfl))), by kernel_rfl⟩, rfl, ⟨_, Tryd.underlying123, rfl⟩⟩
theorem tyF126 : TyF Tryd.prog 126 ⟨1, .sl 5 1 1, [.sl 5 1]⟩ :=
  ⟨⟨_, _, (by kernel_rfl : Tryd.prog.info? 126 = some ((Tryd.prog.info? 126).get (by kernel_rfl))), by kernel_rfl, (by kernel_rfl : _ = some (((Tryd.prog.info? 126).get (by kernel_rfl)).zero.get (by kernel_rfl))), by kernel_rfl⟩, rfl, ⟨Tryd.underlying126, _, _, (by kernel_rfl : Tryd.prog.info? 5 = some ((Tryd.prog.info? 5).get (by kernel_rfl))), by kernel_rfl, by kernel_rfl, (by kernel_rfl : _ = some (((Tryd.prog.info? 5).get (by kernel_rfl)).zero.get (by kernel_rfl))), by kernel_rfl, by decide⟩⟩
theorem tyF128 : TyF Tryd.prog 128 ⟨1, .st [(0, 1)], [.sl 3 1]⟩ :=
  ⟨⟨_, _, (by kernel_rfl : Tryd.prog.info? 128 = some ((Tryd.prog.info? 128).get (by kernel_rfl))), by kernel_rfl, (by kernel_rfl : _ = some (((Tryd.prog.info? 128).get (by kernel_rfl)).zero.get (by kernel_rfl))), by kernel_rfl⟩, rfl, ⟨_, Tryd.underlying128, by kernel_rfl, rfl⟩⟩
theorem tyF134 : TyF Tryd.prog 134 ⟨4, .st [(0, 1), (1, 1), (2, 1), (3, 1)], [.lit (.bool false), .lit (.int .i64 0), .lit (.bool false), .lit (.int .i64 0)]⟩ :=
  ⟨⟨_, _, (by kernel_rfl : Tryd.prog.info? 134 = some ((Tryd.prog.info? 134).get (by kernel_rfl))), by kernel_rfl, (by kernel_rfl : _ = some (((Tryd.prog.info? 134).get (by kernel_rfl)).zero.get (by kernel_rfl))), by kernel_rfl⟩, rfl, ⟨_, Tryd.underlying134, by kernel_rfl, rfl⟩⟩
theorem tyF135 : TyF Tryd.prog 135 ⟨4, .st [(0, 1), (1, 1), (2, 1), (3, 1)], [.lit (.bool false), .lit (.int .i64 0), .lit (.bool false), .lit (.int .i64 0)]⟩ :=
  ⟨⟨_, _, (by kernel_rfl : Tryd.prog.info? 135 = some ((Tryd.prog.info? 135).get (by kernel_rfl))), by kernel_rfl, (by kernel_rfl : _ = some (((Tryd.prog.info? 135).get (by kernel_rfl)).zero.get (by kernel_rfl))), by kernel_rfl⟩, rfl, ⟨_, Tryd.underlying135, by kernel_rfl, rfl⟩⟩
theorem tyF137 : TyF Tryd.prog 137 ⟨4, .st [(0, 1), (1, 1), (2, 1), (3, 1)], [.lit (.bool false), .lit (.int .i64 0), .lit (.bool false), .lit (.int .i64 0)]⟩ :=
  ⟨⟨_, _, (by kernel_rfl : Tryd.prog.info? 137 = some ((Tryd.prog.info? 137).get (by kernel_rfl))), by kernel_rfl, (by kernel_rfl : _ = some (((Tryd.prog.info? 137).get (by kernel_rfl)).zero.get (by kernel_rfl))), by kernel_rfl⟩, rfl, ⟨_, Tryd.underlying137, by kernel_rfl, rfl⟩⟩
theorem tyF141 : TyF Tryd.prog 141 ⟨24, .arr 24 4 1, [.lit (.bool false), .lit (.bool false), .lit (.bool false), .lit (.bool false), .lit (.bool false), .lit (.bool false), .lit (.bool false), .lit (.bool false), .lit (.bool false), .lit (.bool false), .lit (.bool false), .lit (.bool false), .lit (.bool false), .lit (.bool false), .lit (.bool false), .lit (.bool false), .lit (.bool false), .lit (.bool false), .lit (.bool false), .lit (.bool false), .lit (.bool false), .lit (.bool false), .lit (.bool false), .lit (.bool false)]⟩ :=
  ⟨⟨_, _, (by kernel_rfl : Tryd.prog.info? 141 = some ((Tryd.prog.info? 141).get (by kernel_rfl))), by kernel_rfl, (by kernel_rfl : _ = some (((Tryd.prog.info? 141).get (by kernel_rfl)).zero.get (by kernel_rfl))), by kernel_rfl⟩, rfl, ⟨Tryd.underlying141, _, (by kernel_rfl : Tryd.prog.info? 4 = some ((Tryd.prog.info? 4).get (by kernel_rfl))), by kernel_rfl⟩⟩
theorem tyF143 : TyF Tryd.prog 143 ⟨2, .st [(0, 1), (1, 1)], [.lit (.int .i64 0), .lit (.int .i64 0)]⟩ :=
  ⟨⟨_, _, (by kernel_rfl : Tryd.prog.info? 143 = some ((Tryd.prog.info? 143).get (by kernel_rfl))), by kernel_rfl, (by kernel_rfl : _ = some (((Tryd.prog.info? 143).get (by kernel_rfl)).zero.get (by kernel_rfl))), by kernel_rfl⟩, rfl, ⟨_, Tryd.underlying143, by kernel_rfl, rfl⟩⟩
theorem tyF144 : TyF Tryd.prog 144 ⟨2, .st [(0, 1), (1, 1)], [.lit (.int .i64 0), .lit (.int .i64 0)]⟩ :=
  ⟨⟨_, _, (by kernel_rfl : Tryd.prog.info? 144 = some ((Tryd.prog.info? 144).get (by kernel_rfl))), by kernel_rfl, (by kernel_rfl : _ = some (((Tryd.prog.info? 144).get (by kernel_rfl)).zero.get (by kernel_rfl))), by kernel_rfl⟩, rfl, ⟨_, Tryd.underlying144, by kernel_rfl, rfl⟩⟩
theorem tyF146 : TyF Tryd.prog 146 ⟨2, .st [(0, 1), (1, 1)], [.lit (.int .i64 0), .lit (.int .i64 0)]⟩ :=
  ⟨⟨_, _, (by kernel_rfl : Tryd.prog.info? 146 = some ((Tryd.prog.info? 146).get (by kernel_rfl))), by kernel_rfl, (by kernel_rfl : _ = some (((Tryd.prog.info? 146).get (by kernel_rfl)).zero.get (by kernel_rfl))), by kernel_rfl⟩, rfl, ⟨_, Tryd.underlying146, by kernel_rfl, rfl⟩⟩
theorem tyF148 : TyF Tryd.prog 148 ⟨1, .sl 48 1 24, [.sl 48 1]⟩ :=
  ⟨⟨_, _, (by kernel_rfl : Tryd.prog.info? 148 = some ((Tryd.prog.info? 148).get (by kernel_rfl))), by kernel_rfl, (by kernel_rfl : _ = some (((Tryd.prog.info? 148).get (by kernel_rfl)).zero.get (by kernel_rfl))), by kernel_rfl⟩, rfl, ⟨Tryd.underlying148, _, _, (by kernel_rfl : Tryd.prog.info? 48 = some ((Tryd.prog.info? 48).get (by kernel_rfl))), by kernel_rfl, by kernel_rfl, (by kernel_rfl : _ = some (((Tryd.prog.info? 48).get (by kernel_rfl)).zero.get (by kernel_rfl))), by kernel_rfl, by decide⟩⟩
theorem tyF157 : TyF Tryd.prog 157 ⟨1, .sc, [.lit (.int .u32 0)]⟩ :=
  ⟨⟨_, _, (by kernel_rfl : Tryd.prog.info? 157 = some ((Tryd.prog.info? 157).get (by kernel_rfl))), by kernel_rfl, (by kernel_rfl : _ = some (((Tryd.prog.info? 157).get (by kernel_rfl)).zero.get (by kernel_rfl))), by kernel_rfl⟩, rfl, ⟨_, Tryd.underlying157, rfl⟩⟩
theorem tyF158 : TyF Tryd.prog 158 ⟨1, .sc, [.lit (.int .u8 0)]⟩ :=
  ⟨⟨_, _, (by kernel_rfl : Tryd.prog.info? 158 = some ((Tryd.prog.info? 158).get (by kernel_rfl))), by kernel_rfl, (by kernel_rfl : _ = some (((Tryd.prog.info? 158).get (by kernel_rfl)).zero.get (by kernel_rfl))), by kernel_rfl⟩, rfl, ⟨_, Tryd.underlying158, rfl⟩⟩
theorem tyF159 : TyF Tryd.prog 159 ⟨1, .sc, [.lit (.int .u8 0)]⟩ :=
  ⟨⟨_, _, (by kernel_rfl : Tryd.prog.info? 159 = some ((Tryd.prog.info? 159).get (by kernel_rfl))), by kernel_rfl, (by kernel_rfl : _ = some (((Tryd.prog.info? 159).get (by kernel_rfl)).zero.get (by kernel_rfl))), by kernel_rfl⟩, rfl, ⟨_, Tryd.underlying159, rfl⟩⟩
theorem tyF162 : TyF Tryd.prog 162 ⟨1, .sc, [.lit (.int .i32 0)]⟩ :=
  ⟨⟨_, _, (by kernel_rfl : Tryd.prog.info? 162 = some ((Tryd.prog.info? 162).get (by kernel_rfl))), by kernel_rfl, (by kernel_rfl : _ = some (((Tryd.prog.info? 162).get (by kernel_rfl)).zero.get (by kernel_rfl))), by kernel_rfl⟩, rfl, ⟨_, Tryd.underlying162, rfl⟩⟩
theorem tyF163 : TyF Tryd.prog 163 ⟨1, .sc, [.lit (.int .i32 0)]⟩ :=
  ⟨⟨_, _, (by kernel_rfl : Tryd.prog.info? 163 = some ((Tryd.prog.info? 163).get (by kernel_rfl))), by kernel_rfl, (by kernel_rfl : _ = some (((Tryd.prog.info? 163).get (by kernel_rfl)).zero.get (by kernel_rfl))), by kernel_rfl⟩, rfl, ⟨_, Tryd.underlying163, rfl⟩⟩
theorem tyOk : TOk Tryd.prog tyT := by
  intro t i h
  unfold tyT at h
  split at h
  · injection h with h; subst h; exact tyF2
  · injection h with h; subst h; exact tyF3
  · injection h with h; subst h; exact tyF4
  · injection h with h; subst h; exact tyF5
  · injection h with h; subst h; exact tyF6
  · injection h with h; subst h; exact tyF7
  · injection h with h; subst h; exact tyF8
  · injection h with h; subst h; exact tyF12
  · injection h with h; subst h; exact tyF21
  · injection h with h; subst h; exact tyF22
  · injection h with h; subst h; exact tyF23
  · injection h with h; subst h; exact tyF24
  · injection h with h; subst h; exact tyF26
  · injection h with h; subst h; exact tyF38
  · injection h with h; subst h; exact tyF39
  · injection h with h; subst h; exact tyF40
  · injection h with h; subst h; exact tyF41
  · injection h with h; subst h; exact tyF42
  · injection h with h; subst h; exact tyF44
  · injection h with h; subst h; exact tyF45
  · injection h with h; subst h; exact tyF48
  · injection h with h; subst h; exact tyF49
  · injection h with h; subst h; exact tyF50
  · injection h with h; subst h; exact tyF51
  · injection h with h; subst h; exact tyF52
  · injection h with h; subst h; exact tyF57
  · injection h with h; subst h; exact tyF58
  · injection h with h; subst h; exact tyF59
  · injection h with h; subst h; exact tyF60
  · injection h with h; subst h; exact tyF61
  · injection h with h; subst h; exact tyF62
  · injection h with h; subst h; exact tyF66
  · injection h with h; subst h; exact tyF67
  · injection h with h; subst h; exact tyF68
  · injection h with h; subst h; exact tyF69
  · injection h with h; subst h; exact tyF70
  · injection h with h; subst h; exact tyF71
  · injection h with h; subst h; exact tyF83
  · injection h with h; subst h; exact tyF107
  · injection h with h; subst h; exact tyF108
  · injection h with h; subst h; exact tyF114
  · injection h with h; subst h; exact tyF115
  · injection h with h; subst h; exact tyF116
  · injection h with h; subst h; exact tyF118
  · injection h with h; subst h; exact tyF119
  · injection h with h; subst h; exact tyF120
  · injection h with h; subst h; exact tyF122
  · injection h with h; subst h; exact tyF123
  · injection h with h; subst h; exact tyF126
  · injection h with h; subst h; exact tyF128
  · injection h with h; subst h; exact tyF134
  · injection h with h; subst h; exact tyF135
  · injection h with h; subst h; exact tyF137
  · injection h with h; subst h; exact tyF141
  · injection h with h; subst h; exact tyF143
  · injection h with h; subst h; exact tyF144
  · injection h with h; subst h; exact tyF146
  · injection h with h; subst h; exact tyF148
  · injection h with h; subst h; exact tyF157
  · injection h with h; subst h; exact tyF158
  · injection h with h; subst h; exact tyF159
  · injection h with h; subst h; exact tyF162
  · injection h with h; subst h; exact tyF163
  · cases h
end Go.Proofs.YtpmhkpmkmbkjbaaDoor

