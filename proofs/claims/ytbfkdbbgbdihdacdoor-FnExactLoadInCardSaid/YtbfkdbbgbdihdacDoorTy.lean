/- The types of the program that the proofs speak of. -/
import Derived.Test.YtbfkdbbgbdihdacDoorProg
import Derived.Test.YtbfkdbbgbdihdacDoorTrc
import Derived.KernelRfl
namespace Go.Proofs.YtbfkdbbgbdihdacDoor
open Go Go.Tr
set_option linter.unusedVariables false
set_option linter.unusedSimpArgs false
set_option maxRecDepth 100000
def tyT : Nat → Option TyI
  | 2 => some ⟨1, .sc, [.lit (.int .i64 0)]⟩
  | 3 => some ⟨1, .sc, [.lit (.int .i64 0)]⟩
  | 4 => some ⟨1, .sc, [.lit (.bool false)]⟩
  | 5 => some ⟨1, .sc, [.lit (.int .u8 0)]⟩
  | 6 => some ⟨1, .sc, [.lit (.int .u8 0)]⟩
  | 7 => some ⟨4, .st [(0, 1), (1, 1), (2, 1), (3, 1)], [.lit (.int .i64 0), .lit (.int .i64 0), .lit (.bool false), .lit (.int .u8 0)]⟩
  | 8 => some ⟨4, .st [(0, 1), (1, 1), (2, 1), (3, 1)], [.lit (.int .i64 0), .lit (.int .i64 0), .lit (.bool false), .lit (.int .u8 0)]⟩
  | 12 => some ⟨1, .sc, [.lit (.int .u64 0)]⟩
  | 21 => some ⟨1, .sc, [.lit (.int .i32 0)]⟩
  | 22 => some ⟨1, .sl 3 1 8, [.sl 3 1]⟩
  | 23 => some ⟨2, .st [(0, 1), (1, 1)], [.sl 3 1, .sl 3 1]⟩
  | 24 => some ⟨2, .st [(0, 1), (1, 1)], [.sl 3 1, .sl 3 1]⟩
  | 26 => some ⟨2, .st [(0, 1), (1, 1)], [.sl 3 1, .sl 3 1]⟩
  | 38 => some ⟨1, .sl 94 1 24, [.sl 94 1]⟩
  | 39 => some ⟨2, .st [(0, 1), (1, 1)], [.sl 94 1, .sl 94 1]⟩
  | 40 => some ⟨2, .st [(0, 1), (1, 1)], [.sl 94 1, .sl 94 1]⟩
  | 41 => some ⟨4, .st [(0, 2), (2, 2)], [.sl 3 1, .sl 3 1, .sl 94 1, .sl 94 1]⟩
  | 42 => some ⟨4, .st [(0, 2), (2, 2)], [.sl 3 1, .sl 3 1, .sl 94 1, .sl 94 1]⟩
  | 45 => some ⟨1, .sl 75 1 24, [.sl 75 1]⟩
  | 46 => some ⟨2, .st [(0, 1), (1, 1)], [.sl 75 1, .sl 75 1]⟩
  | 47 => some ⟨2, .st [(0, 1), (1, 1)], [.sl 75 1, .sl 75 1]⟩
  | 48 => some ⟨4, .st [(0, 2), (2, 2)], [.sl 3 1, .sl 3 1, .sl 75 1, .sl 75 1]⟩
  | 49 => some ⟨4, .st [(0, 2), (2, 2)], [.sl 3 1, .sl 3 1, .sl 75 1, .sl 75 1]⟩
  | 68 => some ⟨8, .arr 8 3 1, [.lit (.int .i64 0), .lit (.int .i64 0), .lit (.int .i64 0), .lit (.int .i64 0), .lit (.int .i64 0), .lit (.int .i64 0), .lit (.int .i64 0), .lit (.int .i64 0)]⟩
  | 74 => some ⟨1, .st [(0, 1)], [.sl 3 1]⟩
  | 75 => some ⟨1, .st [(0, 1)], [.sl 3 1]⟩
  | 91 => some ⟨1, .sc, [.lit (.int .u64 0)]⟩
  | 92 => some ⟨1, .sl 5 1 1, [.sl 5 1]⟩
  | 94 => some ⟨1, .st [(0, 1)], [.sl 3 1]⟩
  | 96 => some ⟨24, .arr 24 4 1, [.lit (.bool false), .lit (.bool false), .lit (.bool false), .lit (.bool false), .lit (.bool false), .lit (.bool false), .lit (.bool false), .lit (.bool false), .lit (.bool false), .lit (.bool false), .lit (.bool false), .lit (.bool false), .lit (.bool false), .lit (.bool false), .lit (.bool false), .lit (.bool false), .lit (.bool false), .lit (.bool false), .lit (.bool false), .lit (.bool false), .lit (.bool false), .lit (.bool false), .lit (.bool false), .lit (.bool false)]⟩
  | 99 => some ⟨3, .arr 3 3 1, [.lit (.int .i64 0), .lit (.int .i64 0), .lit (.int .i64 0)]⟩
  | 100 => some ⟨1, .sl 45 1 24, [.sl 45 1]⟩
  | 109 => some ⟨1, .sc, [.lit (.int .u32 0)]⟩
  | 110 => some ⟨1, .sc, [.lit (.int .u8 0)]⟩
  | 111 => some ⟨1, .sc, [.lit (.int .u8 0)]⟩
  | 114 => some ⟨1, .sc, [.lit (.int .i32 0)]⟩
  | 115 => some ⟨1, .sc, [.lit (.int .i32 0)]⟩
  | _ => none
theorem tyF2 : TyF Tryd.prog 2 ⟨1, .sc, [.lit (.int .i64 0)]⟩ :=
  ⟨⟨_, _, (by kernel_rfl : Tryd.prog.info? 2 = some ((Tryd.prog.info? 2).get (by kernel_rfl))), by kernel_rfl, (by kernel_rfl : _ = some (((Tryd.prog.info? 2).get (by kernel_rfl)).zero.get (by kernel_rfl))), by kernel_rfl⟩, rfl, ⟨_, Tryd.underlying2, rfl⟩⟩
theorem tyF3 : TyF Tryd.prog 3 ⟨1, .sc, [.lit (.int .i64 0)]⟩ :=
  ⟨⟨_, _, (by kernel_rfl : Tryd.prog.info? 3 = some ((Tryd.prog.info? 3).get (by kernel_rfl))), by kernel_rfl, (by kernel_rfl : _ = some (((Tryd.prog.info? 3).get (by kernel_rfl)).zero.get (by kernel_rfl))), by kernel_rfl⟩, rfl, ⟨_, Tryd.underlying3, rfl⟩⟩
theorem tyF4 : TyF Tryd.prog 4 ⟨1, .sc, [.lit (.bool false)]⟩ :=
  ⟨⟨_, _, (by kernel_rfl : Tryd.prog.info? 4 = some ((Tryd.prog.info? 4).get (by kernel_rfl))), by kernel_rfl, (by kernel_rfl : _ = some (((Tryd.prog.info? 4).get (by kernel_rfl)).zero.get (by kernel_rfl))), by kernel_rfl⟩, rfl, ⟨_, Tryd.underlying4, rfl⟩⟩
theorem tyF5 : TyF Tryd.prog 5 ⟨1, .sc, [.lit (.int .u8 0)]⟩ :=
  ⟨⟨_, _, (by kernel_rfl : Tryd.prog.info? 5 = some ((Tryd.prog.info? 5).get (by kernel_rfl))), by kernel_rfl, (by kernel_rfl : _ = some (((Tryd.prog.info? 5).get (by kernel_rfl)).zero.get (by kernel_rfl))), by kernel_rfl⟩, rfl, ⟨_, Tryd.underlying5, rfl⟩⟩
theorem tyF6 : TyF Tryd.prog 6 ⟨1, .sc, [.lit (.int .u8 0)]⟩ :=
  ⟨⟨_, _, (by kernel_rfl : Tryd.prog.info? 6 = some ((Tryd.prog.info? 6).get (by kernel_rfl))), by kernel_rfl, (by kernel_rfl : _ = some (((Tryd.prog.info? 6).get (by kernel_rfl)).zero.get (by kernel_rfl))), by kernel_rfl⟩, rfl, ⟨_, Tryd.underlying6, rfl⟩⟩
theorem tyF7 : TyF Tryd.prog 7 ⟨4, .st [(0, 1), (1, 1), (2, 1), (3, 1)], [.lit (.int .i64 0), .lit (.int .i64 0), .lit (.bool false), .lit (.int .u8 0)]⟩ :=
  ⟨⟨_, _, (by kernel_rfl : Tryd.prog.info? 7 = some ((Tryd.prog.info? 7).get (by kernel_rfl))), by kernel_rfl, (by kernel_rfl : _ = some (((Tryd.prog.info? 7).get (by kernel_rfl)).zero.get (by kernel_rfl))), by kernel_rfl⟩, rfl, ⟨_, Tryd.underlying7, by kernel_rfl, rfl⟩⟩
theorem tyF8 : TyF Tryd.prog 8 ⟨4, .st [(0, 1), (1, 1), (2, 1), (3, 1)], [.lit (.int .i64 0), .lit (.int .i64 0), .lit (.bool false), .lit (.int .u8 0)]⟩ :=
  ⟨⟨_, _, (by kernel_rfl : Tryd.prog.info? 8 = some ((Tryd.prog.info? 8).get (by kernel_rfl))), by kernel_rfl, (by kernel_rfl : _ = some (((Tryd.prog.info? 8).get (by kernel_rfl)).zero.get (by kernel_rfl))), by kernel_rfl⟩, rfl, ⟨_, Tryd.underlying8, by kernel_rfl, rfl⟩⟩
theorem tyF12 : TyF Tryd.prog 12 ⟨1, .sc, [.lit (.int .u64 0)]⟩ :=
  ⟨⟨_, _, (by kernel_rfl : Tryd.prog.info? 12 = some ((Tryd.prog.info? 12).get (by kernel_rfl))), by kernel_rfl, (by kernel_rfl : _ = some (((Tryd.prog.info? 12).get (by kernel_rfl)).zero.get (by kernel_rfl))), by kernel_rfl⟩, rfl, ⟨_, Tryd.underlying12, rfl⟩⟩
theorem tyF21 : TyF Tryd.prog 21 ⟨1, .sc, [.lit (.int .i32 0)]⟩ :=
  ⟨⟨_, _, (by kernel_rfl : Tryd.prog.info? 21 = some ((Tryd.prog.info? 21).get (by kernel_rfl))), by kernel_rfl, (by kernel_rfl : _ = some (((Tryd.prog.info? 21).get (by kernel_rfl)).zero.get (by kernel_rfl))), by kernel_rfl⟩, rfl, ⟨_, Tryd.underlying21, rfl⟩⟩
theorem tyF22 : TyF Tryd.prog 22 ⟨1, .sl 3 1 8, [.sl 3 1]⟩ :=
  ⟨⟨_, _, (by kernel_rfl : Tryd.prog.info? 22 = some ((Tryd.prog.info? 22).get (by kernel_rfl))), by kernel_rfl, (by kernel_rfl : _ = some (((Tryd.prog.info? 22).get (by kernel_rfl)).zero.get (by kernel_rfl))), by kernel_rfl⟩, rfl, ⟨Tryd.underlying22, _, _, (by kernel_rfl : Tryd.prog.info? 3 = some ((Tryd.prog.info? 3).get (by kernel_rfl))), by kernel_rfl, by kernel_rfl, (by kernel_rfl : _ = some (((Tryd.prog.info? 3).get (by kernel_rfl)).zero.get (by kernel_rfl))), by kernel_rfl, by decide⟩⟩
theorem tyF23 : TyF Tryd.prog 23 ⟨2, .st [(0, 1), (1, 1)], [.sl 3 1, .sl 3 1]⟩ :=
  ⟨⟨_, _, (by kernel_rfl : Tryd.prog.info? 23 = some ((Tryd.prog.info? 23).get (by kernel_rfl))), by kernel_rfl, (by kernel_rfl : _ = some (((Tryd.prog.info? 23).get (by kernel_rfl)).zero.get (by kernel_rfl))), by kernel_rfl⟩, rfl, ⟨_, Tryd.underlying23, by kernel_rfl, rfl⟩⟩
theorem tyF24 : TyF Tryd.prog 24 ⟨2, .st [(0, 1), (1, 1)], [.sl 3 1, .sl 3 1]⟩ :=
  ⟨⟨_, _, (by kernel_rfl : Tryd.prog.info? 24 = some ((Tryd.prog.info? 24).get (by kernel_rfl))), by kernel_rfl, (by kernel_rfl : _ = some (((Tryd.prog.info? 24).get (by kernel_rfl)).zero.get (by kernel_rfl))), by kernel_rfl⟩, rfl, ⟨_, Tryd.underlying24, by kernel_rfl, rfl⟩⟩
theorem tyF26 : TyF Tryd.prog 26 ⟨2, .st [(0, 1), (1, 1)], [.sl 3 1, .sl 3 1]⟩ :=
  ⟨⟨_, _, (by kernel_rfl : Tryd.prog.info? 26 = some ((Tryd.prog.info? 26).get (by kernel_rfl))), by kernel_rfl, (by kernel_rfl : _ = some (((Tryd.prog.info? 26).get (by kernel_rfl)).zero.get (by kernel_rfl))), by kernel_rfl⟩, rfl, ⟨_, Tryd.underlying26, by kernel_rfl, rfl⟩⟩
theorem tyF38 : TyF Tryd.prog 38 ⟨1, .sl 94 1 24, [.sl 94 1]⟩ :=
  ⟨⟨_, _, (by kernel_rfl : Tryd.prog.info? 38 = some ((Tryd.prog.info? 38).get (by kernel_rfl))), by kernel_rfl, (by kernel_rfl : _ = some (((Tryd.prog.info? 38).get (by kernel_rfl)).zero.get (by kernel_rfl))), by kernel_rfl⟩, rfl, ⟨Tryd.underlying38, _, _, (by kernel_rfl : Tryd.prog.info? 94 = some ((Tryd.prog.info? 94).get (by kernel_rfl))), by kernel_rfl, by kernel_rfl, (by kernel_rfl : _ = some (((Tryd.prog.info? 94).get (by kernel_rfl)).zero.get (by kernel_rfl))), by kernel_rfl, by decide⟩⟩
theorem tyF39 : TyF Tryd.prog 39 ⟨2, .st [(0, 1), (1, 1)], [.sl 94 1, .sl 94 1]⟩ :=
  ⟨⟨_, _, (by kernel_rfl : Tryd.prog.info? 39 = some ((Tryd.prog.info? 39).get (by kernel_rfl))), by kernel_rfl, (by kernel_rfl : _ = some (((Tryd.prog.info? 39).get (by kernel_rfl)).zero.get (by kernel_rfl))), by kernel_rfl⟩, rfl, ⟨_, Tryd.underlying39, by kernel_rfl, rfl⟩⟩
theorem tyF40 : TyF Tryd.prog 40 ⟨2, .st [(0, 1), (1, 1)], [.sl 94 1, .sl 94 1]⟩ :=
  ⟨⟨_, _, (by kernel_rfl : Tryd.prog.info? 40 = some ((Tryd.prog.info? 40).get (by kernel_rfl))), by kernel_rfl, (by kernel_rfl : _ = some (((Tryd.prog.info? 40).get (by kernel_rfl)).zero.get (by kernel_rfl))), by kernel_rfl⟩, rfl, ⟨_, Tryd.underlying40, by kernel_rfl, rfl⟩⟩
theorem tyF41 : TyF Tryd.prog 41 ⟨4, .st [(0, 2), (2, 2)], [.sl 3 1, .sl 3 1, .sl 94 1, .sl 94 1]⟩ :=
  ⟨⟨_, _, (by kernel_rfl : Tryd.prog.info? 41 = some ((Tryd.prog.info? 41).get (by kernel_rfl))), by kernel_rfl, (by kernel_rfl : _ = some (((Tryd.prog.info? 41).get (by kernel_rfl)).zero.get (by kernel_rfl))), by kernel_rfl⟩, rfl, ⟨_, Tryd.underlying41, by kernel_rfl, rfl⟩⟩
theorem tyF42 : TyF Tryd.prog 42 ⟨4, .st [(0, 2), (2, 2)], [.sl 3 1, .sl 3 1, .sl 94 1, .sl 94 1]⟩ :=
  ⟨⟨_, _, (by kernel_rfl : Tryd.prog.info? 42 = some ((Tryd.prog.info? 42).get (by kernel_rfl))), by kernel_rfl, (by kernel_rfl : _ = some (((Tryd.prog.info? 42).get (by kernel_rfl)).zero.get (by kernel_rfl))), by kernel_rfl⟩, rfl, ⟨_, Tryd.underlying42, by kernel_rfl, rfl⟩⟩
theorem tyF45 : TyF Tryd.prog 45 ⟨1, .sl 75 1 24, [.sl 75 1]⟩ :=
  ⟨⟨_, _, (by kernel_rfl : Tryd.prog.info? 45 = some ((Tryd.prog.info? 45).get (by kernel_rfl))), by kernel_rfl, (by kernel_rfl : _ = some (((Tryd.prog.info? 45).get (by kernel_rfl)).zero.get (by kernel_rfl))), by kernel_rfl⟩, rfl, ⟨Tryd.underlying45, _, _, (by kernel_rfl : Tryd.prog.info? 75 = some ((Tryd.prog.info? 75).get (by kernel_rfl))), by kernel_rfl, by kernel_rfl, (by kernel_rfl : _ = some (((Tryd.prog.info? 75).get (by kernel_rfl)).zero.get (by kernel_rfl))), by kernel_rfl, by decide⟩⟩
theorem tyF46 : TyF Tryd.prog 46 ⟨2, .st [(0, 1), (1, 1)], [.sl 75 1, .sl 75 1]⟩ :=
  ⟨⟨_, _, (by kernel_rfl : Tryd.prog.info? 46 = some ((Tryd.prog.info? 46).get (by kernel_rfl))), by kernel_rfl, (by kernel_rfl : _ = some (((Tryd.prog.info? 46).get (by kernel_rfl)).zero.get (by kernel_rfl))), by kernel_rfl⟩, rfl, ⟨_, Tryd.underlying46, by kernel_rfl, rfl⟩⟩
theorem tyF47 : TyF Tryd.prog 47 ⟨2, .st [(0, 1), (1, 1)], [.sl 75 1, .sl 75 1]⟩ :=
  ⟨⟨_, _, (by kernel_rfl : Tryd.prog.info? 47 = some ((Tryd.prog.info? 47).get (by kernel_rfl))), by kernel_rfl, (by kernel_rfl : _ = some (((Tryd.prog.info? 47).get (by kernel_rfl)).zero.get (by kernel_rfl))), by kernel_rfl⟩, rfl, ⟨_, Tryd.underlying47, by kernel_rfl, rfl⟩⟩
theorem tyF48 : TyF Tryd.prog 48 ⟨4, .st [(0, 2), (2, 2)], [.sl 3 1, .sl 3 1, .sl 75 1, .sl 75 1]⟩ :=
  ⟨⟨_, _, (by kernel_rfl : Tryd.prog.info? 48 = some ((Tryd.prog.info? 48).get (by kernel_rfl))), by kernel_rfl, (by kernel_rfl : _ = some (((Tryd.prog.info? 48).get (by kernel_rfl)).zero.get (by kernel_rfl))), by kernel_rfl⟩, rfl, ⟨_, Tryd.underlying48, by kernel_rfl, rfl⟩⟩
theorem tyF49 : TyF Tryd.prog 49 ⟨4, .st [(0, 2), (2, 2)], [.sl 3 1, .sl 3 1, .sl 75 1, .sl 75 1]⟩ :=
  ⟨⟨_, _, (by kernel_rfl : Tryd.prog.info? 49 = some ((Tryd.prog.info? 49).get (by kernel_rfl))), by kernel_rfl, (by kernel_rfl : _ = some (((Tryd.prog.info? 49).get (by kernel_rfl)).zero.get (by kernel_rfl))), by kernel_rfl⟩, rfl, ⟨_, Tryd.underlying49, by kernel_rfl, rfl⟩⟩
theorem tyF68 : TyF Tryd.prog 68 ⟨8, .arr 8 3 1, [.lit (.int .i64 0), .lit (.int .i64 0), .lit (.int .i64 0), .lit (.int .i64 0), .lit (.int .i64 0), .lit (.int .i64 0), .lit (.int .i64 0), .lit (.int .i64 0)]⟩ :=
  ⟨⟨_, _, (by kernel_rfl : Tryd.prog.info? 68 = some ((Tryd.prog.info? 68).get (by kernel_rfl))), by kernel_rfl, (by kernel_rfl : _ = some (((Tryd.prog.info? 68).get (by kernel_rfl)).zero.get (by kernel_rfl))), by kernel_rfl⟩, rfl, ⟨Tryd.underlying68, _, (by kernel_rfl : Tryd.prog.info? 3 = some ((Tryd.prog.info? 3).get (by kernel_rfl))), by kernel_rfl⟩⟩
theorem tyF74 : TyF Tryd.prog 74 ⟨1, .st [(0, 1)], [.sl 3 1]⟩ :=
  ⟨⟨_, _, (by kernel_rfl : Tryd.prog.info? 74 = some ((Tryd.prog.info? 74).get (by kernel_rfl))), by kernel_rfl, (by kernel_rfl : _ = some (((Tryd.prog.info? 74).get (by kernel_rfl)).zero.get (by kernel_rfl))), by kernel_rfl⟩, rfl, ⟨_, Tryd.underlying74, by kernel_rfl, rfl⟩⟩
theorem tyF75 : TyF Tryd.prog 75 ⟨1, .st [(0, 1)], [.sl 3 1]⟩ :=
  ⟨⟨_, _, (by kernel_rfl : Tryd.prog.info? 75 = some ((Tryd.prog.info? 75).get (by kernel_rfl))), by kernel_rfl, (by kernel_rfl : _ = some (((Tryd.prog.info? 75).get (by kernel_rfl)).zero.get (by kernel_rfl))), by kernel_rfl⟩, rfl, ⟨_, Tryd.underlying75, by kernel_rfl, rfl⟩⟩
theorem tyF91 : TyF Tryd.prog 91 ⟨1, .sc, [.lit (.int .u64 0)]⟩ :=
  ⟨⟨_, _, (by kernel_rfl : Tryd.prog.info? 91 = some ((Tryd.prog.info? 91).get (by kernel_rfl))), by kernel_rfl, (by kernel_rfl : _ = some (((Tryd.prog.info? 91).get (by kernel_rfl)).zero.get (by kernel_rfl))), by kernel_rfl⟩, rfl, ⟨_, Tryd.underlying91, rfl⟩⟩
theorem tyF92 : TyF Tryd.prog 92 ⟨1, .sl 5 1 1, [.sl 5 1]⟩ :=
  ⟨⟨_, _, (by kernel_rfl : Tryd.prog.info? 92 = some ((Tryd.prog.info? 92).get (by kernel_rfl))), by kernel_rfl, (by kernel_rfl : _ = some (((Tryd.prog.info? 92).get (by kernel_rfl)).zero.get (by kernel_rfl))), by kernel_rfl⟩, rfl, ⟨Tryd.underlying92, _, _, (by kernel_rfl : Tryd.prog.info? 5 = some ((Tryd.prog.info? 5).get (by kernel_rfl))), by kernel_rfl, by kernel_rfl, (by kernel_rfl : _ = some (((Tryd.prog.info? 5).get (by kernel_rfl)).zero.get (by kernel_rfl))), by kernel_rfl, by decide⟩⟩
theorem tyF94 : TyF Tryd.prog 94 ⟨1, .st [(0, 1)], [.sl 3 1]⟩ :=
  ⟨⟨_, _, (by kernel_rfl : Tryd.prog.info? 94 = some ((Tryd.prog.info? 94).get (by kernel_rfl))), by kernel_rfl, (by kernel_rfl : _ = some (((Tryd.prog.info? 94).get (by kernel_rfl)).zero.get (by kernel_rfl))), by kernel_rfl⟩, rfl, ⟨_, Tryd.underlying94, by kernel_rfl, rfl⟩⟩
theorem tyF96 : TyF Tryd.prog 96 ⟨24, .arr 24 4 1, [.lit (.bool false), .lit (.bool false), .lit (.bool false), .lit (.bool false), .lit (.bool false), .lit (.bool false), .lit (.bool false), .lit (.bool false), .lit (.bool false), .lit (.bool false), .lit (.bool false), .lit (.bool false), .lit (.bool false), .lit (.bool false), .lit (.bool false), .lit (.bool false), .lit (.bool false), .lit (.bool false), .lit (.bool false), .lit (.bool false), .lit (.bool false), .lit (.bool false), .lit (.bool false), .lit (.bool false)]⟩ :=
  ⟨⟨_, _, (by kernel_rfl : Tryd.prog.info? 96 = some ((Tryd.prog.info? 96).get (by kernel_rfl))), by kernel_rfl, (by kernel_rfl : _ = some (((Tryd.prog.info? 96).get (by kernel_rfl)).zero.get (by kernel_rfl))), by kernel_rfl⟩, rfl, ⟨Tryd.underlying96, _, (by kernel_rfl : Tryd.prog.info? 4 = some ((Tryd.prog.info? 4).get (by kernel_rfl))), by kernel_rfl⟩⟩
theorem tyF99 : TyF Tryd.prog 99 ⟨3, .arr 3 3 1, [.lit (.int .i64 0), .lit (.int .i64 0), .lit (.int .i64 0)]⟩ :=
  ⟨⟨_, _, (by kernel_rfl : Tryd.prog.info? 99 = some ((Tryd.prog.info? 99).get (by kernel_rfl))), by kernel_rfl, (by kernel_rfl : _ = some (((Tryd.prog.info? 99).get (by kernel_rfl)).zero.get (by kernel_rfl))), by kernel_rfl⟩, rfl, ⟨Tryd.underlying99, _, (by kernel_rfl : Tryd.prog.info? 3 = some ((Tryd.prog.info? 3).get (by kernel_rfl))), by kernel_rfl⟩⟩
theorem tyF100 : TyF Tryd.prog 100 ⟨1, .sl 45 1 24, [.sl 45 1]⟩ :=
  ⟨⟨_, _, (by kernel_rfl : Tryd.prog.info? 100 = some ((Tryd.prog.info? 100).get (by kernel_rfl))), by kernel_rfl, (by kernel_rfl : _ = some (((Tryd.prog.info? 100).get (by kernel_rfl)).zero.get (by kernel_rfl))), by kernel_rfl⟩, rfl, ⟨Tryd.underlying100, _, _, (by kernel_rfl : Tryd.prog.info? 45 = some ((Tryd.prog.info? 45).get (by kernel_rfl))), by kernel_rfl, by kernel_rfl, (by kernel_rfl : _ = some (((Tryd.prog.info? 45).get (by kernel_rfl)).zero.get (by kernel_rfl))), by kernel_rfl, by decide⟩⟩
theorem tyF109 : TyF Tryd.prog 109 ⟨1, .sc, [.lit (.int .u32 0)]⟩ :=
  ⟨⟨_, _, (by kernel_rfl : Tryd.prog.info? 109 = some ((Tryd.prog.info? 109).get (by kernel_rfl))), by kernel_rfl, (by kernel_rfl : _ = some (((Tryd.prog.info? 109).get (by kernel_rfl)).zero.get (by kernel_rfl))), by kernel_rfl⟩, rfl, ⟨_, Tryd.underlying109, rfl⟩⟩
theorem tyF110 : TyF Tryd.prog 110 ⟨1, .sc, [.lit (.int .u8 0)]⟩ :=
  ⟨⟨_, _, (by kernel_rfl : Tryd.prog.info? 110 = some ((Tryd.prog.info? 110).get (by kernel_rfl))), by kernel_rfl, (by kernel_rfl : _ = some (((Tryd.prog.info? 110).get (by kernel_rfl)).zero.get (by kernel_rfl))), by kernel_rfl⟩, rfl, ⟨_, Tryd.underlying110, rfl⟩⟩
theorem tyF111 : TyF Tryd.prog 111 ⟨1, .sc, [.lit (.int .u8 0)]⟩ :=
  ⟨⟨_, _, (by kernel_rfl : Tryd.prog.info? 111 = some ((Tryd.prog.info? 111).get (by kernel_rfl))), by kernel_rfl, (by kernel_rfl : _ = some (((Tryd.prog.info? 111).get (by kernel_rfl)).zero.get (by kernel_rfl))), by kernel_rfl⟩, rfl, ⟨_, Tryd.underlying111, rfl⟩⟩
theorem tyF114 : TyF Tryd.prog 114 ⟨1, .sc, [.lit (.int .i32 0)]⟩ :=
  ⟨⟨_, _, (by kernel_rfl : Tryd.prog.info? 114 = some ((Tryd.prog.info? 114).get (by kernel_rfl))), by kernel_rfl, (by kernel_rfl : _ = some (((Tryd.prog.info? 114).get (by kernel_rfl)).zero.get (by kernel_rfl))), by kernel_rfl⟩, rfl, ⟨_, Tryd.underlying114, rfl⟩⟩
theorem tyF115 : TyF Tryd.prog 115 ⟨1, .sc, [.lit (.int .i32 0)]⟩ :=
  ⟨⟨_, _, (by kernel_rfl : Tryd.prog.info? 115 = some ((Tryd.prog.info? 115).get (by kernel_rfl))), by kernel_rfl, (by kernel_rfl : _ = some (((Tryd.prog.info? 115).get (by kernel_rfl)).zero.get (by kernel_rfl))), by kernel_rfl⟩, rfl, ⟨_, Tryd.underlying115, rfl⟩⟩
theorem tyOk : TOk Tryd.prog tyT := by
  intro t i h
  unfold tyT at h
  split at h
  · injection h with h; subst h; exact tyF2
  · injection h with h; subst h; exact tyF3
  · injection h with h; subst h; exact tyF4
  · injection h with h; subst h; exact tyF5
  · injection h with h; subst h; exact tyF6
  · injection h with h; subst h; exact tyF7
  · injection h with h; subst h; exact tyF8
  · injection h with h; subst h; exact tyF12
  · injection h with h; subst h; exact tyF21
  · injection h with h; subst h; exact tyF22
  · injection h with h; subst h; exact tyF23
  · injection h with h; subst h; exact tyF24
  · injection h with h; subst h; exact tyF26
  · injection h with h; subst h; exact tyF38
  · injection h with h; subst h; exact tyF39
  · injection h with h; subst h; exact tyF40
  · injection h with h; subst h; exact tyF41
  · injection h with h; subst h; exact tyF42
  · injection h with h; subst h; exact tyF45
  · injection h with h; subst h; exact tyF46
  · injection h with h; subst h; exact tyF47
  · injection h with h; subst h; exact tyF48
  · injection h with h; subst h; exact tyF49
  · injection h with h; subst h; exact tyF68
  · injection h with h; subst h; exact tyF74
  · injection h with h; subst h; exact tyF75
  · injection h with h; subst h; exact tyF91
  · injection h with h; subst h; exact tyF92
  · injection h with h; subst h; exact tyF94
  · injection h with h; subst h; exact tyF96
  · injection h with h; subst h; exact tyF99
  · injection h with h; subst h; exact tyF100
  · injection h with h; subst h; exact tyF109
  · injection h with h; subst h; exact tyF110
  · injection h with h; subst h; exact tyF111
  · injection h with h; subst h; exact tyF114
  · injection h with h; subst h; exact tyF115
  · cases h
end Go.Proofs.YtbfkdbbgbdihdacDoor

