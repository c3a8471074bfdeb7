/- The types of the program that the proofs speak of. -/
import Derived.Test.YtbfkdbbgbdihdabProg
import Derived.Test.YtbfkdbbgbdihdabTrc
import Derived.KernelRfl
namespace Go.Proofs.Ytbfkdbbgbdihdab
open Go Go.Tr
set_option linter.unusedVariables false
set_option linter.unusedSimpArgs false
set_option maxRecDepth 100000
def tyT : Nat → Option TyI
  | 2 => some ⟨1, .sc, [.lit (.int .i64 0)]⟩
  | 3 => some ⟨1, .sc, [.lit (.int .i64 0)]⟩
  | 4 => some ⟨1, .sc, [.lit (.bool false)]⟩
  | 5 => some ⟨1, .sc, [.lit (.int .u8 0)]⟩
  | 6 => some ⟨1, .sc, [.lit (.int .u8 0)]⟩
  | 7 => some ⟨4, .st [(0, 1), (1, 1), (2, 1), (3, 1)], [.lit (.int .i64 0), .lit (.int .i64 0), .lit (.bool false), .lit (.int .u8 0)]⟩
  | 8 => some ⟨4, .st [(0, 1), (1, 1), (2, 1), (3, 1)], [.lit (.int .i64 0), .lit (.int .i64 0), .lit (.bool false), .lit (.int .u8 0)]⟩
  | 12 => some ⟨1, .sc, [.lit (.int .u64 0)]⟩
  | 21 => some ⟨1, .sc, [.lit (.int .i32 0)]⟩
  | 22 => some ⟨1, .sl 72 1 24, [.sl 72 1]⟩
  | 23 => some ⟨2, .st [(0, 1), (1, 1)], [.sl 72 1, .sl 72 1]⟩
  | 24 => some ⟨2, .st [(0, 1), (1, 1)], [.sl 72 1, .sl 72 1]⟩
  | 27 => some ⟨1, .sl 52 1 24, [.sl 52 1]⟩
  | 28 => some ⟨2, .st [(0, 1), (1, 1)], [.sl 52 1, .sl 52 1]⟩
  | 29 => some ⟨2, .st [(0, 1), (1, 1)], [.sl 52 1, .sl 52 1]⟩
  | 43 => some ⟨1, .sl 3 1 8, [.sl 3 1]⟩
  | 44 => some ⟨2, .st [(0, 1), (1, 1)], [.sl 3 1, .sl 3 1]⟩
  | 45 => some ⟨2, .st [(0, 1), (1, 1)], [.sl 3 1, .sl 3 1]⟩
  | 51 => some ⟨1, .st [(0, 1)], [.sl 3 1]⟩
  | 52 => some ⟨1, .st [(0, 1)], [.sl 3 1]⟩
  | 72 => some ⟨1, .st [(0, 1)], [.sl 3 1]⟩
  | 74 => some ⟨24, .arr 24 4 1, [.lit (.bool false), .lit (.bool false), .lit (.bool false), .lit (.bool false), .lit (.bool false), .lit (.bool false), .lit (.bool false), .lit (.bool false), .lit (.bool false), .lit (.bool false), .lit (.bool false), .lit (.bool false), .lit (.bool false), .lit (.bool false), .lit (.bool false), .lit (.bool false), .lit (.bool false), .lit (.bool false), .lit (.bool false), .lit (.bool false), .lit (.bool false), .lit (.bool false), .lit (.bool false), .lit (.bool false)]⟩
  | 76 => some ⟨1, .sl 27 1 24, [.sl 27 1]⟩
  | 79 => some ⟨1, .sc, [.lit (.int .u64 0)]⟩
  | 83 => some ⟨1, .sc, [.lit (.int .u32 0)]⟩
  | 86 => some ⟨1, .sc, [.lit (.int .u64 0)]⟩
  | 96 => some ⟨1, .sc, [.lit (.int .u8 0)]⟩
  | 97 => some ⟨1, .sc, [.lit (.int .u8 0)]⟩
  | 100 => some ⟨1, .sc, [.lit (.int .i32 0)]⟩
  | 101 => some ⟨1, .sc, [.lit (.int .i32 0)]⟩
  | _ => none
theorem tyF2 : TyF Try.prog 2 ⟨1, .sc, [.lit (.int .i64 0)]⟩ :=
  ⟨⟨_, _, (by kernel_rfl : Try.prog.info? 2 = some ((Try.prog.info? 2).get (by kernel_rfl))), by kernel_rfl, (by kernel_rfl : _ = some (((Try.prog.info? 2).get (by kernel_rfl)).zero.get (by kernel_rfl))), by kernel_rfl⟩, rfl, ⟨_, Try.underlying2, rfl⟩⟩
theorem tyF3 : TyF Try.prog 3 ⟨1, .sc, [.lit (.int .i64 0)]⟩ :=
  ⟨⟨_, _, (by kernel_rfl : Try.prog.info? 3 = some ((Try.prog.info? 3).get (by kernel_rfl))), by kernel_rfl, (by kernel_rfl : _ = some (((Try.prog.info? 3).get (by kernel_rfl)).zero.get (by kernel_rfl))), by kernel_rfl⟩, rfl, ⟨_, Try.underlying3, rfl⟩⟩
theorem tyF4 : TyF Try.prog 4 ⟨1, .sc, [.lit (.bool false)]⟩ :=
  ⟨⟨_, _, (by kernel_rfl : Try.prog.info? 4 = some ((Try.prog.info? 4).get (by kernel_rfl))), by kernel_rfl, (by kernel_rfl : _ = some (((Try.prog.info? 4).get (by kernel_rfl)).zero.get (by kernel_rfl))), by kernel_rfl⟩, rfl, ⟨_, Try.underlying4, rfl⟩⟩
theorem tyF5 : TyF Try.prog 5 ⟨1, .sc, [.lit (.int .u8 0)]⟩ :=
  ⟨⟨_, _, (by kernel_rfl : Try.prog.info? 5 = some ((Try.prog.info? 5).get (by kernel_rfl))), by kernel_rfl, (by kernel_rfl : _ = some (((Try.prog.info? 5).get (by kernel_rfl)).zero.get (by kernel_rfl))), by kernel_rfl⟩, rfl, ⟨_, Try.underlying5, rfl⟩⟩
theorem tyF6 : TyF Try.prog 6 ⟨1, .sc, [.lit (.int .u8 0)]⟩ :=
  ⟨⟨_, _, (by kernel_rfl : Try.prog.info? 6 = some ((Try.prog.info? 6).get (by kernel_rfl))), by kernel_rfl, (by kernel_rfl : _ = some (((Try.prog.info? 6).get (by kernel_rfl)).zero.get (by kernel_rfl))), by kernel_rfl⟩, rfl, ⟨_, Try.underlying6, rfl⟩⟩
theorem tyF7 : TyF Try.prog 7 ⟨4, .st [(0, 1), (1, 1), (2, 1), (3, 1)], [.lit (.int .i64 0), .lit (.int .i64 0), .lit (.bool false), .lit (.int .u8 0)]⟩ :=
  ⟨⟨_, _, (by kernel_rfl : Try.prog.info? 7 = some ((Try.prog.info? 7).get (by kernel_rfl))), by kernel_rfl, (by kernel_rfl : _ = some (((Try.prog.info? 7).get (by kernel_rfl)).zero.get (by kernel_rfl))), by kernel_rfl⟩, rfl, ⟨_, Try.underlying7, by kernel_rfl, rfl⟩⟩
theorem tyF8 : TyF Try.prog 8 ⟨4, .st [(0, 1), (1, 1), (2, 1), (3, 1)], [.lit (.int .i64 0), .lit (.int .i64 0), .lit (.bool false), .lit (.int .u8 0)]⟩ :=
  ⟨⟨_, _, (by kernel_rfl : Try.prog.info? 8 = some ((Try.prog.info? 8).get (by kernel_rfl))), by kernel_rfl, (by kernel_rfl : _ = some (((Try.prog.info? 8).get (by kernel_rfl)).zero.get (by kernel_rfl))), by kernel_rfl⟩, rfl, ⟨_, Try.underlying8, by kernel_rfl, rfl⟩⟩
theorem tyF12 : TyF Try.prog 12 ⟨1, .sc, [.lit (.int .u64 0)]⟩ :=
  ⟨⟨_, _, (by kernel_rfl : Try.prog.info? 12 = some ((Try.prog.info? 12).get (by kernel_rfl))), by kernel_rfl, (by kernel_rfl : _ = some (((Try.prog.info? 12).get (by kernel_rfl)).zero.get (by kernel_rfl))), by kernel_rfl⟩, rfl, ⟨_, Try.underlying12, rfl⟩⟩
theorem tyF21 : TyF Try.prog 21 ⟨1, .sc, [.lit (.int .i32 0)]⟩ :=
  ⟨⟨_, _, (by kernel_rfl : Try.prog.info? 21 = some ((Try.prog.info? 21).get (by kernel_rfl))), by kernel_rfl, (by kernel_rfl : _ = some (((Try.prog.info? 21).get (by kernel_rfl)).zero.get (by kernel_rfl))), by kernel_rfl⟩, rfl, ⟨_, Try.underlying21, rfl⟩⟩
theorem tyF22 : TyF Try.prog 22 ⟨1, .sl 72 1 24, [.sl 72 1]⟩ :=
  ⟨⟨_, _, (by kernel_rfl : Try.prog.info? 22 = some ((Try.prog.info? 22).get (by kernel_rfl))), by kernel_rfl, (by kernel_rfl : _ = some (((Try.prog.info? 22).get (by kernel_rfl)).zero.get (by kernel_rfl))), by kernel_rfl⟩, rfl, ⟨Try.underlying22, _, _, (by kernel_rfl : Try.prog.info? 72 = some ((Try.prog.info? 72).get (by kernel_rfl))), by kernel_rfl, by kernel_rfl, (by kernel_rfl : _ = some (((Try.prog.info? 72).get (by kernel_rfl)).zero.get (by kernel_rfl))), by kernel_rfl, by decide⟩⟩
theorem tyF23 : TyF Try.prog 23 ⟨2, .st [(0, 1), (1, 1)], [.sl 72 1, .sl 72 1]⟩ :=
  ⟨⟨_, _, (by kernel_rfl : Try.prog.info? 23 = some ((Try.prog.info? 23).get (by kernel_rfl))), by kernel_rfl, (by kernel_rfl : _ = some (((Try.prog.info? 23).get (by kernel_rfl)).zero.get (by kernel_rfl))), by kernel_rfl⟩, rfl, ⟨_, Try.underlying23, by kernel_rfl, rfl⟩⟩
theorem tyF24 : TyF Try.prog 24 ⟨2, .st [(0, 1), (1, 1)], [.sl 72 1, .sl 72 1]⟩ :=
  ⟨⟨_, _, (by kernel_rfl : Try.prog.info? 24 = some ((Try.prog.info? 24).get (by kernel_rfl))), by kernel_rfl, (by kernel_rfl : _ = some (((Try.prog.info? 24).get (by kernel_rfl)).zero.get (by kernel_rfl))), by kernel_rfl⟩, rfl, ⟨_, Try.underlying24, by kernel_rfl, rfl⟩⟩
theorem tyF27 : TyF Try.prog 27 ⟨1, .sl 52 1 24, [.sl 52 1]⟩ :=
  ⟨⟨_, _, (by kernel_rfl : Try.prog.info? 27 = some ((Try.prog.info? 27).get (by kernel_rfl))), by kernel_rfl, (by kernel_rfl : _ = some (((Try.prog.info? 27).get (by kernel_rfl)).zero.get (by kernel_rfl))), by kernel_rfl⟩, rfl, ⟨Try.underlying27, _, _, (by kernel_rfl : Try.prog.info? 52 = some ((Try.prog.info? 52).get (by kernel_rfl))), by kernel_rfl, by kernel_rfl, (by kernel_rfl : _ = some (((Try.prog.info? 52).get (by kernel_rfl)).zero.get (by kernel_rfl))), by kernel_rfl, by decide⟩⟩
theorem tyF28 : TyF Try.prog 28 ⟨2, .st [(0, 1), (1, 1)], [.sl 52 1, .sl 52 1]⟩ :=
  ⟨⟨_, _, (by kernel_rfl : Try.prog.info? 28 = some ((Try.prog.info? 28).get (by kernel_rfl))), by kernel_rfl, (by kernel_rfl : _ = some (((Try.prog.info? 28).get (by kernel_rfl)).zero.get (by kernel_rfl))), by kernel_rfl⟩, rfl, ⟨_, Try.underlying28, by kernel_rfl, rfl⟩⟩
theorem tyF29 : TyF Try.prog 29 ⟨2, .st [(0, 1), (1, 1)], [.sl 52 1, .sl 52 1]⟩ :=
  ⟨⟨_, _, (by kernel_rfl : Try.prog.info? 29 = some ((Try.prog.info? 29).get (by kernel_rfl))), by kernel_rfl, (by kernel_rfl : _ = some (((Try.prog.info? 29).get (by kernel_rfl)).zero.get (by kernel_rfl))), by kernel_rfl⟩, rfl, ⟨_, Try.underlying29, by kernel_rfl, rfl⟩⟩
theorem tyF43 : TyF Try.prog 43 ⟨1, .sl 3 1 8, [.sl 3 1]⟩ :=
  ⟨⟨_, _, (by kernel_rfl : Try.prog.info? 43 = some ((Try.prog.info? 43).get (by kernel_rfl))), by kernel_rfl, (by kernel_rfl : _ = some (((Try.prog.info? 43).get (by kernel_rfl)).zero.get (by kernel_rfl))), by kernel_rfl⟩, rfl, ⟨Try.underlying43, _, _, (by kernel_rfl : Try.prog.info? 3 = some ((Try.prog.info? 3).get (by kernel_rfl))), by kernel_rfl, by kernel_rfl, (by kernel_rfl : _ = some (((Try.prog.info? 3).get (by kernel_rfl)).zero.get (by kernel_rfl))), by kernel_rfl, by decide⟩⟩
theorem tyF44 : TyF Try.prog 44 ⟨2, .st [(0, 1), (1, 1)], [.sl 3 1, .sl 3 1]⟩ :=
  ⟨⟨_, _, (by kernel_rfl : Try.prog.info? 44 = some ((Try.prog.info? 44).get (by kernel_rfl))), by kernel_rfl, (by kernel_rfl : _ = some (((Try.prog.info? 44).get (by kernel_rfl)).zero.get (by kernel_rfl))), by kernel_rfl⟩, rfl, ⟨_, Try.underlying44, by kernel_rfl, rfl⟩⟩
theorem tyF45 : TyF Try.prog 45 ⟨2, .st [(0, 1), (1, 1)], [.sl 3 1, .sl 3 1]⟩ :=
  ⟨⟨_, _, (by kernel_rfl : Try.prog.info? 45 = some ((Try.prog.info? 45).get (by kernel_rfl))), by kernel_rfl, (by kernel_rfl : _ = some (((Try.prog.info? 45).get (by kernel_rfl)).zero.get (by kernel_rfl))), by kernel_rfl⟩, rfl, ⟨_, Try.underlying45, by kernel_rfl, rfl⟩⟩
theorem tyF51 : TyF Try.prog 51 ⟨1, .st [(0, 1)], [.sl 3 1]⟩ :=
  ⟨⟨_, _, (by kernel_rfl : Try.prog.info? 51 = some ((Try.prog.info? 51).get (by kernel_rfl))), by kernel_rfl, (by kernel_rfl : _ = some (((Try.prog.info? 51).get (by kernel_rfl)).zero.get (by kernel_rfl))), by kernel_rfl⟩, rfl, ⟨_, Try.underlying51, by kernel_rfl, rfl⟩⟩
theorem tyF52 : TyF Try.prog 52 ⟨1, .st [(0, 1)], [.sl 3 1]⟩ :=
  ⟨⟨_, _, (by kernel_rfl : Try.prog.info? 52 = some ((Try.prog.info? 52).get (by kernel_rfl))), by kernel_rfl, (by kernel_rfl : _ = some (((Try.prog.info? 52).get (by kernel_rfl)).zero.get (by kernel_rfl))), by kernel_rfl⟩, rfl, ⟨_, Try.underlying52, by kernel_rfl, rfl⟩⟩
theorem tyF72 : TyF Try.prog 72 ⟨1, .st [(0, 1)], [.sl 3 1]⟩ :=
  ⟨⟨_, _, (by kernel_rfl : Try.prog.info? 72 = some ((Try.prog.info? 72).get (by kernel_rfl))), by kernel_rfl, (by kernel_rfl : _ = some (((Try.prog.info? 72).get (by kernel_rfl)).zero.get (by kernel_rfl))), by kernel_rfl⟩, rfl, ⟨_, Try.underlying72, by kernel_rfl, rfl⟩⟩
theorem tyF74 : TyF Try.prog 74 ⟨24, .arr 24 4 1, [.lit (.bool false), .lit (.bool false), .lit (.bool false), .lit (.bool false), .lit (.bool false), .lit (.bool false), .lit (.bool false), .lit (.bool false), .lit (.bool false), .lit (.bool false), .lit (.bool false), .lit (.bool false), .lit (.bool false), .lit (.bool false), .lit (.bool false), .lit (.bool false), .lit (.bool false), .lit (.bool false), .lit (.bool false), .lit (.bool false), .lit (.bool false), .lit (.bool false), .lit (.bool false), .lit (.bool false)]⟩ :=
  ⟨⟨_, _, (by kernel_rfl : Try.prog.info? 74 = some ((Try.prog.info? 74).get (by kernel_rfl))), by kernel_rfl, (by kernel_rfl : _ = some (((Try.prog.info? 74).get (by kernel_rfl)).zero.get (by kernel_rfl))), by kernel_rfl⟩, rfl, ⟨Try.underlying74, _, (by kernel_rfl : Try.prog.info? 4 = some ((Try.prog.info? 4).get (by kernel_rfl))), by kernel_rfl⟩⟩
theorem tyF76 : TyF Try.prog 76 ⟨1, .sl 27 1 24, [.sl 27 1]⟩ :=
  ⟨⟨_, _, (by kernel_rfl : Try.prog.info? 76 = some ((Try.prog.info? 76).get (by kernel_rfl))), by kernel_rfl, (by kernel_rfl : _ = some (((Try.prog.info? 76).get (by kernel_rfl)).zero.get (by kernel_rfl))), by kernel_rfl⟩, rfl, ⟨Try.underlying76, _, _, (by kernel_rfl : Try.prog.info? 27 = some ((Try.prog.info? 27).get (by kernel_rfl))), by kernel_rfl, by kernel_rfl, (by kernel_rfl : _ = some (((Try.prog.info? 27).get (by kernel_rfl)).zero.get (by kernel_rfl))), by kernel_rfl, by decide⟩⟩
theorem tyF79 : TyF Try.prog 79 ⟨1, .sc, [.lit (.int .u64 0)]⟩ :=
  ⟨⟨_, _, (by kernel_rfl : Try.prog.info? 79 = some ((Try.prog.info? 79).get (by kernel_rfl))), by kernel_rfl, (by kernel_rfl : _ = some (((Try.prog.info? 79).get (by kernel_rfl)).zero.get (by kernel_rfl))), by kernel_rfl⟩, rfl, ⟨_, Try.underlying79, rfl⟩⟩
theorem tyF83 : TyF Try.prog 83 ⟨1, .sc, [.lit (.int .u32 0)]⟩ :=
  ⟨⟨_, _, (by kernel_rfl : Try.prog.info? 83 = some ((Try.prog.info? 83).get (by kernel_rfl))), by kernel_rfl, (by kernel_rfl : _ = some (((Try.prog.info? 83).get (by kernel_rfl)).zero.get (by kernel_rfl))), by kernel_rfl⟩, rfl, ⟨_, Try.underlying83, rfl⟩⟩
theorem tyF86 : TyF Try.prog 86 ⟨1, .sc, [.lit (.int .u64 0)]⟩ :=
  ⟨⟨_, _, (by kernel_rfl : Try.prog.info? 86 = some ((Try.prog.info? 86).get (by kernel_rfl))), by kernel_rfl, (by kernel_rfl : _ = some (((Try.prog.info? 86).get (by kernel_rfl)).zero.get (by kernel_rfl))), by kernel_rfl⟩, rfl, ⟨_, Try.underlying86, rfl⟩⟩
theorem tyF96 : TyF Try.prog 96 ⟨1, .sc, [.lit (.int .u8 0)]⟩ :=
  ⟨⟨_, _, (by kernel_rfl : Try.prog.info? 96 = some ((Try.prog.info? 96).get (by kernel_rfl))), by kernel_rfl, (by kernel_rfl : _ = some (((Try.prog.info? 96).get (by kernel_rfl)).zero.get (by kernel_rfl))), by kernel_rfl⟩, rfl, ⟨_, Try.underlying96, rfl⟩⟩
theorem tyF97 : TyF Try.prog 97 ⟨1, .sc, [.lit (.int .u8 0)]⟩ :=
  ⟨⟨_, _, (by kernel_rfl : Try.prog.info? 97 = some ((Try.prog.info? 97).get (by kernel_rfl))), by kernel_rfl, (by kernel_rfl : _ = some (((Try.prog.info? 97).get (by kernel_rfl)).zero.get (by kernel_rfl))), by kernel_rfl⟩, rfl, ⟨_, Try.underlying97, rfl⟩⟩
theorem tyF100 : TyF Try.prog 100 ⟨1, .sc, [.lit (.int .i32 0)]⟩ :=
  ⟨⟨_, _, (by kernel_rfl : Try.prog.info? 100 = some ((Try.prog.info? 100).get (by kernel_rfl))), by kernel_rfl, (by kernel_rfl : _ = some (((Try.prog.info? 100).get (by kernel_rfl)).zero.get (by kernel_rfl))), by kernel_rfl⟩, rfl, ⟨_, Try.underlying100, rfl⟩⟩
theorem tyF101 : TyF Try.prog 101 ⟨1, .sc, [.lit (.int .i32 0)]⟩ :=
  ⟨⟨_, _, (by kernel_rfl : Try.prog.info? 101 = some ((Try.prog.info? 101).get (by kernel_rfl))), by kernel_rfl, (by kernel_rfl : _ = some (((Try.prog.info? 101).get (by kernel_rfl)).zero.get (by kernel_rfl))), by kernel_rfl⟩, rfl, ⟨_, Try.underlying101, rfl⟩⟩
theorem tyOk : TOk Try.prog tyT := by
  intro t i h
  unfold tyT at h
  split at h
  · injection h with h; subst h; exact tyF2
  · injection h with h; subst h; exact tyF3
  · injection h with h; subst h; exact tyF4
  · injection h with h; subst h; exact tyF5
  · injection h with h; subst h; exact tyF6
  · injection h with h; subst h; exact tyF7
  · injection h with h; subst h; exact tyF8
  · injection h with h; subst h; exact tyF12
  · injection h with h; subst h; exact tyF21
  · injection h with h; subst h; exact tyF22
  · injection h with h; subst h; exact tyF23
  · injection h with h; subst h; exact tyF24
  · injection h with h; subst h; exact tyF27
  · injection h with h; subst h; exact tyF28
  · injection h with h; subst h; exact tyF29
  · injection h with h; subst h; exact tyF43
  · injection h with h; subst h; exact tyF44
  · injection h with h; subst h; exact tyF45
  · injection h with h; subst h; exact tyF51
  · injection h with h; subst h; exact tyF52
  · injection h with h; subst h; exact tyF72
  · injection h with h; subst h; exact tyF74
  · injection h with h; subst h; exact tyF76
  · injection h with h; subst h; exact tyF79
  · injection h with h; subst h; exact tyF83
  · injection h with h; subst h; exact tyF86
  · injection h with h; subst h; exact tyF96
  · injection h with h; subst h; exact tyF97
  · injection h with h; subst h; exact tyF100
  · injection h with h; subst h; exact tyF101
  · cases h
end Go.Proofs.Ytbfkdbbgbdihdab

