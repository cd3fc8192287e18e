/- Contracts of functions, walked. -/
import Derived.Test.YtgddlpegljkgpaaStS2b
set_option linter.all false
namespace Go.Proofs.Try
open Go Go.Am Go.RowKit
set_option maxRecDepth 100000

/-! Building structs. -/
section
variable {H : AHeap} {β : Type} {kk : K β}
theorem st7 : structOk Try.prog 7 = true := by kernel_rfl
@[go_sem] theorem bu7 {parts : List (Nat × Value)} : aBuild Try.prog 7 parts H kk = match fillB Try.prog 7 [.int .i64 0, .int .i64 0, .bool false, .int .u8 0] parts with
    | some l => if l.all oneV = true then kk (.agg l.toArray) H else none
    | none => none := aBuild_struct st7 ze7
theorem st8 : structOk Try.prog 8 = true := by kernel_rfl
@[go_sem] theorem bu8 {parts : List (Nat × Value)} : aBuild Try.prog 8 parts H kk = match fillB Try.prog 8 [.int .i64 0, .int .i64 0, .bool false, .int .u8 0] parts with
    | some l => if l.all oneV = true then kk (.agg l.toArray) H else none
    | none => none := aBuild_struct st8 ze8
theorem st14 : structOk Try.prog 14 = true := by kernel_rfl
@[go_sem] theorem bu14 {parts : List (Nat × Value)} : aBuild Try.prog 14 parts H kk = match fillB Try.prog 14 [.string ⟨#[]⟩, .int .u64 0] parts with
    | some l => if l.all oneV = true then kk (.agg l.toArray) H else none
    | none => none := aBuild_struct st14 ze14
theorem st19 : structOk Try.prog 19 = true := by kernel_rfl
@[go_sem] theorem bu19 {parts : List (Nat × Value)} : aBuild Try.prog 19 parts H kk = match fillB Try.prog 19 [.pointer none] parts with
    | some l => if l.all oneV = true then kk (.agg l.toArray) H else none
    | none => none := aBuild_struct st19 ze19
theorem st25 : structOk Try.prog 25 = true := by kernel_rfl
@[go_sem] theorem bu25 {parts : List (Nat × Value)} : aBuild Try.prog 25 parts H kk = match fillB Try.prog 25 [.slice none 0 0, .slice none 0 0] parts with
    | some l => if l.all oneV = true then kk (.agg l.toArray) H else none
    | none => none := aBuild_struct st25 ze25
theorem st27 : structOk Try.prog 27 = true := by kernel_rfl
@[go_sem] theorem bu27 {parts : List (Nat × Value)} : aBuild Try.prog 27 parts H kk = match fillB Try.prog 27 [.slice none 0 0, .int .i64 0, .int .i64 0, .int .i64 0] parts with
    | some l => if l.all oneV = true then kk (.agg l.toArray) H else none
    | none => none := aBuild_struct st27 ze27
theorem st35 : structOk Try.prog 35 = true := by kernel_rfl
@[go_sem] theorem bu35 {parts : List (Nat × Value)} : aBuild Try.prog 35 parts H kk = match fillB Try.prog 35 [.slice none 0 0, .int .i64 0] parts with
    | some l => if l.all oneV = true then kk (.agg l.toArray) H else none
    | none => none := aBuild_struct st35 ze35
theorem st41 : structOk Try.prog 41 = true := by kernel_rfl
@[go_sem] theorem bu41 {parts : List (Nat × Value)} : aBuild Try.prog 41 parts H kk = match fillB Try.prog 41 [.slice none 0 0, .int .i64 0] parts with
    | some l => if l.all oneV = true then kk (.agg l.toArray) H else none
    | none => none := aBuild_struct st41 ze41
theorem st51 : structOk Try.prog 51 = true := by kernel_rfl
@[go_sem] theorem bu51 {parts : List (Nat × Value)} : aBuild Try.prog 51 parts H kk = match fillB Try.prog 51 [.slice none 0 0, .slice none 0 0, .int .i64 0] parts with
    | some l => if l.all oneV = true then kk (.agg l.toArray) H else none
    | none => none := aBuild_struct st51 ze51
theorem st61 : structOk Try.prog 61 = true := by kernel_rfl
@[go_sem] theorem bu61 {parts : List (Nat × Value)} : aBuild Try.prog 61 parts H kk = match fillB Try.prog 61 [.int .i64 0, .int .i64 0, .int .i64 0, .int .i64 0, .int .i64 0, .int .i64 0] parts with
    | some l => if l.all oneV = true then kk (.agg l.toArray) H else none
    | none => none := aBuild_struct st61 ze61
theorem st65 : structOk Try.prog 65 = true := by kernel_rfl
@[go_sem] theorem bu65 {parts : List (Nat × Value)} : aBuild Try.prog 65 parts H kk = match fillB Try.prog 65 [.slice none 0 0, .slice none 0 0, .int .i64 0] parts with
    | some l => if l.all oneV = true then kk (.agg l.toArray) H else none
    | none => none := aBuild_struct st65 ze65
theorem st104 : structOk Try.prog 104 = true := by kernel_rfl
@[go_sem] theorem bu104 {parts : List (Nat × Value)} : aBuild Try.prog 104 parts H kk = match fillB Try.prog 104 [.int .i64 0, .int .i64 0, .bool false] parts with
    | some l => if l.all oneV = true then kk (.agg l.toArray) H else none
    | none => none := aBuild_struct st104 ze104
theorem st118 : structOk Try.prog 118 = true := by kernel_rfl
@[go_sem] theorem bu118 {parts : List (Nat × Value)} : aBuild Try.prog 118 parts H kk = match fillB Try.prog 118 [.slice none 0 0, .int .i64 0] parts with
    | some l => if l.all oneV = true then kk (.agg l.toArray) H else none
    | none => none := aBuild_struct st118 ze118
theorem st120 : structOk Try.prog 120 = true := by kernel_rfl
@[go_sem] theorem bu120 {parts : List (Nat × Value)} : aBuild Try.prog 120 parts H kk = match fillB Try.prog 120 [.slice none 0 0, .int .i64 0, .slice none 0 0, .slice none 0 0] parts with
    | some l => if l.all oneV = true then kk (.agg l.toArray) H else none
    | none => none := aBuild_struct st120 ze120
theorem st210 : structOk Try.prog 210 = true := by kernel_rfl
@[go_sem] theorem bu210 {parts : List (Nat × Value)} : aBuild Try.prog 210 parts H kk = match fillB Try.prog 210 [.pointer none, .pointer none, .pointer none, .string ⟨#[]⟩] parts with
    | some l => if l.all oneV = true then kk (.agg l.toArray) H else none
    | none => none := aBuild_struct st210 ze210
theorem st213 : structOk Try.prog 213 = true := by kernel_rfl
@[go_sem] theorem bu213 {parts : List (Nat × Value)} : aBuild Try.prog 213 parts H kk = match fillB Try.prog 213 [] parts with
    | some l => if l.all oneV = true then kk (.agg l.toArray) H else none
    | none => none := aBuild_struct st213 ze213
theorem st221 : structOk Try.prog 221 = true := by kernel_rfl
@[go_sem] theorem bu221 {parts : List (Nat × Value)} : aBuild Try.prog 221 parts H kk = match fillB Try.prog 221 [.int .u64 0, .int .u64 0, .int .u32 0, .int .u8 0, .int .u8 0, .int .u8 0, .int .u8 0, .nilFunc, .pointer none, .int .i32 0, .int .i32 0] parts with
    | some l => if l.all oneV = true then kk (.agg l.toArray) H else none
    | none => none := aBuild_struct st221 ze221
end
end Go.Proofs.Try
