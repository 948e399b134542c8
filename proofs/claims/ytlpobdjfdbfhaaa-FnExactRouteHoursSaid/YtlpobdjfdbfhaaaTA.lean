/- What is known of the types of this program: their sizes, zero values and parts. -/
import Derived.Test.YtlpobdjfdbfhaaaProg
import Derived.Test.YtlpobdjfdbfhaaaTY
import Derived.KernelRfl
namespace Go.Proofs.Ytlpobdjfdbfhaaa
open Go Go.Eng
set_option linter.unusedSimpArgs false
set_option linter.unusedVariables false
/-- int64 -/
def t2 : TI := ⟨1, 8, .int .i64 0, .lit (.int .i64 0), .lit (.int .i64 0), .int .i64, false⟩
@[simp] theorem t2_size : t2.size = 1 := rfl
@[simp] theorem t2_bytes : t2.bytes = 8 := rfl
@[simp] theorem t2_z : t2.z = .lit (.int .i64 0) := rfl
@[simp] theorem t2_y : t2.y = .lit (.int .i64 0) := rfl
@[simp] theorem t2_kind : t2.kind = .int .i64 := rfl
@[simp] theorem t2_cmp : t2.cmp = false := rfl
/-- int -/
def t3 : TI := ⟨1, 8, .int .i64 0, .lit (.int .i64 0), .lit (.int .i64 0), .int .i64, false⟩
@[simp] theorem t3_size : t3.size = 1 := rfl
@[simp] theorem t3_bytes : t3.bytes = 8 := rfl
@[simp] theorem t3_z : t3.z = .lit (.int .i64 0) := rfl
@[simp] theorem t3_y : t3.y = .lit (.int .i64 0) := rfl
@[simp] theorem t3_kind : t3.kind = .int .i64 := rfl
@[simp] theorem t3_cmp : t3.cmp = false := rfl
/-- bool -/
def t4 : TI := ⟨1, 1, .bool false, .lit (.bool false), .lit (.bool false), .bool, false⟩
@[simp] theorem t4_size : t4.size = 1 := rfl
@[simp] theorem t4_bytes : t4.bytes = 1 := rfl
@[simp] theorem t4_z : t4.z = .lit (.bool false) := rfl
@[simp] theorem t4_y : t4.y = .lit (.bool false) := rfl
@[simp] theorem t4_kind : t4.kind = .bool := rfl
@[simp] theorem t4_cmp : t4.cmp = false := rfl
/-- uint8 -/
def t5 : TI := ⟨1, 1, .int .u8 0, .lit (.int .u8 0), .lit (.int .u8 0), .int .u8, false⟩
@[simp] theorem t5_size : t5.size = 1 := rfl
@[simp] theorem t5_bytes : t5.bytes = 1 := rfl
@[simp] theorem t5_z : t5.z = .lit (.int .u8 0) := rfl
@[simp] theorem t5_y : t5.y = .lit (.int .u8 0) := rfl
@[simp] theorem t5_kind : t5.kind = .int .u8 := rfl
@[simp] theorem t5_cmp : t5.cmp = false := rfl
/-- string -/
def t9 : TI := ⟨1, 16, .string ⟨#[]⟩, .lit (.string ⟨#[]⟩), .lit (.string ⟨#[]⟩), .str, false⟩
@[simp] theorem t9_size : t9.size = 1 := rfl
@[simp] theorem t9_bytes : t9.bytes = 16 := rfl
@[simp] theorem t9_z : t9.z = .lit (.string ⟨#[]⟩) := rfl
@[simp] theorem t9_y : t9.y = .lit (.string ⟨#[]⟩) := rfl
@[simp] theorem t9_kind : t9.kind = .str := rfl
@[simp] theorem t9_cmp : t9.cmp = false := rfl
/-- uintptr -/
def t12 : TI := ⟨1, 8, .int .u64 0, .lit (.int .u64 0), .lit (.int .u64 0), .int .u64, false⟩
@[simp] theorem t12_size : t12.size = 1 := rfl
@[simp] theorem t12_bytes : t12.bytes = 8 := rfl
@[simp] theorem t12_z : t12.z = .lit (.int .u64 0) := rfl
@[simp] theorem t12_y : t12.y = .lit (.int .u64 0) := rfl
@[simp] theorem t12_kind : t12.kind = .int .u64 := rfl
@[simp] theorem t12_cmp : t12.cmp = false := rfl
/-- interface {} -/
def t20 : TI := ⟨1, 16, .nilIface, .lit .nilIface, .lit .nilIface, .iface, false⟩
@[simp] theorem t20_size : t20.size = 1 := rfl
@[simp] theorem t20_bytes : t20.bytes = 16 := rfl
@[simp] theorem t20_z : t20.z = .lit .nilIface := rfl
@[simp] theorem t20_y : t20.y = .lit .nilIface := rfl
@[simp] theorem t20_kind : t20.kind = .iface := rfl
@[simp] theorem t20_cmp : t20.cmp = false := rfl
/-- int32 -/
def t21 : TI := ⟨1, 4, .int .i32 0, .lit (.int .i32 0), .lit (.int .i32 0), .int .i32, false⟩
@[simp] theorem t21_size : t21.size = 1 := rfl
@[simp] theorem t21_bytes : t21.bytes = 4 := rfl
@[simp] theorem t21_z : t21.z = .lit (.int .i32 0) := rfl
@[simp] theorem t21_y : t21.y = .lit (.int .i32 0) := rfl
@[simp] theorem t21_kind : t21.kind = .int .i32 := rfl
@[simp] theorem t21_cmp : t21.cmp = false := rfl
/-- struct { Id int; Kind int; Colour int; Size int; Worth int } -/
def t22 : TI := ⟨5, 40, .agg #[.int .i64 0, .int .i64 0, .int .i64 0, .int .i64 0, .int .i64 0], .agg [.lit (.int .i64 0), .lit (.int .i64 0), .lit (.int .i64 0), .lit (.int .i64 0), .lit (.int .i64 0)], yTThing, .st [(0, 3), (1, 3), (2, 3), (3, 3), (4, 3)], true⟩
@[simp] theorem t22_size : t22.size = 5 := rfl
@[simp] theorem t22_bytes : t22.bytes = 40 := rfl
@[simp] theorem t22_z : t22.z = .agg [.lit (.int .i64 0), .lit (.int .i64 0), .lit (.int .i64 0), .lit (.int .i64 0), .lit (.int .i64 0)] := rfl
@[simp] theorem t22_y : t22.y = yTThing := rfl
@[simp] theorem t22_kind : t22.kind = .st [(0, 3), (1, 3), (2, 3), (3, 3), (4, 3)] := rfl
@[simp] theorem t22_cmp : t22.cmp = true := rfl
/-- laws.Thing = loop.example/g03007/laws.Thing -/
def t23 : TI := ⟨5, 40, .agg #[.int .i64 0, .int .i64 0, .int .i64 0, .int .i64 0, .int .i64 0], .agg [.lit (.int .i64 0), .lit (.int .i64 0), .lit (.int .i64 0), .lit (.int .i64 0), .lit (.int .i64 0)], yTThing, .st [(0, 3), (1, 3), (2, 3), (3, 3), (4, 3)], true⟩
@[simp] theorem t23_size : t23.size = 5 := rfl
@[simp] theorem t23_bytes : t23.bytes = 40 := rfl
@[simp] theorem t23_z : t23.z = .agg [.lit (.int .i64 0), .lit (.int .i64 0), .lit (.int .i64 0), .lit (.int .i64 0), .lit (.int .i64 0)] := rfl
@[simp] theorem t23_y : t23.y = yTThing := rfl
@[simp] theorem t23_kind : t23.kind = .st [(0, 3), (1, 3), (2, 3), (3, 3), (4, 3)] := rfl
@[simp] theorem t23_cmp : t23.cmp = true := rfl
/-- struct { Thing laws.Thing; Place int; At int; Finder int } -/
def t24 : TI := ⟨8, 64, .agg #[.int .i64 0, .int .i64 0, .int .i64 0, .int .i64 0, .int .i64 0, .int .i64 0, .int .i64 0, .int .i64 0], .agg [.lit (.int .i64 0), .lit (.int .i64 0), .lit (.int .i64 0), .lit (.int .i64 0), .lit (.int .i64 0), .lit (.int .i64 0), .lit (.int .i64 0), .lit (.int .i64 0)], yTFind, .st [(0, 23), (5, 3), (6, 3), (7, 3)], true⟩
@[simp] theorem t24_size : t24.size = 8 := rfl
@[simp] theorem t24_bytes : t24.bytes = 64 := rfl
@[simp] theorem t24_z : t24.z = .agg [.lit (.int .i64 0), .lit (.int .i64 0), .lit (.int .i64 0), .lit (.int .i64 0), .lit (.int .i64 0), .lit (.int .i64 0), .lit (.int .i64 0), .lit (.int .i64 0)] := rfl
@[simp] theorem t24_y : t24.y = yTFind := rfl
@[simp] theorem t24_kind : t24.kind = .st [(0, 23), (5, 3), (6, 3), (7, 3)] := rfl
@[simp] theorem t24_cmp : t24.cmp = true := rfl
/-- laws.Find = loop.example/g03007/laws.Find -/
def t25 : TI := ⟨8, 64, .agg #[.int .i64 0, .int .i64 0, .int .i64 0, .int .i64 0, .int .i64 0, .int .i64 0, .int .i64 0, .int .i64 0], .agg [.lit (.int .i64 0), .lit (.int .i64 0), .lit (.int .i64 0), .lit (.int .i64 0), .lit (.int .i64 0), .lit (.int .i64 0), .lit (.int .i64 0), .lit (.int .i64 0)], yTFind, .st [(0, 23), (5, 3), (6, 3), (7, 3)], true⟩
@[simp] theorem t25_size : t25.size = 8 := rfl
@[simp] theorem t25_bytes : t25.bytes = 64 := rfl
@[simp] theorem t25_z : t25.z = .agg [.lit (.int .i64 0), .lit (.int .i64 0), .lit (.int .i64 0), .lit (.int .i64 0), .lit (.int .i64 0), .lit (.int .i64 0), .lit (.int .i64 0), .lit (.int .i64 0)] := rfl
@[simp] theorem t25_y : t25.y = yTFind := rfl
@[simp] theorem t25_kind : t25.kind = .st [(0, 23), (5, 3), (6, 3), (7, 3)] := rfl
@[simp] theorem t25_cmp : t25.cmp = true := rfl
/-- func(impl.Find) bool -/
def t26 : TI := ⟨1, 8, .nilFunc, .lit .nilFunc, .lit .nilFunc, .func, false⟩
@[simp] theorem t26_size : t26.size = 1 := rfl
@[simp] theorem t26_bytes : t26.bytes = 8 := rfl
@[simp] theorem t26_z : t26.z = .lit .nilFunc := rfl
@[simp] theorem t26_y : t26.y = .lit .nilFunc := rfl
@[simp] theorem t26_kind : t26.kind = .func := rfl
@[simp] theorem t26_cmp : t26.cmp = false := rfl
/-- impl.Thing = loop.example/g03007/impl.Thing -/
def t27 : TI := ⟨5, 40, .agg #[.int .i64 0, .int .i64 0, .int .i64 0, .int .i64 0, .int .i64 0], .agg [.lit (.int .i64 0), .lit (.int .i64 0), .lit (.int .i64 0), .lit (.int .i64 0), .lit (.int .i64 0)], yTThing, .st [(0, 3), (1, 3), (2, 3), (3, 3), (4, 3)], true⟩
@[simp] theorem t27_size : t27.size = 5 := rfl
@[simp] theorem t27_bytes : t27.bytes = 40 := rfl
@[simp] theorem t27_z : t27.z = .agg [.lit (.int .i64 0), .lit (.int .i64 0), .lit (.int .i64 0), .lit (.int .i64 0), .lit (.int .i64 0)] := rfl
@[simp] theorem t27_y : t27.y = yTThing := rfl
@[simp] theorem t27_kind : t27.kind = .st [(0, 3), (1, 3), (2, 3), (3, 3), (4, 3)] := rfl
@[simp] theorem t27_cmp : t27.cmp = true := rfl
/-- struct { Thing impl.Thing; Place int; At int; Finder int } -/
def t28 : TI := ⟨8, 64, .agg #[.int .i64 0, .int .i64 0, .int .i64 0, .int .i64 0, .int .i64 0, .int .i64 0, .int .i64 0, .int .i64 0], .agg [.lit (.int .i64 0), .lit (.int .i64 0), .lit (.int .i64 0), .lit (.int .i64 0), .lit (.int .i64 0), .lit (.int .i64 0), .lit (.int .i64 0), .lit (.int .i64 0)], yTFind, .st [(0, 27), (5, 3), (6, 3), (7, 3)], true⟩
@[simp] theorem t28_size : t28.size = 8 := rfl
@[simp] theorem t28_bytes : t28.bytes = 64 := rfl
@[simp] theorem t28_z : t28.z = .agg [.lit (.int .i64 0), .lit (.int .i64 0), .lit (.int .i64 0), .lit (.int .i64 0), .lit (.int .i64 0), .lit (.int .i64 0), .lit (.int .i64 0), .lit (.int .i64 0)] := rfl
@[simp] theorem t28_y : t28.y = yTFind := rfl
@[simp] theorem t28_kind : t28.kind = .st [(0, 27), (5, 3), (6, 3), (7, 3)] := rfl
@[simp] theorem t28_cmp : t28.cmp = true := rfl
/-- impl.Find = loop.example/g03007/impl.Find -/
def t29 : TI := ⟨8, 64, .agg #[.int .i64 0, .int .i64 0, .int .i64 0, .int .i64 0, .int .i64 0, .int .i64 0, .int .i64 0, .int .i64 0], .agg [.lit (.int .i64 0), .lit (.int .i64 0), .lit (.int .i64 0), .lit (.int .i64 0), .lit (.int .i64 0), .lit (.int .i64 0), .lit (.int .i64 0), .lit (.int .i64 0)], yTFind, .st [(0, 27), (5, 3), (6, 3), (7, 3)], true⟩
@[simp] theorem t29_size : t29.size = 8 := rfl
@[simp] theorem t29_bytes : t29.bytes = 64 := rfl
@[simp] theorem t29_z : t29.z = .agg [.lit (.int .i64 0), .lit (.int .i64 0), .lit (.int .i64 0), .lit (.int .i64 0), .lit (.int .i64 0), .lit (.int .i64 0), .lit (.int .i64 0), .lit (.int .i64 0)] := rfl
@[simp] theorem t29_y : t29.y = yTFind := rfl
@[simp] theorem t29_kind : t29.kind = .st [(0, 27), (5, 3), (6, 3), (7, 3)] := rfl
@[simp] theorem t29_cmp : t29.cmp = true := rfl
/-- []laws.Find -/
def t32 : TI := ⟨1, 24, .slice none 0 0, .sl true 0 .any [], yLTFind, .slice 25, false⟩
@[simp] theorem t32_size : t32.size = 1 := rfl
@[simp] theorem t32_bytes : t32.bytes = 24 := rfl
@[simp] theorem t32_z : t32.z = .sl true 0 .any [] := rfl
@[simp] theorem t32_y : t32.y = yLTFind := rfl
@[simp] theorem t32_kind : t32.kind = .slice 25 := rfl
@[simp] theorem t32_cmp : t32.cmp = false := rfl
/-- []impl.Find -/
def t35 : TI := ⟨1, 24, .slice none 0 0, .sl true 0 .any [], yLTFind, .slice 29, false⟩
@[simp] theorem t35_size : t35.size = 1 := rfl
@[simp] theorem t35_bytes : t35.bytes = 24 := rfl
@[simp] theorem t35_z : t35.z = .sl true 0 .any [] := rfl
@[simp] theorem t35_y : t35.y = yLTFind := rfl
@[simp] theorem t35_kind : t35.kind = .slice 29 := rfl
@[simp] theorem t35_cmp : t35.cmp = false := rfl
/-- []int -/
def t44 : TI := ⟨1, 24, .slice none 0 0, .sl true 0 .any [], yLI, .slice 3, false⟩
@[simp] theorem t44_size : t44.size = 1 := rfl
@[simp] theorem t44_bytes : t44.bytes = 24 := rfl
@[simp] theorem t44_z : t44.z = .sl true 0 .any [] := rfl
@[simp] theorem t44_y : t44.y = yLI := rfl
@[simp] theorem t44_kind : t44.kind = .slice 3 := rfl
@[simp] theorem t44_cmp : t44.cmp = false := rfl
/-- struct { From int; Until int } -/
def t48 : TI := ⟨2, 16, .agg #[.int .i64 0, .int .i64 0], .agg [.lit (.int .i64 0), .lit (.int .i64 0)], yTSpan, .st [(0, 3), (1, 3)], true⟩
@[simp] theorem t48_size : t48.size = 2 := rfl
@[simp] theorem t48_bytes : t48.bytes = 16 := rfl
@[simp] theorem t48_z : t48.z = .agg [.lit (.int .i64 0), .lit (.int .i64 0)] := rfl
@[simp] theorem t48_y : t48.y = yTSpan := rfl
@[simp] theorem t48_kind : t48.kind = .st [(0, 3), (1, 3)] := rfl
@[simp] theorem t48_cmp : t48.cmp = true := rfl
/-- laws.Span = loop.example/g03007/laws.Span -/
def t49 : TI := ⟨2, 16, .agg #[.int .i64 0, .int .i64 0], .agg [.lit (.int .i64 0), .lit (.int .i64 0)], yTSpan, .st [(0, 3), (1, 3)], true⟩
@[simp] theorem t49_size : t49.size = 2 := rfl
@[simp] theorem t49_bytes : t49.bytes = 16 := rfl
@[simp] theorem t49_z : t49.z = .agg [.lit (.int .i64 0), .lit (.int .i64 0)] := rfl
@[simp] theorem t49_y : t49.y = yTSpan := rfl
@[simp] theorem t49_kind : t49.kind = .st [(0, 3), (1, 3)] := rfl
@[simp] theorem t49_cmp : t49.cmp = true := rfl
/-- impl.Span = loop.example/g03007/impl.Span -/
def t51 : TI := ⟨2, 16, .agg #[.int .i64 0, .int .i64 0], .agg [.lit (.int .i64 0), .lit (.int .i64 0)], yTSpan, .st [(0, 3), (1, 3)], true⟩
@[simp] theorem t51_size : t51.size = 2 := rfl
@[simp] theorem t51_bytes : t51.bytes = 16 := rfl
@[simp] theorem t51_z : t51.z = .agg [.lit (.int .i64 0), .lit (.int .i64 0)] := rfl
@[simp] theorem t51_y : t51.y = yTSpan := rfl
@[simp] theorem t51_kind : t51.kind = .st [(0, 3), (1, 3)] := rfl
@[simp] theorem t51_cmp : t51.cmp = true := rfl
/-- struct { Id int; Kind int; Colours []int; SizeLow int; SizeHigh int; Places []int; Span laws.Span } -/
def t54 : TI := ⟨8, 96, .agg #[.int .i64 0, .int .i64 0, .slice none 0 0, .int .i64 0, .int .i64 0, .slice none 0 0, .int .i64 0, .int .i64 0], .agg [.lit (.int .i64 0), .lit (.int .i64 0), .sl true 0 .any [], .lit (.int .i64 0), .lit (.int .i64 0), .sl true 0 .any [], .lit (.int .i64 0), .lit (.int .i64 0)], yTReport, .st [(0, 3), (1, 3), (2, 44), (3, 3), (4, 3), (5, 44), (6, 49)], false⟩
@[simp] theorem t54_size : t54.size = 8 := rfl
@[simp] theorem t54_bytes : t54.bytes = 96 := rfl
@[simp] theorem t54_z : t54.z = .agg [.lit (.int .i64 0), .lit (.int .i64 0), .sl true 0 .any [], .lit (.int .i64 0), .lit (.int .i64 0), .sl true 0 .any [], .lit (.int .i64 0), .lit (.int .i64 0)] := rfl
@[simp] theorem t54_y : t54.y = yTReport := rfl
@[simp] theorem t54_kind : t54.kind = .st [(0, 3), (1, 3), (2, 44), (3, 3), (4, 3), (5, 44), (6, 49)] := rfl
@[simp] theorem t54_cmp : t54.cmp = false := rfl
/-- laws.Report = loop.example/g03007/laws.Report -/
def t55 : TI := ⟨8, 96, .agg #[.int .i64 0, .int .i64 0, .slice none 0 0, .int .i64 0, .int .i64 0, .slice none 0 0, .int .i64 0, .int .i64 0], .agg [.lit (.int .i64 0), .lit (.int .i64 0), .sl true 0 .any [], .lit (.int .i64 0), .lit (.int .i64 0), .sl true 0 .any [], .lit (.int .i64 0), .lit (.int .i64 0)], yTReport, .st [(0, 3), (1, 3), (2, 44), (3, 3), (4, 3), (5, 44), (6, 49)], false⟩
@[simp] theorem t55_size : t55.size = 8 := rfl
@[simp] theorem t55_bytes : t55.bytes = 96 := rfl
@[simp] theorem t55_z : t55.z = .agg [.lit (.int .i64 0), .lit (.int .i64 0), .sl true 0 .any [], .lit (.int .i64 0), .lit (.int .i64 0), .sl true 0 .any [], .lit (.int .i64 0), .lit (.int .i64 0)] := rfl
@[simp] theorem t55_y : t55.y = yTReport := rfl
@[simp] theorem t55_kind : t55.kind = .st [(0, 3), (1, 3), (2, 44), (3, 3), (4, 3), (5, 44), (6, 49)] := rfl
@[simp] theorem t55_cmp : t55.cmp = false := rfl
/-- struct { Id int; Kind int; Colours []int; SizeLow int; SizeHigh int; Places []int; Span impl.Span } -/
def t58 : TI := ⟨8, 96, .agg #[.int .i64 0, .int .i64 0, .slice none 0 0, .int .i64 0, .int .i64 0, .slice none 0 0, .int .i64 0, .int .i64 0], .agg [.lit (.int .i64 0), .lit (.int .i64 0), .sl true 0 .any [], .lit (.int .i64 0), .lit (.int .i64 0), .sl true 0 .any [], .lit (.int .i64 0), .lit (.int .i64 0)], yTReport, .st [(0, 3), (1, 3), (2, 44), (3, 3), (4, 3), (5, 44), (6, 51)], false⟩
@[simp] theorem t58_size : t58.size = 8 := rfl
@[simp] theorem t58_bytes : t58.bytes = 96 := rfl
@[simp] theorem t58_z : t58.z = .agg [.lit (.int .i64 0), .lit (.int .i64 0), .sl true 0 .any [], .lit (.int .i64 0), .lit (.int .i64 0), .sl true 0 .any [], .lit (.int .i64 0), .lit (.int .i64 0)] := rfl
@[simp] theorem t58_y : t58.y = yTReport := rfl
@[simp] theorem t58_kind : t58.kind = .st [(0, 3), (1, 3), (2, 44), (3, 3), (4, 3), (5, 44), (6, 51)] := rfl
@[simp] theorem t58_cmp : t58.cmp = false := rfl
/-- impl.Report = loop.example/g03007/impl.Report -/
def t59 : TI := ⟨8, 96, .agg #[.int .i64 0, .int .i64 0, .slice none 0 0, .int .i64 0, .int .i64 0, .slice none 0 0, .int .i64 0, .int .i64 0], .agg [.lit (.int .i64 0), .lit (.int .i64 0), .sl true 0 .any [], .lit (.int .i64 0), .lit (.int .i64 0), .sl true 0 .any [], .lit (.int .i64 0), .lit (.int .i64 0)], yTReport, .st [(0, 3), (1, 3), (2, 44), (3, 3), (4, 3), (5, 44), (6, 51)], false⟩
@[simp] theorem t59_size : t59.size = 8 := rfl
@[simp] theorem t59_bytes : t59.bytes = 96 := rfl
@[simp] theorem t59_z : t59.z = .agg [.lit (.int .i64 0), .lit (.int .i64 0), .sl true 0 .any [], .lit (.int .i64 0), .lit (.int .i64 0), .sl true 0 .any [], .lit (.int .i64 0), .lit (.int .i64 0)] := rfl
@[simp] theorem t59_y : t59.y = yTReport := rfl
@[simp] theorem t59_kind : t59.kind = .st [(0, 3), (1, 3), (2, 44), (3, 3), (4, 3), (5, 44), (6, 51)] := rfl
@[simp] theorem t59_cmp : t59.cmp = false := rfl
/-- []laws.Report -/
def t63 : TI := ⟨1, 24, .slice none 0 0, .sl true 0 .any [], yLTReport, .slice 55, false⟩
@[simp] theorem t63_size : t63.size = 1 := rfl
@[simp] theorem t63_bytes : t63.bytes = 24 := rfl
@[simp] theorem t63_z : t63.z = .sl true 0 .any [] := rfl
@[simp] theorem t63_y : t63.y = yLTReport := rfl
@[simp] theorem t63_kind : t63.kind = .slice 55 := rfl
@[simp] theorem t63_cmp : t63.cmp = false := rfl
/-- []impl.Report -/
def t66 : TI := ⟨1, 24, .slice none 0 0, .sl true 0 .any [], yLTReport, .slice 59, false⟩
@[simp] theorem t66_size : t66.size = 1 := rfl
@[simp] theorem t66_bytes : t66.bytes = 24 := rfl
@[simp] theorem t66_z : t66.z = .sl true 0 .any [] := rfl
@[simp] theorem t66_y : t66.y = yLTReport := rfl
@[simp] theorem t66_kind : t66.kind = .slice 59 := rfl
@[simp] theorem t66_cmp : t66.cmp = false := rfl
/-- func(impl.Report, impl.Find) bool -/
def t77 : TI := ⟨1, 8, .nilFunc, .lit .nilFunc, .lit .nilFunc, .func, false⟩
@[simp] theorem t77_size : t77.size = 1 := rfl
@[simp] theorem t77_bytes : t77.bytes = 8 := rfl
@[simp] theorem t77_z : t77.z = .lit .nilFunc := rfl
@[simp] theorem t77_y : t77.y = .lit .nilFunc := rfl
@[simp] theorem t77_kind : t77.kind = .func := rfl
@[simp] theorem t77_cmp : t77.cmp = false := rfl
/-- struct { Colours []int; Size int; Places []int; Hours int } -/
def t86 : TI := ⟨4, 64, .agg #[.slice none 0 0, .int .i64 0, .slice none 0 0, .int .i64 0], .agg [.sl true 0 .any [], .lit (.int .i64 0), .sl true 0 .any [], .lit (.int .i64 0)], yTDoubt, .st [(0, 44), (1, 3), (2, 44), (3, 3)], false⟩
@[simp] theorem t86_size : t86.size = 4 := rfl
@[simp] theorem t86_bytes : t86.bytes = 64 := rfl
@[simp] theorem t86_z : t86.z = .agg [.sl true 0 .any [], .lit (.int .i64 0), .sl true 0 .any [], .lit (.int .i64 0)] := rfl
@[simp] theorem t86_y : t86.y = yTDoubt := rfl
@[simp] theorem t86_kind : t86.kind = .st [(0, 44), (1, 3), (2, 44), (3, 3)] := rfl
@[simp] theorem t86_cmp : t86.cmp = false := rfl
/-- laws.Doubt = loop.example/g03007/laws.Doubt -/
def t87 : TI := ⟨4, 64, .agg #[.slice none 0 0, .int .i64 0, .slice none 0 0, .int .i64 0], .agg [.sl true 0 .any [], .lit (.int .i64 0), .sl true 0 .any [], .lit (.int .i64 0)], yTDoubt, .st [(0, 44), (1, 3), (2, 44), (3, 3)], false⟩
@[simp] theorem t87_size : t87.size = 4 := rfl
@[simp] theorem t87_bytes : t87.bytes = 64 := rfl
@[simp] theorem t87_z : t87.z = .agg [.sl true 0 .any [], .lit (.int .i64 0), .sl true 0 .any [], .lit (.int .i64 0)] := rfl
@[simp] theorem t87_y : t87.y = yTDoubt := rfl
@[simp] theorem t87_kind : t87.kind = .st [(0, 44), (1, 3), (2, 44), (3, 3)] := rfl
@[simp] theorem t87_cmp : t87.cmp = false := rfl
/-- impl.Doubt = loop.example/g03007/impl.Doubt -/
def t90 : TI := ⟨4, 64, .agg #[.slice none 0 0, .int .i64 0, .slice none 0 0, .int .i64 0], .agg [.sl true 0 .any [], .lit (.int .i64 0), .sl true 0 .any [], .lit (.int .i64 0)], yTDoubt, .st [(0, 44), (1, 3), (2, 44), (3, 3)], false⟩
@[simp] theorem t90_size : t90.size = 4 := rfl
@[simp] theorem t90_bytes : t90.bytes = 64 := rfl
@[simp] theorem t90_z : t90.z = .agg [.sl true 0 .any [], .lit (.int .i64 0), .sl true 0 .any [], .lit (.int .i64 0)] := rfl
@[simp] theorem t90_y : t90.y = yTDoubt := rfl
@[simp] theorem t90_kind : t90.kind = .st [(0, 44), (1, 3), (2, 44), (3, 3)] := rfl
@[simp] theorem t90_cmp : t90.cmp = false := rfl
/-- []laws.Stop -/
def t102 : TI := ⟨1, 24, .slice none 0 0, .sl true 0 .any [], yLTStop, .slice 177, false⟩
@[simp] theorem t102_size : t102.size = 1 := rfl
@[simp] theorem t102_bytes : t102.bytes = 24 := rfl
@[simp] theorem t102_z : t102.z = .sl true 0 .any [] := rfl
@[simp] theorem t102_y : t102.y = yLTStop := rfl
@[simp] theorem t102_kind : t102.kind = .slice 177 := rfl
@[simp] theorem t102_cmp : t102.cmp = false := rfl
/-- []impl.Stop -/
def t105 : TI := ⟨1, 24, .slice none 0 0, .sl true 0 .any [], yLTStop, .slice 175, false⟩
@[simp] theorem t105_size : t105.size = 1 := rfl
@[simp] theorem t105_bytes : t105.bytes = 24 := rfl
@[simp] theorem t105_z : t105.z = .sl true 0 .any [] := rfl
@[simp] theorem t105_y : t105.y = yLTStop := rfl
@[simp] theorem t105_kind : t105.kind = .slice 175 := rfl
@[simp] theorem t105_cmp : t105.cmp = false := rfl
/-- [4]func(impl.Find) bool -/
def t119 : TI := ⟨4, 32, .agg #[.nilFunc, .nilFunc, .nilFunc, .nilFunc], .agg [.lit .nilFunc, .lit .nilFunc, .lit .nilFunc, .lit .nilFunc], .any, .arr 4 26, false⟩
@[simp] theorem t119_size : t119.size = 4 := rfl
@[simp] theorem t119_bytes : t119.bytes = 32 := rfl
@[simp] theorem t119_z : t119.z = .agg [.lit .nilFunc, .lit .nilFunc, .lit .nilFunc, .lit .nilFunc] := rfl
@[simp] theorem t119_y : t119.y = .any := rfl
@[simp] theorem t119_kind : t119.kind = .arr 4 26 := rfl
@[simp] theorem t119_cmp : t119.cmp = false := rfl
/-- func(impl.Find) int -/
def t121 : TI := ⟨1, 8, .nilFunc, .lit .nilFunc, .lit .nilFunc, .func, false⟩
@[simp] theorem t121_size : t121.size = 1 := rfl
@[simp] theorem t121_bytes : t121.bytes = 8 := rfl
@[simp] theorem t121_z : t121.z = .lit .nilFunc := rfl
@[simp] theorem t121_y : t121.y = .lit .nilFunc := rfl
@[simp] theorem t121_kind : t121.kind = .func := rfl
@[simp] theorem t121_cmp : t121.cmp = false := rfl
/-- struct { items []impl.Find; numberOf func(impl.Find) int } -/
def t122 : TI := ⟨2, 32, .agg #[.slice none 0 0, .nilFunc], .agg [.sl true 0 .any [], .lit .nilFunc], .any, .st [(0, 35), (1, 121)], false⟩
@[simp] theorem t122_size : t122.size = 2 := rfl
@[simp] theorem t122_bytes : t122.bytes = 32 := rfl
@[simp] theorem t122_z : t122.z = .agg [.sl true 0 .any [], .lit .nilFunc] := rfl
@[simp] theorem t122_y : t122.y = .any := rfl
@[simp] theorem t122_kind : t122.kind = .st [(0, 35), (1, 121)] := rfl
@[simp] theorem t122_cmp : t122.cmp = false := rfl
/-- impl.sortedList[loop.example/g03007/impl.Find] = loop.example/g03007/impl.sortedList[loop.example/g03007/impl.Find] -/
def t123 : TI := ⟨2, 32, .agg #[.slice none 0 0, .nilFunc], .agg [.sl true 0 .any [], .lit .nilFunc], .any, .st [(0, 35), (1, 121)], false⟩
@[simp] theorem t123_size : t123.size = 2 := rfl
@[simp] theorem t123_bytes : t123.bytes = 32 := rfl
@[simp] theorem t123_z : t123.z = .agg [.sl true 0 .any [], .lit .nilFunc] := rfl
@[simp] theorem t123_y : t123.y = .any := rfl
@[simp] theorem t123_kind : t123.kind = .st [(0, 35), (1, 121)] := rfl
@[simp] theorem t123_cmp : t123.cmp = false := rfl
/-- func(impl.Report) int -/
def t136 : TI := ⟨1, 8, .nilFunc, .lit .nilFunc, .lit .nilFunc, .func, false⟩
@[simp] theorem t136_size : t136.size = 1 := rfl
@[simp] theorem t136_bytes : t136.bytes = 8 := rfl
@[simp] theorem t136_z : t136.z = .lit .nilFunc := rfl
@[simp] theorem t136_y : t136.y = .lit .nilFunc := rfl
@[simp] theorem t136_kind : t136.kind = .func := rfl
@[simp] theorem t136_cmp : t136.cmp = false := rfl
/-- struct { items []impl.Report; numberOf func(impl.Report) int } -/
def t137 : TI := ⟨2, 32, .agg #[.slice none 0 0, .nilFunc], .agg [.sl true 0 .any [], .lit .nilFunc], .any, .st [(0, 66), (1, 136)], false⟩
@[simp] theorem t137_size : t137.size = 2 := rfl
@[simp] theorem t137_bytes : t137.bytes = 32 := rfl
@[simp] theorem t137_z : t137.z = .agg [.sl true 0 .any [], .lit .nilFunc] := rfl
@[simp] theorem t137_y : t137.y = .any := rfl
@[simp] theorem t137_kind : t137.kind = .st [(0, 66), (1, 136)] := rfl
@[simp] theorem t137_cmp : t137.cmp = false := rfl
/-- impl.sortedList[loop.example/g03007/impl.Report] = loop.example/g03007/impl.sortedList[loop.example/g03007/impl.Report] -/
def t138 : TI := ⟨2, 32, .agg #[.slice none 0 0, .nilFunc], .agg [.sl true 0 .any [], .lit .nilFunc], .any, .st [(0, 66), (1, 136)], false⟩
@[simp] theorem t138_size : t138.size = 2 := rfl
@[simp] theorem t138_bytes : t138.bytes = 32 := rfl
@[simp] theorem t138_z : t138.z = .agg [.sl true 0 .any [], .lit .nilFunc] := rfl
@[simp] theorem t138_y : t138.y = .any := rfl
@[simp] theorem t138_kind : t138.kind = .st [(0, 66), (1, 136)] := rfl
@[simp] theorem t138_cmp : t138.cmp = false := rfl
/-- []bool -/
def t145 : TI := ⟨1, 24, .slice none 0 0, .sl true 0 .any [], yLB, .slice 4, false⟩
@[simp] theorem t145_size : t145.size = 1 := rfl
@[simp] theorem t145_bytes : t145.bytes = 24 := rfl
@[simp] theorem t145_z : t145.z = .sl true 0 .any [] := rfl
@[simp] theorem t145_y : t145.y = yLB := rfl
@[simp] theorem t145_kind : t145.kind = .slice 4 := rfl
@[simp] theorem t145_cmp : t145.cmp = false := rfl
/-- []impl.matchCheck -/
def t149 : TI := ⟨1, 24, .slice none 0 0, .sl true 0 .any [], .any, .slice 152, false⟩
@[simp] theorem t149_size : t149.size = 1 := rfl
@[simp] theorem t149_bytes : t149.bytes = 24 := rfl
@[simp] theorem t149_z : t149.z = .sl true 0 .any [] := rfl
@[simp] theorem t149_y : t149.y = .any := rfl
@[simp] theorem t149_kind : t149.kind = .slice 152 := rfl
@[simp] theorem t149_cmp : t149.cmp = false := rfl
/-- struct { name string; isHeld func(impl.Report, impl.Find) bool } -/
def t151 : TI := ⟨2, 24, .agg #[.string ⟨#[]⟩, .nilFunc], .agg [.lit (.string ⟨#[]⟩), .lit .nilFunc], .any, .st [(0, 9), (1, 77)], false⟩
@[simp] theorem t151_size : t151.size = 2 := rfl
@[simp] theorem t151_bytes : t151.bytes = 24 := rfl
@[simp] theorem t151_z : t151.z = .agg [.lit (.string ⟨#[]⟩), .lit .nilFunc] := rfl
@[simp] theorem t151_y : t151.y = .any := rfl
@[simp] theorem t151_kind : t151.kind = .st [(0, 9), (1, 77)] := rfl
@[simp] theorem t151_cmp : t151.cmp = false := rfl
/-- impl.matchCheck = loop.example/g03007/impl.matchCheck -/
def t152 : TI := ⟨2, 24, .agg #[.string ⟨#[]⟩, .nilFunc], .agg [.lit (.string ⟨#[]⟩), .lit .nilFunc], .any, .st [(0, 9), (1, 77)], false⟩
@[simp] theorem t152_size : t152.size = 2 := rfl
@[simp] theorem t152_bytes : t152.bytes = 24 := rfl
@[simp] theorem t152_z : t152.z = .agg [.lit (.string ⟨#[]⟩), .lit .nilFunc] := rfl
@[simp] theorem t152_y : t152.y = .any := rfl
@[simp] theorem t152_kind : t152.kind = .st [(0, 9), (1, 77)] := rfl
@[simp] theorem t152_cmp : t152.cmp = false := rfl
/-- impl.reportOption = loop.example/g03007/impl.reportOption -/
def t157 : TI := ⟨1, 8, .nilFunc, .lit .nilFunc, .lit .nilFunc, .func, false⟩
@[simp] theorem t157_size : t157.size = 1 := rfl
@[simp] theorem t157_bytes : t157.bytes = 8 := rfl
@[simp] theorem t157_z : t157.z = .lit .nilFunc := rfl
@[simp] theorem t157_y : t157.y = .lit .nilFunc := rfl
@[simp] theorem t157_kind : t157.kind = .func := rfl
@[simp] theorem t157_cmp : t157.cmp = false := rfl
/-- interface { impl.has(int) bool } -/
def t164 : TI := ⟨1, 16, .nilIface, .lit .nilIface, .lit .nilIface, .iface, false⟩
@[simp] theorem t164_size : t164.size = 1 := rfl
@[simp] theorem t164_bytes : t164.bytes = 16 := rfl
@[simp] theorem t164_z : t164.z = .lit .nilIface := rfl
@[simp] theorem t164_y : t164.y = .lit .nilIface := rfl
@[simp] theorem t164_kind : t164.kind = .iface := rfl
@[simp] theorem t164_cmp : t164.cmp = false := rfl
/-- impl.choice = loop.example/g03007/impl.choice -/
def t165 : TI := ⟨1, 16, .nilIface, .lit .nilIface, .lit .nilIface, .iface, false⟩
@[simp] theorem t165_size : t165.size = 1 := rfl
@[simp] theorem t165_bytes : t165.bytes = 16 := rfl
@[simp] theorem t165_z : t165.z = .lit .nilIface := rfl
@[simp] theorem t165_y : t165.y = .lit .nilIface := rfl
@[simp] theorem t165_kind : t165.kind = .iface := rfl
@[simp] theorem t165_cmp : t165.cmp = false := rfl
/-- *impl.Report -/
def t173 : TI := ⟨1, 8, .pointer none, .lit (.pointer none), .lit (.pointer none), .ptr 59, false⟩
@[simp] theorem t173_size : t173.size = 1 := rfl
@[simp] theorem t173_bytes : t173.bytes = 8 := rfl
@[simp] theorem t173_z : t173.z = .lit (.pointer none) := rfl
@[simp] theorem t173_y : t173.y = .lit (.pointer none) := rfl
@[simp] theorem t173_kind : t173.kind = .ptr 59 := rfl
@[simp] theorem t173_cmp : t173.cmp = false := rfl
/-- struct { Place int; Arrive int; Leave int } -/
def t174 : TI := ⟨3, 24, .agg #[.int .i64 0, .int .i64 0, .int .i64 0], .agg [.lit (.int .i64 0), .lit (.int .i64 0), .lit (.int .i64 0)], yTStop, .st [(0, 3), (1, 3), (2, 3)], true⟩
@[simp] theorem t174_size : t174.size = 3 := rfl
@[simp] theorem t174_bytes : t174.bytes = 24 := rfl
@[simp] theorem t174_z : t174.z = .agg [.lit (.int .i64 0), .lit (.int .i64 0), .lit (.int .i64 0)] := rfl
@[simp] theorem t174_y : t174.y = yTStop := rfl
@[simp] theorem t174_kind : t174.kind = .st [(0, 3), (1, 3), (2, 3)] := rfl
@[simp] theorem t174_cmp : t174.cmp = true := rfl
/-- impl.Stop = loop.example/g03007/impl.Stop -/
def t175 : TI := ⟨3, 24, .agg #[.int .i64 0, .int .i64 0, .int .i64 0], .agg [.lit (.int .i64 0), .lit (.int .i64 0), .lit (.int .i64 0)], yTStop, .st [(0, 3), (1, 3), (2, 3)], true⟩
@[simp] theorem t175_size : t175.size = 3 := rfl
@[simp] theorem t175_bytes : t175.bytes = 24 := rfl
@[simp] theorem t175_z : t175.z = .agg [.lit (.int .i64 0), .lit (.int .i64 0), .lit (.int .i64 0)] := rfl
@[simp] theorem t175_y : t175.y = yTStop := rfl
@[simp] theorem t175_kind : t175.kind = .st [(0, 3), (1, 3), (2, 3)] := rfl
@[simp] theorem t175_cmp : t175.cmp = true := rfl
/-- laws.Stop = loop.example/g03007/laws.Stop -/
def t177 : TI := ⟨3, 24, .agg #[.int .i64 0, .int .i64 0, .int .i64 0], .agg [.lit (.int .i64 0), .lit (.int .i64 0), .lit (.int .i64 0)], yTStop, .st [(0, 3), (1, 3), (2, 3)], true⟩
@[simp] theorem t177_size : t177.size = 3 := rfl
@[simp] theorem t177_bytes : t177.bytes = 24 := rfl
@[simp] theorem t177_z : t177.z = .agg [.lit (.int .i64 0), .lit (.int .i64 0), .lit (.int .i64 0)] := rfl
@[simp] theorem t177_y : t177.y = yTStop := rfl
@[simp] theorem t177_kind : t177.kind = .st [(0, 3), (1, 3), (2, 3)] := rfl
@[simp] theorem t177_cmp : t177.cmp = true := rfl
/-- []impl.reportOption -/
def t192 : TI := ⟨1, 24, .slice none 0 0, .sl true 0 .any [], .any, .slice 157, false⟩
@[simp] theorem t192_size : t192.size = 1 := rfl
@[simp] theorem t192_bytes : t192.bytes = 24 := rfl
@[simp] theorem t192_z : t192.z = .sl true 0 .any [] := rfl
@[simp] theorem t192_y : t192.y = .any := rfl
@[simp] theorem t192_kind : t192.kind = .slice 157 := rfl
@[simp] theorem t192_cmp : t192.cmp = false := rfl
/-- impl.only = loop.example/g03007/impl.only -/
def t197 : TI := ⟨1, 24, .slice none 0 0, .sl true 0 .any [], yLI, .slice 3, false⟩
@[simp] theorem t197_size : t197.size = 1 := rfl
@[simp] theorem t197_bytes : t197.bytes = 24 := rfl
@[simp] theorem t197_z : t197.z = .sl true 0 .any [] := rfl
@[simp] theorem t197_y : t197.y = yLI := rfl
@[simp] theorem t197_kind : t197.kind = .slice 3 := rfl
@[simp] theorem t197_cmp : t197.cmp = false := rfl
/-- struct {} -/
def t199 : TI := ⟨0, 0, .agg #[], .agg [], .any, .st [], false⟩
@[simp] theorem t199_size : t199.size = 0 := rfl
@[simp] theorem t199_bytes : t199.bytes = 0 := rfl
@[simp] theorem t199_z : t199.z = .agg [] := rfl
@[simp] theorem t199_y : t199.y = .any := rfl
@[simp] theorem t199_kind : t199.kind = .st [] := rfl
@[simp] theorem t199_cmp : t199.cmp = false := rfl
/-- impl.everything = loop.example/g03007/impl.everything -/
def t200 : TI := ⟨0, 0, .agg #[], .agg [], .any, .st [], false⟩
@[simp] theorem t200_size : t200.size = 0 := rfl
@[simp] theorem t200_bytes : t200.bytes = 0 := rfl
@[simp] theorem t200_z : t200.z = .agg [] := rfl
@[simp] theorem t200_y : t200.y = .any := rfl
@[simp] theorem t200_kind : t200.kind = .st [] := rfl
@[simp] theorem t200_cmp : t200.cmp = false := rfl
/-- [][]int -/
def t207 : TI := ⟨1, 24, .slice none 0 0, .sl true 0 .any [], yLLI, .slice 44, false⟩
@[simp] theorem t207_size : t207.size = 1 := rfl
@[simp] theorem t207_bytes : t207.bytes = 24 := rfl
@[simp] theorem t207_z : t207.z = .sl true 0 .any [] := rfl
@[simp] theorem t207_y : t207.y = yLLI := rfl
@[simp] theorem t207_kind : t207.kind = .slice 44 := rfl
@[simp] theorem t207_cmp : t207.cmp = false := rfl
/-- uint -/
def t210 : TI := ⟨1, 8, .int .u64 0, .lit (.int .u64 0), .lit (.int .u64 0), .int .u64, false⟩
@[simp] theorem t210_size : t210.size = 1 := rfl
@[simp] theorem t210_bytes : t210.bytes = 8 := rfl
@[simp] theorem t210_z : t210.z = .lit (.int .u64 0) := rfl
@[simp] theorem t210_y : t210.y = .lit (.int .u64 0) := rfl
@[simp] theorem t210_kind : t210.kind = .int .u64 := rfl
@[simp] theorem t210_cmp : t210.cmp = false := rfl
/-- struct { with impl.Span } -/
def t213 : TI := ⟨2, 16, .agg #[.int .i64 0, .int .i64 0], .agg [.lit (.int .i64 0), .lit (.int .i64 0)], yTMeeting, .st [(0, 51)], true⟩
@[simp] theorem t213_size : t213.size = 2 := rfl
@[simp] theorem t213_bytes : t213.bytes = 16 := rfl
@[simp] theorem t213_z : t213.z = .agg [.lit (.int .i64 0), .lit (.int .i64 0)] := rfl
@[simp] theorem t213_y : t213.y = yTMeeting := rfl
@[simp] theorem t213_kind : t213.kind = .st [(0, 51)] := rfl
@[simp] theorem t213_cmp : t213.cmp = true := rfl
/-- impl.meeting = loop.example/g03007/impl.meeting -/
def t214 : TI := ⟨2, 16, .agg #[.int .i64 0, .int .i64 0], .agg [.lit (.int .i64 0), .lit (.int .i64 0)], yTMeeting, .st [(0, 51)], true⟩
@[simp] theorem t214_size : t214.size = 2 := rfl
@[simp] theorem t214_bytes : t214.bytes = 16 := rfl
@[simp] theorem t214_z : t214.z = .agg [.lit (.int .i64 0), .lit (.int .i64 0)] := rfl
@[simp] theorem t214_y : t214.y = yTMeeting := rfl
@[simp] theorem t214_kind : t214.kind = .st [(0, 51)] := rfl
@[simp] theorem t214_cmp : t214.cmp = true := rfl
/-- slices.sortedHint -/
def t219 : TI := ⟨1, 8, .int .i64 0, .lit (.int .i64 0), .lit (.int .i64 0), .int .i64, false⟩
@[simp] theorem t219_size : t219.size = 1 := rfl
@[simp] theorem t219_bytes : t219.bytes = 8 := rfl
@[simp] theorem t219_z : t219.z = .lit (.int .i64 0) := rfl
@[simp] theorem t219_y : t219.y = .lit (.int .i64 0) := rfl
@[simp] theorem t219_kind : t219.kind = .int .i64 := rfl
@[simp] theorem t219_cmp : t219.cmp = false := rfl
/-- uint32 -/
def t226 : TI := ⟨1, 4, .int .u32 0, .lit (.int .u32 0), .lit (.int .u32 0), .int .u32, false⟩
@[simp] theorem t226_size : t226.size = 1 := rfl
@[simp] theorem t226_bytes : t226.bytes = 4 := rfl
@[simp] theorem t226_z : t226.z = .lit (.int .u32 0) := rfl
@[simp] theorem t226_y : t226.y = .lit (.int .u32 0) := rfl
@[simp] theorem t226_kind : t226.kind = .int .u32 := rfl
@[simp] theorem t226_cmp : t226.cmp = false := rfl
/-- uint64 -/
def t228 : TI := ⟨1, 8, .int .u64 0, .lit (.int .u64 0), .lit (.int .u64 0), .int .u64, false⟩
@[simp] theorem t228_size : t228.size = 1 := rfl
@[simp] theorem t228_bytes : t228.bytes = 8 := rfl
@[simp] theorem t228_z : t228.z = .lit (.int .u64 0) := rfl
@[simp] theorem t228_y : t228.y = .lit (.int .u64 0) := rfl
@[simp] theorem t228_kind : t228.kind = .int .u64 := rfl
@[simp] theorem t228_cmp : t228.cmp = false := rfl
/-- interface { impl.applyTo(impl.Span) impl.Span } -/
def t229 : TI := ⟨1, 16, .nilIface, .lit .nilIface, .lit .nilIface, .iface, false⟩
@[simp] theorem t229_size : t229.size = 1 := rfl
@[simp] theorem t229_bytes : t229.bytes = 16 := rfl
@[simp] theorem t229_z : t229.z = .lit .nilIface := rfl
@[simp] theorem t229_y : t229.y = .lit .nilIface := rfl
@[simp] theorem t229_kind : t229.kind = .iface := rfl
@[simp] theorem t229_cmp : t229.cmp = false := rfl
/-- impl.spanChange = loop.example/g03007/impl.spanChange -/
def t230 : TI := ⟨1, 16, .nilIface, .lit .nilIface, .lit .nilIface, .iface, false⟩
@[simp] theorem t230_size : t230.size = 1 := rfl
@[simp] theorem t230_bytes : t230.bytes = 16 := rfl
@[simp] theorem t230_z : t230.z = .lit .nilIface := rfl
@[simp] theorem t230_y : t230.y = .lit .nilIface := rfl
@[simp] theorem t230_kind : t230.kind = .iface := rfl
@[simp] theorem t230_cmp : t230.cmp = false := rfl
/-- slices.xorshift -/
def t233 : TI := ⟨1, 8, .int .u64 0, .lit (.int .u64 0), .lit (.int .u64 0), .int .u64, false⟩
@[simp] theorem t233_size : t233.size = 1 := rfl
@[simp] theorem t233_bytes : t233.bytes = 8 := rfl
@[simp] theorem t233_z : t233.z = .lit (.int .u64 0) := rfl
@[simp] theorem t233_y : t233.y = .lit (.int .u64 0) := rfl
@[simp] theorem t233_kind : t233.kind = .int .u64 := rfl
@[simp] theorem t233_cmp : t233.cmp = false := rfl
/-- *int -/
def t237 : TI := ⟨1, 8, .pointer none, .lit (.pointer none), .lit (.pointer none), .ptr 3, false⟩
@[simp] theorem t237_size : t237.size = 1 := rfl
@[simp] theorem t237_bytes : t237.bytes = 8 := rfl
@[simp] theorem t237_z : t237.z = .lit (.pointer none) := rfl
@[simp] theorem t237_y : t237.y = .lit (.pointer none) := rfl
@[simp] theorem t237_kind : t237.kind = .ptr 3 := rfl
@[simp] theorem t237_cmp : t237.cmp = false := rfl
/-- impl.covering = loop.example/g03007/impl.covering -/
def t239 : TI := ⟨2, 16, .agg #[.int .i64 0, .int .i64 0], .agg [.lit (.int .i64 0), .lit (.int .i64 0)], yTMeeting, .st [(0, 51)], true⟩
@[simp] theorem t239_size : t239.size = 2 := rfl
@[simp] theorem t239_bytes : t239.bytes = 16 := rfl
@[simp] theorem t239_z : t239.z = .agg [.lit (.int .i64 0), .lit (.int .i64 0)] := rfl
@[simp] theorem t239_y : t239.y = yTMeeting := rfl
@[simp] theorem t239_kind : t239.kind = .st [(0, 51)] := rfl
@[simp] theorem t239_cmp : t239.cmp = true := rfl
/-- struct { by int } -/
def t240 : TI := ⟨1, 8, .agg #[.int .i64 0], .agg [.lit (.int .i64 0)], yTWidening, .st [(0, 3)], true⟩
@[simp] theorem t240_size : t240.size = 1 := rfl
@[simp] theorem t240_bytes : t240.bytes = 8 := rfl
@[simp] theorem t240_z : t240.z = .agg [.lit (.int .i64 0)] := rfl
@[simp] theorem t240_y : t240.y = yTWidening := rfl
@[simp] theorem t240_kind : t240.kind = .st [(0, 3)] := rfl
@[simp] theorem t240_cmp : t240.cmp = true := rfl
/-- impl.widening = loop.example/g03007/impl.widening -/
def t241 : TI := ⟨1, 8, .agg #[.int .i64 0], .agg [.lit (.int .i64 0)], yTWidening, .st [(0, 3)], true⟩
@[simp] theorem t241_size : t241.size = 1 := rfl
@[simp] theorem t241_bytes : t241.bytes = 8 := rfl
@[simp] theorem t241_z : t241.z = .agg [.lit (.int .i64 0)] := rfl
@[simp] theorem t241_y : t241.y = yTWidening := rfl
@[simp] theorem t241_kind : t241.kind = .st [(0, 3)] := rfl
@[simp] theorem t241_cmp : t241.cmp = true := rfl
/-- *slices.xorshift -/
def t242 : TI := ⟨1, 8, .pointer none, .lit (.pointer none), .lit (.pointer none), .ptr 233, false⟩
@[simp] theorem t242_size : t242.size = 1 := rfl
@[simp] theorem t242_bytes : t242.bytes = 8 := rfl
@[simp] theorem t242_z : t242.z = .lit (.pointer none) := rfl
@[simp] theorem t242_y : t242.y = .lit (.pointer none) := rfl
@[simp] theorem t242_kind : t242.kind = .ptr 233 := rfl
@[simp] theorem t242_cmp : t242.cmp = false := rfl
/-- func(unsafe.Pointer, unsafe.Pointer) bool -/
def t254 : TI := ⟨1, 8, .nilFunc, .lit .nilFunc, .lit .nilFunc, .func, false⟩
@[simp] theorem t254_size : t254.size = 1 := rfl
@[simp] theorem t254_bytes : t254.bytes = 8 := rfl
@[simp] theorem t254_z : t254.z = .lit .nilFunc := rfl
@[simp] theorem t254_y : t254.y = .lit .nilFunc := rfl
@[simp] theorem t254_kind : t254.kind = .func := rfl
@[simp] theorem t254_cmp : t254.cmp = false := rfl
/-- *uint8 -/
def t255 : TI := ⟨1, 8, .pointer none, .lit (.pointer none), .lit (.pointer none), .ptr 5, false⟩
@[simp] theorem t255_size : t255.size = 1 := rfl
@[simp] theorem t255_bytes : t255.bytes = 8 := rfl
@[simp] theorem t255_z : t255.z = .lit (.pointer none) := rfl
@[simp] theorem t255_y : t255.y = .lit (.pointer none) := rfl
@[simp] theorem t255_kind : t255.kind = .ptr 5 := rfl
@[simp] theorem t255_cmp : t255.cmp = false := rfl
/-- struct { Size_ uintptr; PtrBytes uintptr; Hash uint32; TFlag abi.TFlag; Align_ uint8; FieldAlign_ uint8; Kind_ abi.Kind; Equal func(unsafe.Pointer, unsafe.Pointer) bool; GCData *uint8; Str abi.NameOff; PtrToThis abi.TypeOff } -/
def t258 : TI := ⟨11, 48, .agg #[.int .u64 0, .int .u64 0, .int .u32 0, .int .u8 0, .int .u8 0, .int .u8 0, .int .u8 0, .nilFunc, .pointer none, .int .i32 0, .int .i32 0], .agg [.lit (.int .u64 0), .lit (.int .u64 0), .lit (.int .u32 0), .lit (.int .u8 0), .lit (.int .u8 0), .lit (.int .u8 0), .lit (.int .u8 0), .lit .nilFunc, .lit (.pointer none), .lit (.int .i32 0), .lit (.int .i32 0)], .any, .st [(0, 12), (1, 12), (2, 226), (3, 252), (4, 5), (5, 5), (6, 253), (7, 254), (8, 255), (9, 256), (10, 257)], false⟩
@[simp] theorem t258_size : t258.size = 11 := rfl
@[simp] theorem t258_bytes : t258.bytes = 48 := rfl
@[simp] theorem t258_z : t258.z = .agg [.lit (.int .u64 0), .lit (.int .u64 0), .lit (.int .u32 0), .lit (.int .u8 0), .lit (.int .u8 0), .lit (.int .u8 0), .lit (.int .u8 0), .lit .nilFunc, .lit (.pointer none), .lit (.int .i32 0), .lit (.int .i32 0)] := rfl
@[simp] theorem t258_y : t258.y = .any := rfl
@[simp] theorem t258_kind : t258.kind = .st [(0, 12), (1, 12), (2, 226), (3, 252), (4, 5), (5, 5), (6, 253), (7, 254), (8, 255), (9, 256), (10, 257)] := rfl
@[simp] theorem t258_cmp : t258.cmp = false := rfl
/-- struct { kind int; colour int; size int; place int } -/
def t264 : TI := ⟨4, 32, .agg #[.int .i64 0, .int .i64 0, .int .i64 0, .int .i64 0], .agg [.lit (.int .i64 0), .lit (.int .i64 0), .lit (.int .i64 0), .lit (.int .i64 0)], .any, .st [(0, 3), (1, 3), (2, 3), (3, 3)], true⟩
@[simp] theorem t264_size : t264.size = 4 := rfl
@[simp] theorem t264_bytes : t264.bytes = 32 := rfl
@[simp] theorem t264_z : t264.z = .agg [.lit (.int .i64 0), .lit (.int .i64 0), .lit (.int .i64 0), .lit (.int .i64 0)] := rfl
@[simp] theorem t264_y : t264.y = .any := rfl
@[simp] theorem t264_kind : t264.kind = .st [(0, 3), (1, 3), (2, 3), (3, 3)] := rfl
@[simp] theorem t264_cmp : t264.cmp = true := rfl
theorem t2_ok : t2.ok Try.prog 2 := ⟨by kernel_rfl, by kernel_rfl, by kernel_rfl, Try.underlying2, (fun h => by cases h), ⟨rfl, rfl, rfl, rfl, fun F h β => by simp [t2, Rep, Reps]⟩⟩
theorem t3_ok : t3.ok Try.prog 3 := ⟨by kernel_rfl, by kernel_rfl, by kernel_rfl, Try.underlying3, (fun h => by cases h), ⟨rfl, rfl, rfl, rfl, fun F h β => by simp [t3, Rep, Reps]⟩⟩
theorem t4_ok : t4.ok Try.prog 4 := ⟨by kernel_rfl, by kernel_rfl, by kernel_rfl, Try.underlying4, (fun h => by cases h), ⟨rfl, rfl, rfl, rfl, fun F h β => by simp [t4, Rep, Reps]⟩⟩
theorem t5_ok : t5.ok Try.prog 5 := ⟨by kernel_rfl, by kernel_rfl, by kernel_rfl, Try.underlying5, (fun h => by cases h), ⟨rfl, rfl, rfl, rfl, fun F h β => by simp [t5, Rep, Reps]⟩⟩
theorem t9_ok : t9.ok Try.prog 9 := ⟨by kernel_rfl, by kernel_rfl, by kernel_rfl, Try.underlying9, (fun h => by cases h), ⟨rfl, rfl, rfl, rfl, fun F h β => by simp [t9, Rep, Reps]⟩⟩
theorem t12_ok : t12.ok Try.prog 12 := ⟨by kernel_rfl, by kernel_rfl, by kernel_rfl, Try.underlying12, (fun h => by cases h), ⟨rfl, rfl, rfl, rfl, fun F h β => by simp [t12, Rep, Reps]⟩⟩
theorem t20_ok : t20.ok Try.prog 20 := ⟨by kernel_rfl, by kernel_rfl, by kernel_rfl, ⟨_, Try.underlying20⟩, (fun h => by cases h), ⟨rfl, rfl, rfl, rfl, fun F h β => by simp [t20, Rep, Reps]⟩⟩
theorem t21_ok : t21.ok Try.prog 21 := ⟨by kernel_rfl, by kernel_rfl, by kernel_rfl, Try.underlying21, (fun h => by cases h), ⟨rfl, rfl, rfl, rfl, fun F h β => by simp [t21, Rep, Reps]⟩⟩
theorem t22_ok : t22.ok Try.prog 22 := ⟨by kernel_rfl, by kernel_rfl, by kernel_rfl, ⟨_, Try.underlying22, rfl⟩, (fun _ => eqInts_of (by kernel_rfl) (by kernel_rfl) (by kernel_rfl)), ⟨rfl, rfl, rfl, rfl, fun F h β => by simp [t22, Rep, Reps]⟩⟩
theorem t23_ok : t23.ok Try.prog 23 := ⟨by kernel_rfl, by kernel_rfl, by kernel_rfl, ⟨_, Try.underlying23, rfl⟩, (fun _ => eqInts_of (by kernel_rfl) (by kernel_rfl) (by kernel_rfl)), ⟨rfl, rfl, rfl, rfl, fun F h β => by simp [t23, Rep, Reps]⟩⟩
theorem t24_ok : t24.ok Try.prog 24 := ⟨by kernel_rfl, by kernel_rfl, by kernel_rfl, ⟨_, Try.underlying24, rfl⟩, (fun _ => eqInts_of (by kernel_rfl) (by kernel_rfl) (by kernel_rfl)), ⟨rfl, rfl, rfl, rfl, fun F h β => by simp [t24, Rep, Reps]⟩⟩
theorem t25_ok : t25.ok Try.prog 25 := ⟨by kernel_rfl, by kernel_rfl, by kernel_rfl, ⟨_, Try.underlying25, rfl⟩, (fun _ => eqInts_of (by kernel_rfl) (by kernel_rfl) (by kernel_rfl)), ⟨rfl, rfl, rfl, rfl, fun F h β => by simp [t25, Rep, Reps]⟩⟩
theorem t26_ok : t26.ok Try.prog 26 := ⟨by kernel_rfl, by kernel_rfl, by kernel_rfl, ⟨_, _, _, Try.underlying26⟩, (fun h => by cases h), ⟨rfl, rfl, rfl, rfl, fun F h β => by simp [t26, Rep, Reps]⟩⟩
theorem t27_ok : t27.ok Try.prog 27 := ⟨by kernel_rfl, by kernel_rfl, by kernel_rfl, ⟨_, Try.underlying27, rfl⟩, (fun _ => eqInts_of (by kernel_rfl) (by kernel_rfl) (by kernel_rfl)), ⟨rfl, rfl, rfl, rfl, fun F h β => by simp [t27, Rep, Reps]⟩⟩
theorem t28_ok : t28.ok Try.prog 28 := ⟨by kernel_rfl, by kernel_rfl, by kernel_rfl, ⟨_, Try.underlying28, rfl⟩, (fun _ => eqInts_of (by kernel_rfl) (by kernel_rfl) (by kernel_rfl)), ⟨rfl, rfl, rfl, rfl, fun F h β => by simp [t28, Rep, Reps]⟩⟩
theorem t29_ok : t29.ok Try.prog 29 := ⟨by kernel_rfl, by kernel_rfl, by kernel_rfl, ⟨_, Try.underlying29, rfl⟩, (fun _ => eqInts_of (by kernel_rfl) (by kernel_rfl) (by kernel_rfl)), ⟨rfl, rfl, rfl, rfl, fun F h β => by simp [t29, Rep, Reps]⟩⟩
theorem t32_ok : t32.ok Try.prog 32 := ⟨by kernel_rfl, by kernel_rfl, by kernel_rfl, Try.underlying32, (fun h => by cases h), ⟨rfl, rfl, rfl, rfl, fun F h β => by simp [t32, Rep, Reps]⟩⟩
theorem t35_ok : t35.ok Try.prog 35 := ⟨by kernel_rfl, by kernel_rfl, by kernel_rfl, Try.underlying35, (fun h => by cases h), ⟨rfl, rfl, rfl, rfl, fun F h β => by simp [t35, Rep, Reps]⟩⟩
theorem t44_ok : t44.ok Try.prog 44 := ⟨by kernel_rfl, by kernel_rfl, by kernel_rfl, Try.underlying44, (fun h => by cases h), ⟨rfl, rfl, rfl, rfl, fun F h β => by simp [t44, Rep, Reps]⟩⟩
theorem t48_ok : t48.ok Try.prog 48 := ⟨by kernel_rfl, by kernel_rfl, by kernel_rfl, ⟨_, Try.underlying48, rfl⟩, (fun _ => eqInts_of (by kernel_rfl) (by kernel_rfl) (by kernel_rfl)), ⟨rfl, rfl, rfl, rfl, fun F h β => by simp [t48, Rep, Reps]⟩⟩
theorem t49_ok : t49.ok Try.prog 49 := ⟨by kernel_rfl, by kernel_rfl, by kernel_rfl, ⟨_, Try.underlying49, rfl⟩, (fun _ => eqInts_of (by kernel_rfl) (by kernel_rfl) (by kernel_rfl)), ⟨rfl, rfl, rfl, rfl, fun F h β => by simp [t49, Rep, Reps]⟩⟩
theorem t51_ok : t51.ok Try.prog 51 := ⟨by kernel_rfl, by kernel_rfl, by kernel_rfl, ⟨_, Try.underlying51, rfl⟩, (fun _ => eqInts_of (by kernel_rfl) (by kernel_rfl) (by kernel_rfl)), ⟨rfl, rfl, rfl, rfl, fun F h β => by simp [t51, Rep, Reps]⟩⟩
theorem t54_ok : t54.ok Try.prog 54 := ⟨by kernel_rfl, by kernel_rfl, by kernel_rfl, ⟨_, Try.underlying54, rfl⟩, (fun h => by cases h), ⟨rfl, rfl, rfl, rfl, fun F h β => by
    show Rep F h β t54.z t54.zero
    simp only [t54, Rep, Reps]
    exact ⟨_, rfl, _, _, rfl, (by trivial), _, _, rfl, (by trivial), _, _, rfl, (.inl ⟨by trivial, none, 0, by trivial, by intros; rfl⟩), _, _, rfl, (by trivial), _, _, rfl, (by trivial), _, _, rfl, (.inl ⟨by trivial, none, 0, by trivial, by intros; rfl⟩), _, _, rfl, (by trivial), _, _, rfl, (by trivial), rfl⟩⟩⟩
theorem t55_ok : t55.ok Try.prog 55 := ⟨by kernel_rfl, by kernel_rfl, by kernel_rfl, ⟨_, Try.underlying55, rfl⟩, (fun h => by cases h), ⟨rfl, rfl, rfl, rfl, fun F h β => by
    show Rep F h β t55.z t55.zero
    simp only [t55, Rep, Reps]
    exact ⟨_, rfl, _, _, rfl, (by trivial), _, _, rfl, (by trivial), _, _, rfl, (.inl ⟨by trivial, none, 0, by trivial, by intros; rfl⟩), _, _, rfl, (by trivial), _, _, rfl, (by trivial), _, _, rfl, (.inl ⟨by trivial, none, 0, by trivial, by intros; rfl⟩), _, _, rfl, (by trivial), _, _, rfl, (by trivial), rfl⟩⟩⟩
theorem t58_ok : t58.ok Try.prog 58 := ⟨by kernel_rfl, by kernel_rfl, by kernel_rfl, ⟨_, Try.underlying58, rfl⟩, (fun h => by cases h), ⟨rfl, rfl, rfl, rfl, fun F h β => by
    show Rep F h β t58.z t58.zero
    simp only [t58, Rep, Reps]
    exact ⟨_, rfl, _, _, rfl, (by trivial), _, _, rfl, (by trivial), _, _, rfl, (.inl ⟨by trivial, none, 0, by trivial, by intros; rfl⟩), _, _, rfl, (by trivial), _, _, rfl, (by trivial), _, _, rfl, (.inl ⟨by trivial, none, 0, by trivial, by intros; rfl⟩), _, _, rfl, (by trivial), _, _, rfl, (by trivial), rfl⟩⟩⟩
theorem t59_ok : t59.ok Try.prog 59 := ⟨by kernel_rfl, by kernel_rfl, by kernel_rfl, ⟨_, Try.underlying59, rfl⟩, (fun h => by cases h), ⟨rfl, rfl, rfl, rfl, fun F h β => by
    show Rep F h β t59.z t59.zero
    simp only [t59, Rep, Reps]
    exact ⟨_, rfl, _, _, rfl, (by trivial), _, _, rfl, (by trivial), _, _, rfl, (.inl ⟨by trivial, none, 0, by trivial, by intros; rfl⟩), _, _, rfl, (by trivial), _, _, rfl, (by trivial), _, _, rfl, (.inl ⟨by trivial, none, 0, by trivial, by intros; rfl⟩), _, _, rfl, (by trivial), _, _, rfl, (by trivial), rfl⟩⟩⟩
theorem t63_ok : t63.ok Try.prog 63 := ⟨by kernel_rfl, by kernel_rfl, by kernel_rfl, Try.underlying63, (fun h => by cases h), ⟨rfl, rfl, rfl, rfl, fun F h β => by simp [t63, Rep, Reps]⟩⟩
theorem t66_ok : t66.ok Try.prog 66 := ⟨by kernel_rfl, by kernel_rfl, by kernel_rfl, Try.underlying66, (fun h => by cases h), ⟨rfl, rfl, rfl, rfl, fun F h β => by simp [t66, Rep, Reps]⟩⟩
theorem t77_ok : t77.ok Try.prog 77 := ⟨by kernel_rfl, by kernel_rfl, by kernel_rfl, ⟨_, _, _, Try.underlying77⟩, (fun h => by cases h), ⟨rfl, rfl, rfl, rfl, fun F h β => by simp [t77, Rep, Reps]⟩⟩
theorem t86_ok : t86.ok Try.prog 86 := ⟨by kernel_rfl, by kernel_rfl, by kernel_rfl, ⟨_, Try.underlying86, rfl⟩, (fun h => by cases h), ⟨rfl, rfl, rfl, rfl, fun F h β => by
    show Rep F h β t86.z t86.zero
    simp only [t86, Rep, Reps]
    exact ⟨_, rfl, _, _, rfl, (.inl ⟨by trivial, none, 0, by trivial, by intros; rfl⟩), _, _, rfl, (by trivial), _, _, rfl, (.inl ⟨by trivial, none, 0, by trivial, by intros; rfl⟩), _, _, rfl, (by trivial), rfl⟩⟩⟩
theorem t87_ok : t87.ok Try.prog 87 := ⟨by kernel_rfl, by kernel_rfl, by kernel_rfl, ⟨_, Try.underlying87, rfl⟩, (fun h => by cases h), ⟨rfl, rfl, rfl, rfl, fun F h β => by
    show Rep F h β t87.z t87.zero
    simp only [t87, Rep, Reps]
    exact ⟨_, rfl, _, _, rfl, (.inl ⟨by trivial, none, 0, by trivial, by intros; rfl⟩), _, _, rfl, (by trivial), _, _, rfl, (.inl ⟨by trivial, none, 0, by trivial, by intros; rfl⟩), _, _, rfl, (by trivial), rfl⟩⟩⟩
theorem t90_ok : t90.ok Try.prog 90 := ⟨by kernel_rfl, by kernel_rfl, by kernel_rfl, ⟨_, Try.underlying90, rfl⟩, (fun h => by cases h), ⟨rfl, rfl, rfl, rfl, fun F h β => by
    show Rep F h β t90.z t90.zero
    simp only [t90, Rep, Reps]
    exact ⟨_, rfl, _, _, rfl, (.inl ⟨by trivial, none, 0, by trivial, by intros; rfl⟩), _, _, rfl, (by trivial), _, _, rfl, (.inl ⟨by trivial, none, 0, by trivial, by intros; rfl⟩), _, _, rfl, (by trivial), rfl⟩⟩⟩
theorem t102_ok : t102.ok Try.prog 102 := ⟨by kernel_rfl, by kernel_rfl, by kernel_rfl, Try.underlying102, (fun h => by cases h), ⟨rfl, rfl, rfl, rfl, fun F h β => by simp [t102, Rep, Reps]⟩⟩
theorem t105_ok : t105.ok Try.prog 105 := ⟨by kernel_rfl, by kernel_rfl, by kernel_rfl, Try.underlying105, (fun h => by cases h), ⟨rfl, rfl, rfl, rfl, fun F h β => by simp [t105, Rep, Reps]⟩⟩
theorem t119_ok : t119.ok Try.prog 119 := ⟨by kernel_rfl, by kernel_rfl, by kernel_rfl, Try.underlying119, (fun h => by cases h), ⟨rfl, rfl, rfl, rfl, fun F h β => by simp [t119, Rep, Reps]⟩⟩
theorem t121_ok : t121.ok Try.prog 121 := ⟨by kernel_rfl, by kernel_rfl, by kernel_rfl, ⟨_, _, _, Try.underlying121⟩, (fun h => by cases h), ⟨rfl, rfl, rfl, rfl, fun F h β => by simp [t121, Rep, Reps]⟩⟩
theorem t122_ok : t122.ok Try.prog 122 := ⟨by kernel_rfl, by kernel_rfl, by kernel_rfl, ⟨_, Try.underlying122, rfl⟩, (fun h => by cases h), ⟨rfl, rfl, rfl, rfl, fun F h β => by
    show Rep F h β t122.z t122.zero
    simp only [t122, Rep, Reps]
    exact ⟨_, rfl, _, _, rfl, (.inl ⟨by trivial, none, 0, by trivial, by intros; rfl⟩), _, _, rfl, (by trivial), rfl⟩⟩⟩
theorem t123_ok : t123.ok Try.prog 123 := ⟨by kernel_rfl, by kernel_rfl, by kernel_rfl, ⟨_, Try.underlying123, rfl⟩, (fun h => by cases h), ⟨rfl, rfl, rfl, rfl, fun F h β => by
    show Rep F h β t123.z t123.zero
    simp only [t123, Rep, Reps]
    exact ⟨_, rfl, _, _, rfl, (.inl ⟨by trivial, none, 0, by trivial, by intros; rfl⟩), _, _, rfl, (by trivial), rfl⟩⟩⟩
theorem t136_ok : t136.ok Try.prog 136 := ⟨by kernel_rfl, by kernel_rfl, by kernel_rfl, ⟨_, _, _, Try.underlying136⟩, (fun h => by cases h), ⟨rfl, rfl, rfl, rfl, fun F h β => by simp [t136, Rep, Reps]⟩⟩
theorem t137_ok : t137.ok Try.prog 137 := ⟨by kernel_rfl, by kernel_rfl, by kernel_rfl, ⟨_, Try.underlying137, rfl⟩, (fun h => by cases h), ⟨rfl, rfl, rfl, rfl, fun F h β => by
    show Rep F h β t137.z t137.zero
    simp only [t137, Rep, Reps]
    exact ⟨_, rfl, _, _, rfl, (.inl ⟨by trivial, none, 0, by trivial, by intros; rfl⟩), _, _, rfl, (by trivial), rfl⟩⟩⟩
theorem t138_ok : t138.ok Try.prog 138 := ⟨by kernel_rfl, by kernel_rfl, by kernel_rfl, ⟨_, Try.underlying138, rfl⟩, (fun h => by cases h), ⟨rfl, rfl, rfl, rfl, fun F h β => by
    show Rep F h β t138.z t138.zero
    simp only [t138, Rep, Reps]
    exact ⟨_, rfl, _, _, rfl, (.inl ⟨by trivial, none, 0, by trivial, by intros; rfl⟩), _, _, rfl, (by trivial), rfl⟩⟩⟩
theorem t145_ok : t145.ok Try.prog 145 := ⟨by kernel_rfl, by kernel_rfl, by kernel_rfl, Try.underlying145, (fun h => by cases h), ⟨rfl, rfl, rfl, rfl, fun F h β => by simp [t145, Rep, Reps]⟩⟩
theorem t149_ok : t149.ok Try.prog 149 := ⟨by kernel_rfl, by kernel_rfl, by kernel_rfl, Try.underlying149, (fun h => by cases h), ⟨rfl, rfl, rfl, rfl, fun F h β => by simp [t149, Rep, Reps]⟩⟩
theorem t151_ok : t151.ok Try.prog 151 := ⟨by kernel_rfl, by kernel_rfl, by kernel_rfl, ⟨_, Try.underlying151, rfl⟩, (fun h => by cases h), ⟨rfl, rfl, rfl, rfl, fun F h β => by simp [t151, Rep, Reps]⟩⟩
theorem t152_ok : t152.ok Try.prog 152 := ⟨by kernel_rfl, by kernel_rfl, by kernel_rfl, ⟨_, Try.underlying152, rfl⟩, (fun h => by cases h), ⟨rfl, rfl, rfl, rfl, fun F h β => by simp [t152, Rep, Reps]⟩⟩
theorem t157_ok : t157.ok Try.prog 157 := ⟨by kernel_rfl, by kernel_rfl, by kernel_rfl, ⟨_, _, _, Try.underlying157⟩, (fun h => by cases h), ⟨rfl, rfl, rfl, rfl, fun F h β => by simp [t157, Rep, Reps]⟩⟩
theorem t164_ok : t164.ok Try.prog 164 := ⟨by kernel_rfl, by kernel_rfl, by kernel_rfl, ⟨_, Try.underlying164⟩, (fun h => by cases h), ⟨rfl, rfl, rfl, rfl, fun F h β => by simp [t164, Rep, Reps]⟩⟩
theorem t165_ok : t165.ok Try.prog 165 := ⟨by kernel_rfl, by kernel_rfl, by kernel_rfl, ⟨_, Try.underlying165⟩, (fun h => by cases h), ⟨rfl, rfl, rfl, rfl, fun F h β => by simp [t165, Rep, Reps]⟩⟩
theorem t173_ok : t173.ok Try.prog 173 := ⟨by kernel_rfl, by kernel_rfl, by kernel_rfl, Try.underlying173, (fun h => by cases h), ⟨rfl, rfl, rfl, rfl, fun F h β => by simp [t173, Rep, Reps]⟩⟩
theorem t174_ok : t174.ok Try.prog 174 := ⟨by kernel_rfl, by kernel_rfl, by kernel_rfl, ⟨_, Try.underlying174, rfl⟩, (fun _ => eqInts_of (by kernel_rfl) (by kernel_rfl) (by kernel_rfl)), ⟨rfl, rfl, rfl, rfl, fun F h β => by simp [t174, Rep, Reps]⟩⟩
theorem t175_ok : t175.ok Try.prog 175 := ⟨by kernel_rfl, by kernel_rfl, by kernel_rfl, ⟨_, Try.underlying175, rfl⟩, (fun _ => eqInts_of (by kernel_rfl) (by kernel_rfl) (by kernel_rfl)), ⟨rfl, rfl, rfl, rfl, fun F h β => by simp [t175, Rep, Reps]⟩⟩
theorem t177_ok : t177.ok Try.prog 177 := ⟨by kernel_rfl, by kernel_rfl, by kernel_rfl, ⟨_, Try.underlying177, rfl⟩, (fun _ => eqInts_of (by kernel_rfl) (by kernel_rfl) (by kernel_rfl)), ⟨rfl, rfl, rfl, rfl, fun F h β => by simp [t177, Rep, Reps]⟩⟩
theorem t192_ok : t192.ok Try.prog 192 := ⟨by kernel_rfl, by kernel_rfl, by kernel_rfl, Try.underlying192, (fun h => by cases h), ⟨rfl, rfl, rfl, rfl, fun F h β => by simp [t192, Rep, Reps]⟩⟩
theorem t197_ok : t197.ok Try.prog 197 := ⟨by kernel_rfl, by kernel_rfl, by kernel_rfl, Try.underlying197, (fun h => by cases h), ⟨rfl, rfl, rfl, rfl, fun F h β => by simp [t197, Rep, Reps]⟩⟩
theorem t199_ok : t199.ok Try.prog 199 := ⟨by kernel_rfl, by kernel_rfl, by kernel_rfl, ⟨_, Try.underlying199, rfl⟩, (fun h => by cases h), ⟨rfl, rfl, rfl, rfl, fun F h β => by simp [t199, Rep, Reps]⟩⟩
theorem t200_ok : t200.ok Try.prog 200 := ⟨by kernel_rfl, by kernel_rfl, by kernel_rfl, ⟨_, Try.underlying200, rfl⟩, (fun h => by cases h), ⟨rfl, rfl, rfl, rfl, fun F h β => by simp [t200, Rep, Reps]⟩⟩
theorem t207_ok : t207.ok Try.prog 207 := ⟨by kernel_rfl, by kernel_rfl, by kernel_rfl, Try.underlying207, (fun h => by cases h), ⟨rfl, rfl, rfl, rfl, fun F h β => by simp [t207, Rep, Reps]⟩⟩
theorem t210_ok : t210.ok Try.prog 210 := ⟨by kernel_rfl, by kernel_rfl, by kernel_rfl, Try.underlying210, (fun h => by cases h), ⟨rfl, rfl, rfl, rfl, fun F h β => by simp [t210, Rep, Reps]⟩⟩
theorem t213_ok : t213.ok Try.prog 213 := ⟨by kernel_rfl, by kernel_rfl, by kernel_rfl, ⟨_, Try.underlying213, rfl⟩, (fun _ => eqInts_of (by kernel_rfl) (by kernel_rfl) (by kernel_rfl)), ⟨rfl, rfl, rfl, rfl, fun F h β => by simp [t213, Rep, Reps]⟩⟩
theorem t214_ok : t214.ok Try.prog 214 := ⟨by kernel_rfl, by kernel_rfl, by kernel_rfl, ⟨_, Try.underlying214, rfl⟩, (fun _ => eqInts_of (by kernel_rfl) (by kernel_rfl) (by kernel_rfl)), ⟨rfl, rfl, rfl, rfl, fun F h β => by simp [t214, Rep, Reps]⟩⟩
theorem t219_ok : t219.ok Try.prog 219 := ⟨by kernel_rfl, by kernel_rfl, by kernel_rfl, Try.underlying219, (fun h => by cases h), ⟨rfl, rfl, rfl, rfl, fun F h β => by simp [t219, Rep, Reps]⟩⟩
theorem t226_ok : t226.ok Try.prog 226 := ⟨by kernel_rfl, by kernel_rfl, by kernel_rfl, Try.underlying226, (fun h => by cases h), ⟨rfl, rfl, rfl, rfl, fun F h β => by simp [t226, Rep, Reps]⟩⟩
theorem t228_ok : t228.ok Try.prog 228 := ⟨by kernel_rfl, by kernel_rfl, by kernel_rfl, Try.underlying228, (fun h => by cases h), ⟨rfl, rfl, rfl, rfl, fun F h β => by simp [t228, Rep, Reps]⟩⟩
theorem t229_ok : t229.ok Try.prog 229 := ⟨by kernel_rfl, by kernel_rfl, by kernel_rfl, ⟨_, Try.underlying229⟩, (fun h => by cases h), ⟨rfl, rfl, rfl, rfl, fun F h β => by simp [t229, Rep, Reps]⟩⟩
theorem t230_ok : t230.ok Try.prog 230 := ⟨by kernel_rfl, by kernel_rfl, by kernel_rfl, ⟨_, Try.underlying230⟩, (fun h => by cases h), ⟨rfl, rfl, rfl, rfl, fun F h β => by simp [t230, Rep, Reps]⟩⟩
theorem t233_ok : t233.ok Try.prog 233 := ⟨by kernel_rfl, by kernel_rfl, by kernel_rfl, Try.underlying233, (fun h => by cases h), ⟨rfl, rfl, rfl, rfl, fun F h β => by simp [t233, Rep, Reps]⟩⟩
theorem t237_ok : t237.ok Try.prog 237 := ⟨by kernel_rfl, by kernel_rfl, by kernel_rfl, Try.underlying237, (fun h => by cases h), ⟨rfl, rfl, rfl, rfl, fun F h β => by simp [t237, Rep, Reps]⟩⟩
theorem t239_ok : t239.ok Try.prog 239 := ⟨by kernel_rfl, by kernel_rfl, by kernel_rfl, ⟨_, Try.underlying239, rfl⟩, (fun _ => eqInts_of (by kernel_rfl) (by kernel_rfl) (by kernel_rfl)), ⟨rfl, rfl, rfl, rfl, fun F h β => by simp [t239, Rep, Reps]⟩⟩
theorem t240_ok : t240.ok Try.prog 240 := ⟨by kernel_rfl, by kernel_rfl, by kernel_rfl, ⟨_, Try.underlying240, rfl⟩, (fun _ => eqInts_of (by kernel_rfl) (by kernel_rfl) (by kernel_rfl)), ⟨rfl, rfl, rfl, rfl, fun F h β => by simp [t240, Rep, Reps]⟩⟩
theorem t241_ok : t241.ok Try.prog 241 := ⟨by kernel_rfl, by kernel_rfl, by kernel_rfl, ⟨_, Try.underlying241, rfl⟩, (fun _ => eqInts_of (by kernel_rfl) (by kernel_rfl) (by kernel_rfl)), ⟨rfl, rfl, rfl, rfl, fun F h β => by simp [t241, Rep, Reps]⟩⟩
theorem t242_ok : t242.ok Try.prog 242 := ⟨by kernel_rfl, by kernel_rfl, by kernel_rfl, Try.underlying242, (fun h => by cases h), ⟨rfl, rfl, rfl, rfl, fun F h β => by simp [t242, Rep, Reps]⟩⟩
theorem t254_ok : t254.ok Try.prog 254 := ⟨by kernel_rfl, by kernel_rfl, by kernel_rfl, ⟨_, _, _, Try.underlying254⟩, (fun h => by cases h), ⟨rfl, rfl, rfl, rfl, fun F h β => by simp [t254, Rep, Reps]⟩⟩
theorem t255_ok : t255.ok Try.prog 255 := ⟨by kernel_rfl, by kernel_rfl, by kernel_rfl, Try.underlying255, (fun h => by cases h), ⟨rfl, rfl, rfl, rfl, fun F h β => by simp [t255, Rep, Reps]⟩⟩
theorem t258_ok : t258.ok Try.prog 258 := ⟨by kernel_rfl, by kernel_rfl, by kernel_rfl, ⟨_, Try.underlying258, rfl⟩, (fun h => by cases h), ⟨rfl, rfl, rfl, rfl, fun F h β => by simp [t258, Rep, Reps]⟩⟩
theorem t264_ok : t264.ok Try.prog 264 := ⟨by kernel_rfl, by kernel_rfl, by kernel_rfl, ⟨_, Try.underlying264, rfl⟩, (fun _ => eqInts_of (by kernel_rfl) (by kernel_rfl) (by kernel_rfl)), ⟨rfl, rfl, rfl, rfl, fun F h β => by simp [t264, Rep, Reps]⟩⟩
def G : Ctx := [(2, t2), (3, t3), (4, t4), (5, t5), (9, t9), (12, t12), (20, t20), (21, t21), (22, t22), (23, t23), (24, t24), (25, t25), (26, t26), (27, t27), (28, t28), (29, t29), (32, t32), (35, t35), (44, t44), (48, t48), (49, t49), (51, t51), (54, t54), (55, t55), (58, t58), (59, t59), (63, t63), (66, t66), (77, t77), (86, t86), (87, t87), (90, t90), (102, t102), (105, t105), (119, t119), (121, t121), (122, t122), (123, t123), (136, t136), (137, t137), (138, t138), (145, t145), (149, t149), (151, t151), (152, t152), (157, t157), (164, t164), (165, t165), (173, t173), (174, t174), (175, t175), (177, t177), (192, t192), (197, t197), (199, t199), (200, t200), (207, t207), (210, t210), (213, t213), (214, t214), (219, t219), (226, t226), (228, t228), (229, t229), (230, t230), (233, t233), (237, t237), (239, t239), (240, t240), (241, t241), (242, t242), (254, t254), (255, t255), (258, t258), (264, t264)]
@[simp] theorem G_2 : G.get 2 = some t2 := rfl
@[simp] theorem G_3 : G.get 3 = some t3 := rfl
@[simp] theorem G_4 : G.get 4 = some t4 := rfl
@[simp] theorem G_5 : G.get 5 = some t5 := rfl
@[simp] theorem G_9 : G.get 9 = some t9 := rfl
@[simp] theorem G_12 : G.get 12 = some t12 := rfl
@[simp] theorem G_20 : G.get 20 = some t20 := rfl
@[simp] theorem G_21 : G.get 21 = some t21 := rfl
@[simp] theorem G_22 : G.get 22 = some t22 := rfl
@[simp] theorem G_23 : G.get 23 = some t23 := rfl
@[simp] theorem G_24 : G.get 24 = some t24 := rfl
@[simp] theorem G_25 : G.get 25 = some t25 := rfl
@[simp] theorem G_26 : G.get 26 = some t26 := rfl
@[simp] theorem G_27 : G.get 27 = some t27 := rfl
@[simp] theorem G_28 : G.get 28 = some t28 := rfl
@[simp] theorem G_29 : G.get 29 = some t29 := rfl
@[simp] theorem G_32 : G.get 32 = some t32 := rfl
@[simp] theorem G_35 : G.get 35 = some t35 := rfl
@[simp] theorem G_44 : G.get 44 = some t44 := rfl
@[simp] theorem G_48 : G.get 48 = some t48 := rfl
@[simp] theorem G_49 : G.get 49 = some t49 := rfl
@[simp] theorem G_51 : G.get 51 = some t51 := rfl
@[simp] theorem G_54 : G.get 54 = some t54 := rfl
@[simp] theorem G_55 : G.get 55 = some t55 := rfl
@[simp] theorem G_58 : G.get 58 = some t58 := rfl
@[simp] theorem G_59 : G.get 59 = some t59 := rfl
@[simp] theorem G_63 : G.get 63 = some t63 := rfl
@[simp] theorem G_66 : G.get 66 = some t66 := rfl
@[simp] theorem G_77 : G.get 77 = some t77 := rfl
@[simp] theorem G_86 : G.get 86 = some t86 := rfl
@[simp] theorem G_87 : G.get 87 = some t87 := rfl
@[simp] theorem G_90 : G.get 90 = some t90 := rfl
@[simp] theorem G_102 : G.get 102 = some t102 := rfl
@[simp] theorem G_105 : G.get 105 = some t105 := rfl
@[simp] theorem G_119 : G.get 119 = some t119 := rfl
@[simp] theorem G_121 : G.get 121 = some t121 := rfl
@[simp] theorem G_122 : G.get 122 = some t122 := rfl
@[simp] theorem G_123 : G.get 123 = some t123 := rfl
@[simp] theorem G_136 : G.get 136 = some t136 := rfl
@[simp] theorem G_137 : G.get 137 = some t137 := rfl
@[simp] theorem G_138 : G.get 138 = some t138 := rfl
@[simp] theorem G_145 : G.get 145 = some t145 := rfl
@[simp] theorem G_149 : G.get 149 = some t149 := rfl
@[simp] theorem G_151 : G.get 151 = some t151 := rfl
@[simp] theorem G_152 : G.get 152 = some t152 := rfl
@[simp] theorem G_157 : G.get 157 = some t157 := rfl
@[simp] theorem G_164 : G.get 164 = some t164 := rfl
@[simp] theorem G_165 : G.get 165 = some t165 := rfl
@[simp] theorem G_173 : G.get 173 = some t173 := rfl
@[simp] theorem G_174 : G.get 174 = some t174 := rfl
@[simp] theorem G_175 : G.get 175 = some t175 := rfl
@[simp] theorem G_177 : G.get 177 = some t177 := rfl
@[simp] theorem G_192 : G.get 192 = some t192 := rfl
@[simp] theorem G_197 : G.get 197 = some t197 := rfl
@[simp] theorem G_199 : G.get 199 = some t199 := rfl
@[simp] theorem G_200 : G.get 200 = some t200 := rfl
@[simp] theorem G_207 : G.get 207 = some t207 := rfl
@[simp] theorem G_210 : G.get 210 = some t210 := rfl
@[simp] theorem G_213 : G.get 213 = some t213 := rfl
@[simp] theorem G_214 : G.get 214 = some t214 := rfl
@[simp] theorem G_219 : G.get 219 = some t219 := rfl
@[simp] theorem G_226 : G.get 226 = some t226 := rfl
@[simp] theorem G_228 : G.get 228 = some t228 := rfl
@[simp] theorem G_229 : G.get 229 = some t229 := rfl
@[simp] theorem G_230 : G.get 230 = some t230 := rfl
@[simp] theorem G_233 : G.get 233 = some t233 := rfl
@[simp] theorem G_237 : G.get 237 = some t237 := rfl
@[simp] theorem G_239 : G.get 239 = some t239 := rfl
@[simp] theorem G_240 : G.get 240 = some t240 := rfl
@[simp] theorem G_241 : G.get 241 = some t241 := rfl
@[simp] theorem G_242 : G.get 242 = some t242 := rfl
@[simp] theorem G_254 : G.get 254 = some t254 := rfl
@[simp] theorem G_255 : G.get 255 = some t255 := rfl
@[simp] theorem G_258 : G.get 258 = some t258 := rfl
@[simp] theorem G_264 : G.get 264 = some t264 := rfl
theorem G_ok : G.ok Try.prog := by
  intro p hp
  simp only [G, List.mem_cons, List.not_mem_nil, or_false] at hp
  rcases hp with rfl | rfl | rfl | rfl | rfl | rfl | rfl | rfl | rfl | rfl | rfl | rfl | rfl | rfl | rfl | rfl | rfl | rfl | rfl | rfl | rfl | rfl | rfl | rfl | rfl | rfl | rfl | rfl | rfl | rfl | rfl | rfl | rfl | rfl | rfl | rfl | rfl | rfl | rfl | rfl | rfl | rfl | rfl | rfl | rfl | rfl | rfl | rfl | rfl | rfl | rfl | rfl | rfl | rfl | rfl | rfl | rfl | rfl | rfl | rfl | rfl | rfl | rfl | rfl | rfl | rfl | rfl | rfl | rfl | rfl | rfl | rfl | rfl | rfl | rfl
  · exact t2_ok
  · exact t3_ok
  · exact t4_ok
  · exact t5_ok
  · exact t9_ok
  · exact t12_ok
  · exact t20_ok
  · exact t21_ok
  · exact t22_ok
  · exact t23_ok
  · exact t24_ok
  · exact t25_ok
  · exact t26_ok
  · exact t27_ok
  · exact t28_ok
  · exact t29_ok
  · exact t32_ok
  · exact t35_ok
  · exact t44_ok
  · exact t48_ok
  · exact t49_ok
  · exact t51_ok
  · exact t54_ok
  · exact t55_ok
  · exact t58_ok
  · exact t59_ok
  · exact t63_ok
  · exact t66_ok
  · exact t77_ok
  · exact t86_ok
  · exact t87_ok
  · exact t90_ok
  · exact t102_ok
  · exact t105_ok
  · exact t119_ok
  · exact t121_ok
  · exact t122_ok
  · exact t123_ok
  · exact t136_ok
  · exact t137_ok
  · exact t138_ok
  · exact t145_ok
  · exact t149_ok
  · exact t151_ok
  · exact t152_ok
  · exact t157_ok
  · exact t164_ok
  · exact t165_ok
  · exact t173_ok
  · exact t174_ok
  · exact t175_ok
  · exact t177_ok
  · exact t192_ok
  · exact t197_ok
  · exact t199_ok
  · exact t200_ok
  · exact t207_ok
  · exact t210_ok
  · exact t213_ok
  · exact t214_ok
  · exact t219_ok
  · exact t226_ok
  · exact t228_ok
  · exact t229_ok
  · exact t230_ok
  · exact t233_ok
  · exact t237_ok
  · exact t239_ok
  · exact t240_ok
  · exact t241_ok
  · exact t242_ok
  · exact t254_ok
  · exact t255_ok
  · exact t258_ok
  · exact t264_ok
theorem mix : Try.prog.follows .mixedOrders = true := by kernel_rfl
end Go.Proofs.Ytlpobdjfdbfhaaa
