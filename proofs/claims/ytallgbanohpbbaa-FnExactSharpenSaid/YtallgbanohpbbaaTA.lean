/- What is known of the types of this program: their sizes, zero values and parts. -/
import Derived.Test.YtallgbanohpbbaaProg
import Derived.Test.YtallgbanohpbbaaTY
import Derived.KernelRfl
namespace Go.Proofs.Ytallgbanohpbbaa
open Go Go.Eng
set_option linter.unusedSimpArgs false
set_option linter.unusedVariables false
set_option maxRecDepth 20000
/-- int64 -/
def t2 : TI := ⟨1, 8, .int .i64 0, .lit (.int .i64 0), .lit (.int .i64 0), .int .i64, false⟩
@[simp] theorem t2_size : t2.size = 1 := rfl
@[simp] theorem t2_bytes : t2.bytes = 8 := rfl
@[simp] theorem t2_z : t2.z = .lit (.int .i64 0) := rfl
@[simp] theorem t2_y : t2.y = .lit (.int .i64 0) := rfl
@[simp] theorem t2_kind : t2.kind = .int .i64 := rfl
@[simp] theorem t2_cmp : t2.cmp = false := rfl
/-- int -/
def t3 : TI := ⟨1, 8, .int .i64 0, .lit (.int .i64 0), .lit (.int .i64 0), .int .i64, false⟩
@[simp] theorem t3_size : t3.size = 1 := rfl
@[simp] theorem t3_bytes : t3.bytes = 8 := rfl
@[simp] theorem t3_z : t3.z = .lit (.int .i64 0) := rfl
@[simp] theorem t3_y : t3.y = .lit (.int .i64 0) := rfl
@[simp] theorem t3_kind : t3.kind = .int .i64 := rfl
@[simp] theorem t3_cmp : t3.cmp = false := rfl
/-- bool -/
def t4 : TI := ⟨1, 1, .bool false, .lit (.bool false), .lit (.bool false), .bool, false⟩
@[simp] theorem t4_size : t4.size = 1 := rfl
@[simp] theorem t4_bytes : t4.bytes = 1 := rfl
@[simp] theorem t4_z : t4.z = .lit (.bool false) := rfl
@[simp] theorem t4_y : t4.y = .lit (.bool false) := rfl
@[simp] theorem t4_kind : t4.kind = .bool := rfl
@[simp] theorem t4_cmp : t4.cmp = false := rfl
/-- uint8 -/
def t5 : TI := ⟨1, 1, .int .u8 0, .lit (.int .u8 0), .lit (.int .u8 0), .int .u8, false⟩
@[simp] theorem t5_size : t5.size = 1 := rfl
@[simp] theorem t5_bytes : t5.bytes = 1 := rfl
@[simp] theorem t5_z : t5.z = .lit (.int .u8 0) := rfl
@[simp] theorem t5_y : t5.y = .lit (.int .u8 0) := rfl
@[simp] theorem t5_kind : t5.kind = .int .u8 := rfl
@[simp] theorem t5_cmp : t5.cmp = false := rfl
/-- string -/
def t9 : TI := ⟨1, 16, .string ⟨#[]⟩, .lit (.string ⟨#[]⟩), .lit (.string ⟨#[]⟩), .str, false⟩
@[simp] theorem t9_size : t9.size = 1 := rfl
@[simp] theorem t9_bytes : t9.bytes = 16 := rfl
@[simp] theorem t9_z : t9.z = .lit (.string ⟨#[]⟩) := rfl
@[simp] theorem t9_y : t9.y = .lit (.string ⟨#[]⟩) := rfl
@[simp] theorem t9_kind : t9.kind = .str := rfl
@[simp] theorem t9_cmp : t9.cmp = false := rfl
/-- uintptr -/
def t12 : TI := ⟨1, 8, .int .u64 0, .lit (.int .u64 0), .lit (.int .u64 0), .int .u64, false⟩
@[simp] theorem t12_size : t12.size = 1 := rfl
@[simp] theorem t12_bytes : t12.bytes = 8 := rfl
@[simp] theorem t12_z : t12.z = .lit (.int .u64 0) := rfl
@[simp] theorem t12_y : t12.y = .lit (.int .u64 0) := rfl
@[simp] theorem t12_kind : t12.kind = .int .u64 := rfl
@[simp] theorem t12_cmp : t12.cmp = false := rfl
/-- interface {} -/
def t20 : TI := ⟨1, 16, .nilIface, .lit .nilIface, .lit .nilIface, .iface, false⟩
@[simp] theorem t20_size : t20.size = 1 := rfl
@[simp] theorem t20_bytes : t20.bytes = 16 := rfl
@[simp] theorem t20_z : t20.z = .lit .nilIface := rfl
@[simp] theorem t20_y : t20.y = .lit .nilIface := rfl
@[simp] theorem t20_kind : t20.kind = .iface := rfl
@[simp] theorem t20_cmp : t20.cmp = false := rfl
/-- int32 -/
def t21 : TI := ⟨1, 4, .int .i32 0, .lit (.int .i32 0), .lit (.int .i32 0), .int .i32, false⟩
@[simp] theorem t21_size : t21.size = 1 := rfl
@[simp] theorem t21_bytes : t21.bytes = 4 := rfl
@[simp] theorem t21_z : t21.z = .lit (.int .i32 0) := rfl
@[simp] theorem t21_y : t21.y = .lit (.int .i32 0) := rfl
@[simp] theorem t21_kind : t21.kind = .int .i32 := rfl
@[simp] theorem t21_cmp : t21.cmp = false := rfl
/-- struct { Id int; Kind int; Colour int; Size int; Worth int } -/
def t22 : TI := ⟨5, 40, .agg #[.int .i64 0, .int .i64 0, .int .i64 0, .int .i64 0, .int .i64 0], .agg [.lit (.int .i64 0), .lit (.int .i64 0), .lit (.int .i64 0), .lit (.int .i64 0), .lit (.int .i64 0)], yTThing, .st [(0, 3), (1, 3), (2, 3), (3, 3), (4, 3)], true⟩
@[simp] theorem t22_size : t22.size = 5 := rfl
@[simp] theorem t22_bytes : t22.bytes = 40 := rfl
@[simp] theorem t22_z : t22.z = .agg [.lit (.int .i64 0), .lit (.int .i64 0), .lit (.int .i64 0), .lit (.int .i64 0), .lit (.int .i64 0)] := rfl
@[simp] theorem t22_y : t22.y = yTThing := rfl
@[simp] theorem t22_kind : t22.kind = .st [(0, 3), (1, 3), (2, 3), (3, 3), (4, 3)] := rfl
@[simp] theorem t22_cmp : t22.cmp = true := rfl
/-- laws.Thing = loop.example/g03007/laws.Thing -/
def t23 : TI := ⟨5, 40, .agg #[.int .i64 0, .int .i64 0, .int .i64 0, .int .i64 0, .int .i64 0], .agg [.lit (.int .i64 0), .lit (.int .i64 0), .lit (.int .i64 0), .lit (.int .i64 0), .lit (.int .i64 0)], yTThing, .st [(0, 3), (1, 3), (2, 3), (3, 3), (4, 3)], true⟩
@[simp] theorem t23_size : t23.size = 5 := rfl
@[simp] theorem t23_bytes : t23.bytes = 40 := rfl
@[simp] theorem t23_z : t23.z = .agg [.lit (.int .i64 0), .lit (.int .i64 0), .lit (.int .i64 0), .lit (.int .i64 0), .lit (.int .i64 0)] := rfl
@[simp] theorem t23_y : t23.y = yTThing := rfl
@[simp] theorem t23_kind : t23.kind = .st [(0, 3), (1, 3), (2, 3), (3, 3), (4, 3)] := rfl
@[simp] theorem t23_cmp : t23.cmp = true := rfl
/-- struct { Thing laws.Thing; Place int; At int; Finder int } -/
def t24 : TI := ⟨8, 64, .agg #[.int .i64 0, .int .i64 0, .int .i64 0, .int .i64 0, .int .i64 0, .int .i64 0, .int .i64 0, .int .i64 0], .agg [.lit (.int .i64 0), .lit (.int .i64 0), .lit (.int .i64 0), .lit (.int .i64 0), .lit (.int .i64 0), .lit (.int .i64 0), .lit (.int .i64 0), .lit (.int .i64 0)], yTFind, .st [(0, 23), (5, 3), (6, 3), (7, 3)], true⟩
@[simp] theorem t24_size : t24.size = 8 := rfl
@[simp] theorem t24_bytes : t24.bytes = 64 := rfl
@[simp] theorem t24_z : t24.z = .agg [.lit (.int .i64 0), .lit (.int .i64 0), .lit (.int .i64 0), .lit (.int .i64 0), .lit (.int .i64 0), .lit (.int .i64 0), .lit (.int .i64 0), .lit (.int .i64 0)] := rfl
@[simp] theorem t24_y : t24.y = yTFind := rfl
@[simp] theorem t24_kind : t24.kind = .st [(0, 23), (5, 3), (6, 3), (7, 3)] := rfl
@[simp] theorem t24_cmp : t24.cmp = true := rfl
/-- laws.Find = loop.example/g03007/laws.Find -/
def t25 : TI := ⟨8, 64, .agg #[.int .i64 0, .int .i64 0, .int .i64 0, .int .i64 0, .int .i64 0, .int .i64 0, .int .i64 0, .int .i64 0], .agg [.lit (.int .i64 0), .lit (.int .i64 0), .lit (.int .i64 0), .lit (.int .i64 0), .lit (.int .i64 0), .lit (.int .i64 0), .lit (.int .i64 0), .lit (.int .i64 0)], yTFind, .st [(0, 23), (5, 3), (6, 3), (7, 3)], true⟩
@[simp] theorem t25_size : t25.size = 8 := rfl
@[simp] theorem t25_bytes : t25.bytes = 64 := rfl
@[simp] theorem t25_z : t25.z = .agg [.lit (.int .i64 0), .lit (.int .i64 0), .lit (.int .i64 0), .lit (.int .i64 0), .lit (.int .i64 0), .lit (.int .i64 0), .lit (.int .i64 0), .lit (.int .i64 0)] := rfl
@[simp] theorem t25_y : t25.y = yTFind := rfl
@[simp] theorem t25_kind : t25.kind = .st [(0, 23), (5, 3), (6, 3), (7, 3)] := rfl
@[simp] theorem t25_cmp : t25.cmp = true := rfl
/-- []int -/
def t26 : TI := ⟨1, 24, .slice none 0 0, .sl true 0 .any [], yLI, .slice 3, false⟩
@[simp] theorem t26_size : t26.size = 1 := rfl
@[simp] theorem t26_bytes : t26.bytes = 24 := rfl
@[simp] theorem t26_z : t26.z = .sl true 0 .any [] := rfl
@[simp] theorem t26_y : t26.y = yLI := rfl
@[simp] theorem t26_kind : t26.kind = .slice 3 := rfl
@[simp] theorem t26_cmp : t26.cmp = false := rfl
/-- struct { Colours []int; Size int; Places []int; Hours int } -/
def t27 : TI := ⟨4, 64, .agg #[.slice none 0 0, .int .i64 0, .slice none 0 0, .int .i64 0], .agg [.sl true 0 .any [], .lit (.int .i64 0), .sl true 0 .any [], .lit (.int .i64 0)], yTDoubt, .st [(0, 26), (1, 3), (2, 26), (3, 3)], false⟩
@[simp] theorem t27_size : t27.size = 4 := rfl
@[simp] theorem t27_bytes : t27.bytes = 64 := rfl
@[simp] theorem t27_z : t27.z = .agg [.sl true 0 .any [], .lit (.int .i64 0), .sl true 0 .any [], .lit (.int .i64 0)] := rfl
@[simp] theorem t27_y : t27.y = yTDoubt := rfl
@[simp] theorem t27_kind : t27.kind = .st [(0, 26), (1, 3), (2, 26), (3, 3)] := rfl
@[simp] theorem t27_cmp : t27.cmp = false := rfl
/-- laws.Doubt = loop.example/g03007/laws.Doubt -/
def t28 : TI := ⟨4, 64, .agg #[.slice none 0 0, .int .i64 0, .slice none 0 0, .int .i64 0], .agg [.sl true 0 .any [], .lit (.int .i64 0), .sl true 0 .any [], .lit (.int .i64 0)], yTDoubt, .st [(0, 26), (1, 3), (2, 26), (3, 3)], false⟩
@[simp] theorem t28_size : t28.size = 4 := rfl
@[simp] theorem t28_bytes : t28.bytes = 64 := rfl
@[simp] theorem t28_z : t28.z = .agg [.sl true 0 .any [], .lit (.int .i64 0), .sl true 0 .any [], .lit (.int .i64 0)] := rfl
@[simp] theorem t28_y : t28.y = yTDoubt := rfl
@[simp] theorem t28_kind : t28.kind = .st [(0, 26), (1, 3), (2, 26), (3, 3)] := rfl
@[simp] theorem t28_cmp : t28.cmp = false := rfl
/-- struct { From int; Until int } -/
def t30 : TI := ⟨2, 16, .agg #[.int .i64 0, .int .i64 0], .agg [.lit (.int .i64 0), .lit (.int .i64 0)], yTSpan, .st [(0, 3), (1, 3)], true⟩
@[simp] theorem t30_size : t30.size = 2 := rfl
@[simp] theorem t30_bytes : t30.bytes = 16 := rfl
@[simp] theorem t30_z : t30.z = .agg [.lit (.int .i64 0), .lit (.int .i64 0)] := rfl
@[simp] theorem t30_y : t30.y = yTSpan := rfl
@[simp] theorem t30_kind : t30.kind = .st [(0, 3), (1, 3)] := rfl
@[simp] theorem t30_cmp : t30.cmp = true := rfl
/-- impl.Span = loop.example/g03007/impl.Span -/
def t31 : TI := ⟨2, 16, .agg #[.int .i64 0, .int .i64 0], .agg [.lit (.int .i64 0), .lit (.int .i64 0)], yTSpan, .st [(0, 3), (1, 3)], true⟩
@[simp] theorem t31_size : t31.size = 2 := rfl
@[simp] theorem t31_bytes : t31.bytes = 16 := rfl
@[simp] theorem t31_z : t31.z = .agg [.lit (.int .i64 0), .lit (.int .i64 0)] := rfl
@[simp] theorem t31_y : t31.y = yTSpan := rfl
@[simp] theorem t31_kind : t31.kind = .st [(0, 3), (1, 3)] := rfl
@[simp] theorem t31_cmp : t31.cmp = true := rfl
/-- struct { Id int; Kind int; Colours []int; SizeLow int; SizeHigh int; Places []int; Span impl.Span } -/
def t32 : TI := ⟨8, 96, .agg #[.int .i64 0, .int .i64 0, .slice none 0 0, .int .i64 0, .int .i64 0, .slice none 0 0, .int .i64 0, .int .i64 0], .agg [.lit (.int .i64 0), .lit (.int .i64 0), .sl true 0 .any [], .lit (.int .i64 0), .lit (.int .i64 0), .sl true 0 .any [], .lit (.int .i64 0), .lit (.int .i64 0)], yTReport, .st [(0, 3), (1, 3), (2, 26), (3, 3), (4, 3), (5, 26), (6, 31)], false⟩
@[simp] theorem t32_size : t32.size = 8 := rfl
@[simp] theorem t32_bytes : t32.bytes = 96 := rfl
@[simp] theorem t32_z : t32.z = .agg [.lit (.int .i64 0), .lit (.int .i64 0), .sl true 0 .any [], .lit (.int .i64 0), .lit (.int .i64 0), .sl true 0 .any [], .lit (.int .i64 0), .lit (.int .i64 0)] := rfl
@[simp] theorem t32_y : t32.y = yTReport := rfl
@[simp] theorem t32_kind : t32.kind = .st [(0, 3), (1, 3), (2, 26), (3, 3), (4, 3), (5, 26), (6, 31)] := rfl
@[simp] theorem t32_cmp : t32.cmp = false := rfl
/-- impl.Report = loop.example/g03007/impl.Report -/
def t33 : TI := ⟨8, 96, .agg #[.int .i64 0, .int .i64 0, .slice none 0 0, .int .i64 0, .int .i64 0, .slice none 0 0, .int .i64 0, .int .i64 0], .agg [.lit (.int .i64 0), .lit (.int .i64 0), .sl true 0 .any [], .lit (.int .i64 0), .lit (.int .i64 0), .sl true 0 .any [], .lit (.int .i64 0), .lit (.int .i64 0)], yTReport, .st [(0, 3), (1, 3), (2, 26), (3, 3), (4, 3), (5, 26), (6, 31)], false⟩
@[simp] theorem t33_size : t33.size = 8 := rfl
@[simp] theorem t33_bytes : t33.bytes = 96 := rfl
@[simp] theorem t33_z : t33.z = .agg [.lit (.int .i64 0), .lit (.int .i64 0), .sl true 0 .any [], .lit (.int .i64 0), .lit (.int .i64 0), .sl true 0 .any [], .lit (.int .i64 0), .lit (.int .i64 0)] := rfl
@[simp] theorem t33_y : t33.y = yTReport := rfl
@[simp] theorem t33_kind : t33.kind = .st [(0, 3), (1, 3), (2, 26), (3, 3), (4, 3), (5, 26), (6, 31)] := rfl
@[simp] theorem t33_cmp : t33.cmp = false := rfl
/-- impl.Thing = loop.example/g03007/impl.Thing -/
def t36 : TI := ⟨5, 40, .agg #[.int .i64 0, .int .i64 0, .int .i64 0, .int .i64 0, .int .i64 0], .agg [.lit (.int .i64 0), .lit (.int .i64 0), .lit (.int .i64 0), .lit (.int .i64 0), .lit (.int .i64 0)], yTThing, .st [(0, 3), (1, 3), (2, 3), (3, 3), (4, 3)], true⟩
@[simp] theorem t36_size : t36.size = 5 := rfl
@[simp] theorem t36_bytes : t36.bytes = 40 := rfl
@[simp] theorem t36_z : t36.z = .agg [.lit (.int .i64 0), .lit (.int .i64 0), .lit (.int .i64 0), .lit (.int .i64 0), .lit (.int .i64 0)] := rfl
@[simp] theorem t36_y : t36.y = yTThing := rfl
@[simp] theorem t36_kind : t36.kind = .st [(0, 3), (1, 3), (2, 3), (3, 3), (4, 3)] := rfl
@[simp] theorem t36_cmp : t36.cmp = true := rfl
/-- struct { Thing impl.Thing; Place int; At int; Finder int } -/
def t37 : TI := ⟨8, 64, .agg #[.int .i64 0, .int .i64 0, .int .i64 0, .int .i64 0, .int .i64 0, .int .i64 0, .int .i64 0, .int .i64 0], .agg [.lit (.int .i64 0), .lit (.int .i64 0), .lit (.int .i64 0), .lit (.int .i64 0), .lit (.int .i64 0), .lit (.int .i64 0), .lit (.int .i64 0), .lit (.int .i64 0)], yTFind, .st [(0, 36), (5, 3), (6, 3), (7, 3)], true⟩
@[simp] theorem t37_size : t37.size = 8 := rfl
@[simp] theorem t37_bytes : t37.bytes = 64 := rfl
@[simp] theorem t37_z : t37.z = .agg [.lit (.int .i64 0), .lit (.int .i64 0), .lit (.int .i64 0), .lit (.int .i64 0), .lit (.int .i64 0), .lit (.int .i64 0), .lit (.int .i64 0), .lit (.int .i64 0)] := rfl
@[simp] theorem t37_y : t37.y = yTFind := rfl
@[simp] theorem t37_kind : t37.kind = .st [(0, 36), (5, 3), (6, 3), (7, 3)] := rfl
@[simp] theorem t37_cmp : t37.cmp = true := rfl
/-- impl.Find = loop.example/g03007/impl.Find -/
def t38 : TI := ⟨8, 64, .agg #[.int .i64 0, .int .i64 0, .int .i64 0, .int .i64 0, .int .i64 0, .int .i64 0, .int .i64 0, .int .i64 0], .agg [.lit (.int .i64 0), .lit (.int .i64 0), .lit (.int .i64 0), .lit (.int .i64 0), .lit (.int .i64 0), .lit (.int .i64 0), .lit (.int .i64 0), .lit (.int .i64 0)], yTFind, .st [(0, 36), (5, 3), (6, 3), (7, 3)], true⟩
@[simp] theorem t38_size : t38.size = 8 := rfl
@[simp] theorem t38_bytes : t38.bytes = 64 := rfl
@[simp] theorem t38_z : t38.z = .agg [.lit (.int .i64 0), .lit (.int .i64 0), .lit (.int .i64 0), .lit (.int .i64 0), .lit (.int .i64 0), .lit (.int .i64 0), .lit (.int .i64 0), .lit (.int .i64 0)] := rfl
@[simp] theorem t38_y : t38.y = yTFind := rfl
@[simp] theorem t38_kind : t38.kind = .st [(0, 36), (5, 3), (6, 3), (7, 3)] := rfl
@[simp] theorem t38_cmp : t38.cmp = true := rfl
/-- impl.Doubt = loop.example/g03007/impl.Doubt -/
def t40 : TI := ⟨4, 64, .agg #[.slice none 0 0, .int .i64 0, .slice none 0 0, .int .i64 0], .agg [.sl true 0 .any [], .lit (.int .i64 0), .sl true 0 .any [], .lit (.int .i64 0)], yTDoubt, .st [(0, 26), (1, 3), (2, 26), (3, 3)], false⟩
@[simp] theorem t40_size : t40.size = 4 := rfl
@[simp] theorem t40_bytes : t40.bytes = 64 := rfl
@[simp] theorem t40_z : t40.z = .agg [.sl true 0 .any [], .lit (.int .i64 0), .sl true 0 .any [], .lit (.int .i64 0)] := rfl
@[simp] theorem t40_y : t40.y = yTDoubt := rfl
@[simp] theorem t40_kind : t40.kind = .st [(0, 26), (1, 3), (2, 26), (3, 3)] := rfl
@[simp] theorem t40_cmp : t40.cmp = false := rfl
/-- laws.Span = loop.example/g03007/laws.Span -/
def t47 : TI := ⟨2, 16, .agg #[.int .i64 0, .int .i64 0], .agg [.lit (.int .i64 0), .lit (.int .i64 0)], yTSpan, .st [(0, 3), (1, 3)], true⟩
@[simp] theorem t47_size : t47.size = 2 := rfl
@[simp] theorem t47_bytes : t47.bytes = 16 := rfl
@[simp] theorem t47_z : t47.z = .agg [.lit (.int .i64 0), .lit (.int .i64 0)] := rfl
@[simp] theorem t47_y : t47.y = yTSpan := rfl
@[simp] theorem t47_kind : t47.kind = .st [(0, 3), (1, 3)] := rfl
@[simp] theorem t47_cmp : t47.cmp = true := rfl
/-- struct { Id int; Kind int; Colours []int; SizeLow int; SizeHigh int; Places []int; Span laws.Span } -/
def t48 : TI := ⟨8, 96, .agg #[.int .i64 0, .int .i64 0, .slice none 0 0, .int .i64 0, .int .i64 0, .slice none 0 0, .int .i64 0, .int .i64 0], .agg [.lit (.int .i64 0), .lit (.int .i64 0), .sl true 0 .any [], .lit (.int .i64 0), .lit (.int .i64 0), .sl true 0 .any [], .lit (.int .i64 0), .lit (.int .i64 0)], yTReport, .st [(0, 3), (1, 3), (2, 26), (3, 3), (4, 3), (5, 26), (6, 47)], false⟩
@[simp] theorem t48_size : t48.size = 8 := rfl
@[simp] theorem t48_bytes : t48.bytes = 96 := rfl
@[simp] theorem t48_z : t48.z = .agg [.lit (.int .i64 0), .lit (.int .i64 0), .sl true 0 .any [], .lit (.int .i64 0), .lit (.int .i64 0), .sl true 0 .any [], .lit (.int .i64 0), .lit (.int .i64 0)] := rfl
@[simp] theorem t48_y : t48.y = yTReport := rfl
@[simp] theorem t48_kind : t48.kind = .st [(0, 3), (1, 3), (2, 26), (3, 3), (4, 3), (5, 26), (6, 47)] := rfl
@[simp] theorem t48_cmp : t48.cmp = false := rfl
/-- laws.Report = loop.example/g03007/laws.Report -/
def t49 : TI := ⟨8, 96, .agg #[.int .i64 0, .int .i64 0, .slice none 0 0, .int .i64 0, .int .i64 0, .slice none 0 0, .int .i64 0, .int .i64 0], .agg [.lit (.int .i64 0), .lit (.int .i64 0), .sl true 0 .any [], .lit (.int .i64 0), .lit (.int .i64 0), .sl true 0 .any [], .lit (.int .i64 0), .lit (.int .i64 0)], yTReport, .st [(0, 3), (1, 3), (2, 26), (3, 3), (4, 3), (5, 26), (6, 47)], false⟩
@[simp] theorem t49_size : t49.size = 8 := rfl
@[simp] theorem t49_bytes : t49.bytes = 96 := rfl
@[simp] theorem t49_z : t49.z = .agg [.lit (.int .i64 0), .lit (.int .i64 0), .sl true 0 .any [], .lit (.int .i64 0), .lit (.int .i64 0), .sl true 0 .any [], .lit (.int .i64 0), .lit (.int .i64 0)] := rfl
@[simp] theorem t49_y : t49.y = yTReport := rfl
@[simp] theorem t49_kind : t49.kind = .st [(0, 3), (1, 3), (2, 26), (3, 3), (4, 3), (5, 26), (6, 47)] := rfl
@[simp] theorem t49_cmp : t49.cmp = false := rfl
/-- func(impl.Find) bool -/
def t55 : TI := ⟨1, 8, .nilFunc, .lit .nilFunc, .lit .nilFunc, .func, false⟩
@[simp] theorem t55_size : t55.size = 1 := rfl
@[simp] theorem t55_bytes : t55.bytes = 8 := rfl
@[simp] theorem t55_z : t55.z = .lit .nilFunc := rfl
@[simp] theorem t55_y : t55.y = .lit .nilFunc := rfl
@[simp] theorem t55_kind : t55.kind = .func := rfl
@[simp] theorem t55_cmp : t55.cmp = false := rfl
/-- impl.reportOption = loop.example/g03007/impl.reportOption -/
def t64 : TI := ⟨1, 8, .nilFunc, .lit .nilFunc, .lit .nilFunc, .func, false⟩
@[simp] theorem t64_size : t64.size = 1 := rfl
@[simp] theorem t64_bytes : t64.bytes = 8 := rfl
@[simp] theorem t64_z : t64.z = .lit .nilFunc := rfl
@[simp] theorem t64_y : t64.y = .lit .nilFunc := rfl
@[simp] theorem t64_kind : t64.kind = .func := rfl
@[simp] theorem t64_cmp : t64.cmp = false := rfl
/-- *impl.Report -/
def t78 : TI := ⟨1, 8, .pointer none, .lit (.pointer none), .lit (.pointer none), .ptr 33, false⟩
@[simp] theorem t78_size : t78.size = 1 := rfl
@[simp] theorem t78_bytes : t78.bytes = 8 := rfl
@[simp] theorem t78_z : t78.z = .lit (.pointer none) := rfl
@[simp] theorem t78_y : t78.y = .lit (.pointer none) := rfl
@[simp] theorem t78_kind : t78.kind = .ptr 33 := rfl
@[simp] theorem t78_cmp : t78.cmp = false := rfl
/-- [4]func(impl.Find) bool -/
def t83 : TI := ⟨4, 32, .agg #[.nilFunc, .nilFunc, .nilFunc, .nilFunc], .agg [.lit .nilFunc, .lit .nilFunc, .lit .nilFunc, .lit .nilFunc], .any, .arr 4 55, false⟩
@[simp] theorem t83_size : t83.size = 4 := rfl
@[simp] theorem t83_bytes : t83.bytes = 32 := rfl
@[simp] theorem t83_z : t83.z = .agg [.lit .nilFunc, .lit .nilFunc, .lit .nilFunc, .lit .nilFunc] := rfl
@[simp] theorem t83_y : t83.y = .any := rfl
@[simp] theorem t83_kind : t83.kind = .arr 4 55 := rfl
@[simp] theorem t83_cmp : t83.cmp = false := rfl
/-- []impl.reportOption -/
def t85 : TI := ⟨1, 24, .slice none 0 0, .sl true 0 .any [], .any, .slice 64, false⟩
@[simp] theorem t85_size : t85.size = 1 := rfl
@[simp] theorem t85_bytes : t85.bytes = 24 := rfl
@[simp] theorem t85_z : t85.z = .sl true 0 .any [] := rfl
@[simp] theorem t85_y : t85.y = .any := rfl
@[simp] theorem t85_kind : t85.kind = .slice 64 := rfl
@[simp] theorem t85_cmp : t85.cmp = false := rfl
/-- [][]int -/
def t91 : TI := ⟨1, 24, .slice none 0 0, .sl true 0 .any [], yLLI, .slice 26, false⟩
@[simp] theorem t91_size : t91.size = 1 := rfl
@[simp] theorem t91_bytes : t91.bytes = 24 := rfl
@[simp] theorem t91_z : t91.z = .sl true 0 .any [] := rfl
@[simp] theorem t91_y : t91.y = yLLI := rfl
@[simp] theorem t91_kind : t91.kind = .slice 26 := rfl
@[simp] theorem t91_cmp : t91.cmp = false := rfl
/-- uint -/
def t94 : TI := ⟨1, 8, .int .u64 0, .lit (.int .u64 0), .lit (.int .u64 0), .int .u64, false⟩
@[simp] theorem t94_size : t94.size = 1 := rfl
@[simp] theorem t94_bytes : t94.bytes = 8 := rfl
@[simp] theorem t94_z : t94.z = .lit (.int .u64 0) := rfl
@[simp] theorem t94_y : t94.y = .lit (.int .u64 0) := rfl
@[simp] theorem t94_kind : t94.kind = .int .u64 := rfl
@[simp] theorem t94_cmp : t94.cmp = false := rfl
/-- interface { impl.has(int) bool } -/
def t97 : TI := ⟨1, 16, .nilIface, .lit .nilIface, .lit .nilIface, .iface, false⟩
@[simp] theorem t97_size : t97.size = 1 := rfl
@[simp] theorem t97_bytes : t97.bytes = 16 := rfl
@[simp] theorem t97_z : t97.z = .lit .nilIface := rfl
@[simp] theorem t97_y : t97.y = .lit .nilIface := rfl
@[simp] theorem t97_kind : t97.kind = .iface := rfl
@[simp] theorem t97_cmp : t97.cmp = false := rfl
/-- impl.choice = loop.example/g03007/impl.choice -/
def t98 : TI := ⟨1, 16, .nilIface, .lit .nilIface, .lit .nilIface, .iface, false⟩
@[simp] theorem t98_size : t98.size = 1 := rfl
@[simp] theorem t98_bytes : t98.bytes = 16 := rfl
@[simp] theorem t98_z : t98.z = .lit .nilIface := rfl
@[simp] theorem t98_y : t98.y = .lit .nilIface := rfl
@[simp] theorem t98_kind : t98.kind = .iface := rfl
@[simp] theorem t98_cmp : t98.cmp = false := rfl
/-- slices.sortedHint -/
def t102 : TI := ⟨1, 8, .int .i64 0, .lit (.int .i64 0), .lit (.int .i64 0), .int .i64, false⟩
@[simp] theorem t102_size : t102.size = 1 := rfl
@[simp] theorem t102_bytes : t102.bytes = 8 := rfl
@[simp] theorem t102_z : t102.z = .lit (.int .i64 0) := rfl
@[simp] theorem t102_y : t102.y = .lit (.int .i64 0) := rfl
@[simp] theorem t102_kind : t102.kind = .int .i64 := rfl
@[simp] theorem t102_cmp : t102.cmp = false := rfl
/-- uint32 -/
def t109 : TI := ⟨1, 4, .int .u32 0, .lit (.int .u32 0), .lit (.int .u32 0), .int .u32, false⟩
@[simp] theorem t109_size : t109.size = 1 := rfl
@[simp] theorem t109_bytes : t109.bytes = 4 := rfl
@[simp] theorem t109_z : t109.z = .lit (.int .u32 0) := rfl
@[simp] theorem t109_y : t109.y = .lit (.int .u32 0) := rfl
@[simp] theorem t109_kind : t109.kind = .int .u32 := rfl
@[simp] theorem t109_cmp : t109.cmp = false := rfl
/-- uint64 -/
def t111 : TI := ⟨1, 8, .int .u64 0, .lit (.int .u64 0), .lit (.int .u64 0), .int .u64, false⟩
@[simp] theorem t111_size : t111.size = 1 := rfl
@[simp] theorem t111_bytes : t111.bytes = 8 := rfl
@[simp] theorem t111_z : t111.z = .lit (.int .u64 0) := rfl
@[simp] theorem t111_y : t111.y = .lit (.int .u64 0) := rfl
@[simp] theorem t111_kind : t111.kind = .int .u64 := rfl
@[simp] theorem t111_cmp : t111.cmp = false := rfl
/-- impl.only = loop.example/g03007/impl.only -/
def t112 : TI := ⟨1, 24, .slice none 0 0, .sl true 0 .any [], yLI, .slice 3, false⟩
@[simp] theorem t112_size : t112.size = 1 := rfl
@[simp] theorem t112_bytes : t112.bytes = 24 := rfl
@[simp] theorem t112_z : t112.z = .sl true 0 .any [] := rfl
@[simp] theorem t112_y : t112.y = yLI := rfl
@[simp] theorem t112_kind : t112.kind = .slice 3 := rfl
@[simp] theorem t112_cmp : t112.cmp = false := rfl
/-- struct {} -/
def t114 : TI := ⟨0, 0, .agg #[], .agg [], .any, .st [], false⟩
@[simp] theorem t114_size : t114.size = 0 := rfl
@[simp] theorem t114_bytes : t114.bytes = 0 := rfl
@[simp] theorem t114_z : t114.z = .agg [] := rfl
@[simp] theorem t114_y : t114.y = .any := rfl
@[simp] theorem t114_kind : t114.kind = .st [] := rfl
@[simp] theorem t114_cmp : t114.cmp = false := rfl
/-- impl.everything = loop.example/g03007/impl.everything -/
def t115 : TI := ⟨0, 0, .agg #[], .agg [], .any, .st [], false⟩
@[simp] theorem t115_size : t115.size = 0 := rfl
@[simp] theorem t115_bytes : t115.bytes = 0 := rfl
@[simp] theorem t115_z : t115.z = .agg [] := rfl
@[simp] theorem t115_y : t115.y = .any := rfl
@[simp] theorem t115_kind : t115.kind = .st [] := rfl
@[simp] theorem t115_cmp : t115.cmp = false := rfl
/-- slices.xorshift -/
def t117 : TI := ⟨1, 8, .int .u64 0, .lit (.int .u64 0), .lit (.int .u64 0), .int .u64, false⟩
@[simp] theorem t117_size : t117.size = 1 := rfl
@[simp] theorem t117_bytes : t117.bytes = 8 := rfl
@[simp] theorem t117_z : t117.z = .lit (.int .u64 0) := rfl
@[simp] theorem t117_y : t117.y = .lit (.int .u64 0) := rfl
@[simp] theorem t117_kind : t117.kind = .int .u64 := rfl
@[simp] theorem t117_cmp : t117.cmp = false := rfl
/-- *int -/
def t121 : TI := ⟨1, 8, .pointer none, .lit (.pointer none), .lit (.pointer none), .ptr 3, false⟩
@[simp] theorem t121_size : t121.size = 1 := rfl
@[simp] theorem t121_bytes : t121.bytes = 8 := rfl
@[simp] theorem t121_z : t121.z = .lit (.pointer none) := rfl
@[simp] theorem t121_y : t121.y = .lit (.pointer none) := rfl
@[simp] theorem t121_kind : t121.kind = .ptr 3 := rfl
@[simp] theorem t121_cmp : t121.cmp = false := rfl
/-- *slices.xorshift -/
def t123 : TI := ⟨1, 8, .pointer none, .lit (.pointer none), .lit (.pointer none), .ptr 117, false⟩
@[simp] theorem t123_size : t123.size = 1 := rfl
@[simp] theorem t123_bytes : t123.bytes = 8 := rfl
@[simp] theorem t123_z : t123.z = .lit (.pointer none) := rfl
@[simp] theorem t123_y : t123.y = .lit (.pointer none) := rfl
@[simp] theorem t123_kind : t123.kind = .ptr 117 := rfl
@[simp] theorem t123_cmp : t123.cmp = false := rfl
/-- func(unsafe.Pointer, unsafe.Pointer) bool -/
def t135 : TI := ⟨1, 8, .nilFunc, .lit .nilFunc, .lit .nilFunc, .func, false⟩
@[simp] theorem t135_size : t135.size = 1 := rfl
@[simp] theorem t135_bytes : t135.bytes = 8 := rfl
@[simp] theorem t135_z : t135.z = .lit .nilFunc := rfl
@[simp] theorem t135_y : t135.y = .lit .nilFunc := rfl
@[simp] theorem t135_kind : t135.kind = .func := rfl
@[simp] theorem t135_cmp : t135.cmp = false := rfl
/-- *uint8 -/
def t136 : TI := ⟨1, 8, .pointer none, .lit (.pointer none), .lit (.pointer none), .ptr 5, false⟩
@[simp] theorem t136_size : t136.size = 1 := rfl
@[simp] theorem t136_bytes : t136.bytes = 8 := rfl
@[simp] theorem t136_z : t136.z = .lit (.pointer none) := rfl
@[simp] theorem t136_y : t136.y = .lit (.pointer none) := rfl
@[simp] theorem t136_kind : t136.kind = .ptr 5 := rfl
@[simp] theorem t136_cmp : t136.cmp = false := rfl
/-- struct { Size_ uintptr; PtrBytes uintptr; Hash uint32; TFlag abi.TFlag; Align_ uint8; FieldAlign_ uint8; Kind_ abi.Kind; Equal func(unsafe.Pointer, unsafe.Pointer) bool; GCData *uint8; Str abi.NameOff; PtrToThis abi.TypeOff } -/
def t139 : TI := ⟨11, 48, .agg #[.int .u64 0, .int .u64 0, .int .u32 0, .int .u8 0, .int .u8 0, .int .u8 0, .int .u8 0, .nilFunc, .pointer none, .int .i32 0, .int .i32 0], .agg [.lit (.int .u64 0), .lit (.int .u64 0), .lit (.int .u32 0), .lit (.int .u8 0), .lit (.int .u8 0), .lit (.int .u8 0), .lit (.int .u8 0), .lit .nilFunc, .lit (.pointer none), .lit (.int .i32 0), .lit (.int .i32 0)], .any, .st [(0, 12), (1, 12), (2, 109), (3, 133), (4, 5), (5, 5), (6, 134), (7, 135), (8, 136), (9, 137), (10, 138)], false⟩
@[simp] theorem t139_size : t139.size = 11 := rfl
@[simp] theorem t139_bytes : t139.bytes = 48 := rfl
@[simp] theorem t139_z : t139.z = .agg [.lit (.int .u64 0), .lit (.int .u64 0), .lit (.int .u32 0), .lit (.int .u8 0), .lit (.int .u8 0), .lit (.int .u8 0), .lit (.int .u8 0), .lit .nilFunc, .lit (.pointer none), .lit (.int .i32 0), .lit (.int .i32 0)] := rfl
@[simp] theorem t139_y : t139.y = .any := rfl
@[simp] theorem t139_kind : t139.kind = .st [(0, 12), (1, 12), (2, 109), (3, 133), (4, 5), (5, 5), (6, 134), (7, 135), (8, 136), (9, 137), (10, 138)] := rfl
@[simp] theorem t139_cmp : t139.cmp = false := rfl
/-- struct { kind int; colour int; size int; place int } -/
def t146 : TI := ⟨4, 32, .agg #[.int .i64 0, .int .i64 0, .int .i64 0, .int .i64 0], .agg [.lit (.int .i64 0), .lit (.int .i64 0), .lit (.int .i64 0), .lit (.int .i64 0)], .any, .st [(0, 3), (1, 3), (2, 3), (3, 3)], true⟩
@[simp] theorem t146_size : t146.size = 4 := rfl
@[simp] theorem t146_bytes : t146.bytes = 32 := rfl
@[simp] theorem t146_z : t146.z = .agg [.lit (.int .i64 0), .lit (.int .i64 0), .lit (.int .i64 0), .lit (.int .i64 0)] := rfl
@[simp] theorem t146_y : t146.y = .any := rfl
@[simp] theorem t146_kind : t146.kind = .st [(0, 3), (1, 3), (2, 3), (3, 3)] := rfl
@[simp] theorem t146_cmp : t146.cmp = true := rfl
theorem t2_ok : t2.ok Try.prog 2 := ⟨by kernel_rfl, by kernel_rfl, by kernel_rfl, Try.underlying2, (fun h => by cases h), ⟨rfl, rfl, rfl, rfl, fun F h β => by simp [t2, Rep, Reps]⟩⟩
theorem t3_ok : t3.ok Try.prog 3 := ⟨by kernel_rfl, by kernel_rfl, by kernel_rfl, Try.underlying3, (fun h => by cases h), ⟨rfl, rfl, rfl, rfl, fun F h β => by simp [t3, Rep, Reps]⟩⟩
theorem t4_ok : t4.ok Try.prog 4 := ⟨by kernel_rfl, by kernel_rfl, by kernel_rfl, Try.underlying4, (fun h => by cases h), ⟨rfl, rfl, rfl, rfl, fun F h β => by simp [t4, Rep, Reps]⟩⟩
theorem t5_ok : t5.ok Try.prog 5 := ⟨by kernel_rfl, by kernel_rfl, by kernel_rfl, Try.underlying5, (fun h => by cases h), ⟨rfl, rfl, rfl, rfl, fun F h β => by simp [t5, Rep, Reps]⟩⟩
theorem t9_ok : t9.ok Try.prog 9 := ⟨by kernel_rfl, by kernel_rfl, by kernel_rfl, Try.underlying9, (fun h => by cases h), ⟨rfl, rfl, rfl, rfl, fun F h β => by simp [t9, Rep, Reps]⟩⟩
theorem t12_ok : t12.ok Try.prog 12 := ⟨by kernel_rfl, by kernel_rfl, by kernel_rfl, Try.underlying12, (fun h => by cases h), ⟨rfl, rfl, rfl, rfl, fun F h β => by simp [t12, Rep, Reps]⟩⟩
theorem t20_ok : t20.ok Try.prog 20 := ⟨by kernel_rfl, by kernel_rfl, by kernel_rfl, ⟨_, Try.underlying20⟩, (fun h => by cases h), ⟨rfl, rfl, rfl, rfl, fun F h β => by simp [t20, Rep, Reps]⟩⟩
theorem t21_ok : t21.ok Try.prog 21 := ⟨by kernel_rfl, by kernel_rfl, by kernel_rfl, Try.underlying21, (fun h => by cases h), ⟨rfl, rfl, rfl, rfl, fun F h β => by simp [t21, Rep, Reps]⟩⟩
theorem t22_ok : t22.ok Try.prog 22 := ⟨by kernel_rfl, by kernel_rfl, by kernel_rfl, ⟨_, Try.underlying22, rfl⟩, (fun _ => eqInts_of (by kernel_rfl) (by kernel_rfl) (by kernel_rfl)), ⟨rfl, rfl, rfl, rfl, fun F h β => by simp [t22, Rep, Reps]⟩⟩
theorem t23_ok : t23.ok Try.prog 23 := ⟨by kernel_rfl, by kernel_rfl, by kernel_rfl, ⟨_, Try.underlying23, rfl⟩, (fun _ => eqInts_of (by kernel_rfl) (by kernel_rfl) (by kernel_rfl)), ⟨rfl, rfl, rfl, rfl, fun F h β => by simp [t23, Rep, Reps]⟩⟩
theorem t24_ok : t24.ok Try.prog 24 := ⟨by kernel_rfl, by kernel_rfl, by kernel_rfl, ⟨_, Try.underlying24, rfl⟩, (fun _ => eqInts_of (by kernel_rfl) (by kernel_rfl) (by kernel_rfl)), ⟨rfl, rfl, rfl, rfl, fun F h β => by simp [t24, Rep, Reps]⟩⟩
theorem t25_ok : t25.ok Try.prog 25 := ⟨by kernel_rfl, by kernel_rfl, by kernel_rfl, ⟨_, Try.underlying25, rfl⟩, (fun _ => eqInts_of (by kernel_rfl) (by kernel_rfl) (by kernel_rfl)), ⟨rfl, rfl, rfl, rfl, fun F h β => by simp [t25, Rep, Reps]⟩⟩
theorem t26_ok : t26.ok Try.prog 26 := ⟨by kernel_rfl, by kernel_rfl, by kernel_rfl, Try.underlying26, (fun h => by cases h), ⟨rfl, rfl, rfl, rfl, fun F h β => by simp [t26, Rep, Reps]⟩⟩
theorem t27_ok : t27.ok Try.prog 27 := ⟨by kernel_rfl, by kernel_rfl, by kernel_rfl, ⟨_, Try.underlying27, rfl⟩, (fun h => by cases h), ⟨rfl, rfl, rfl, rfl, fun F h β => by
    show Rep F h β t27.z t27.zero
    simp only [t27, Rep, Reps]
    exact ⟨_, rfl, _, _, rfl, (.inl ⟨by trivial, none, 0, by trivial, by intros; rfl⟩), _, _, rfl, (by trivial), _, _, rfl, (.inl ⟨by trivial, none, 0, by trivial, by intros; rfl⟩), _, _, rfl, (by trivial), rfl⟩⟩⟩
theorem t28_ok : t28.ok Try.prog 28 := ⟨by kernel_rfl, by kernel_rfl, by kernel_rfl, ⟨_, Try.underlying28, rfl⟩, (fun h => by cases h), ⟨rfl, rfl, rfl, rfl, fun F h β => by
    show Rep F h β t28.z t28.zero
    simp only [t28, Rep, Reps]
    exact ⟨_, rfl, _, _, rfl, (.inl ⟨by trivial, none, 0, by trivial, by intros; rfl⟩), _, _, rfl, (by trivial), _, _, rfl, (.inl ⟨by trivial, none, 0, by trivial, by intros; rfl⟩), _, _, rfl, (by trivial), rfl⟩⟩⟩
theorem t30_ok : t30.ok Try.prog 30 := ⟨by kernel_rfl, by kernel_rfl, by kernel_rfl, ⟨_, Try.underlying30, rfl⟩, (fun _ => eqInts_of (by kernel_rfl) (by kernel_rfl) (by kernel_rfl)), ⟨rfl, rfl, rfl, rfl, fun F h β => by simp [t30, Rep, Reps]⟩⟩
theorem t31_ok : t31.ok Try.prog 31 := ⟨by kernel_rfl, by kernel_rfl, by kernel_rfl, ⟨_, Try.underlying31, rfl⟩, (fun _ => eqInts_of (by kernel_rfl) (by kernel_rfl) (by kernel_rfl)), ⟨rfl, rfl, rfl, rfl, fun F h β => by simp [t31, Rep, Reps]⟩⟩
theorem t32_ok : t32.ok Try.prog 32 := ⟨by kernel_rfl, by kernel_rfl, by kernel_rfl, ⟨_, Try.underlying32, rfl⟩, (fun h => by cases h), ⟨rfl, rfl, rfl, rfl, fun F h β => by
    show Rep F h β t32.z t32.zero
    simp only [t32, Rep, Reps]
    exact ⟨_, rfl, _, _, rfl, (by trivial), _, _, rfl, (by trivial), _, _, rfl, (.inl ⟨by trivial, none, 0, by trivial, by intros; rfl⟩), _, _, rfl, (by trivial), _, _, rfl, (by trivial), _, _, rfl, (.inl ⟨by trivial, none, 0, by trivial, by intros; rfl⟩), _, _, rfl, (by trivial), _, _, rfl, (by trivial), rfl⟩⟩⟩
theorem t33_ok : t33.ok Try.prog 33 := ⟨by kernel_rfl, by kernel_rfl, by kernel_rfl, ⟨_, Try.underlying33, rfl⟩, (fun h => by cases h), ⟨rfl, rfl, rfl, rfl, fun F h β => by
    show Rep F h β t33.z t33.zero
    simp only [t33, Rep, Reps]
    exact ⟨_, rfl, _, _, rfl, (by trivial), _, _, rfl, (by trivial), _, _, rfl, (.inl ⟨by trivial, none, 0, by trivial, by intros; rfl⟩), _, _, rfl, (by trivial), _, _, rfl, (by trivial), _, _, rfl, (.inl ⟨by trivial, none, 0, by trivial, by intros; rfl⟩), _, _, rfl, (by trivial), _, _, rfl, (by trivial), rfl⟩⟩⟩
theorem t36_ok : t36.ok Try.prog 36 := ⟨by kernel_rfl, by kernel_rfl, by kernel_rfl, ⟨_, Try.underlying36, rfl⟩, (fun _ => eqInts_of (by kernel_rfl) (by kernel_rfl) (by kernel_rfl)), ⟨rfl, rfl, rfl, rfl, fun F h β => by simp [t36, Rep, Reps]⟩⟩
theorem t37_ok : t37.ok Try.prog 37 := ⟨by kernel_rfl, by kernel_rfl, by kernel_rfl, ⟨_, Try.underlying37, rfl⟩, (fun _ => eqInts_of (by kernel_rfl) (by kernel_rfl) (by kernel_rfl)), ⟨rfl, rfl, rfl, rfl, fun F h β => by simp [t37, Rep, Reps]⟩⟩
theorem t38_ok : t38.ok Try.prog 38 := ⟨by kernel_rfl, by kernel_rfl, by kernel_rfl, ⟨_, Try.underlying38, rfl⟩, (fun _ => eqInts_of (by kernel_rfl) (by kernel_rfl) (by kernel_rfl)), ⟨rfl, rfl, rfl, rfl, fun F h β => by simp [t38, Rep, Reps]⟩⟩
theorem t40_ok : t40.ok Try.prog 40 := ⟨by kernel_rfl, by kernel_rfl, by kernel_rfl, ⟨_, Try.underlying40, rfl⟩, (fun h => by cases h), ⟨rfl, rfl, rfl, rfl, fun F h β => by
    show Rep F h β t40.z t40.zero
    simp only [t40, Rep, Reps]
    exact ⟨_, rfl, _, _, rfl, (.inl ⟨by trivial, none, 0, by trivial, by intros; rfl⟩), _, _, rfl, (by trivial), _, _, rfl, (.inl ⟨by trivial, none, 0, by trivial, by intros; rfl⟩), _, _, rfl, (by trivial), rfl⟩⟩⟩
theorem t47_ok : t47.ok Try.prog 47 := ⟨by kernel_rfl, by kernel_rfl, by kernel_rfl, ⟨_, Try.underlying47, rfl⟩, (fun _ => eqInts_of (by kernel_rfl) (by kernel_rfl) (by kernel_rfl)), ⟨rfl, rfl, rfl, rfl, fun F h β => by simp [t47, Rep, Reps]⟩⟩
theorem t48_ok : t48.ok Try.prog 48 := ⟨by kernel_rfl, by kernel_rfl, by kernel_rfl, ⟨_, Try.underlying48, rfl⟩, (fun h => by cases h), ⟨rfl, rfl, rfl, rfl, fun F h β => by
    show Rep F h β t48.z t48.zero
    simp only [t48, Rep, Reps]
    exact ⟨_, rfl, _, _, rfl, (by trivial), _, _, rfl, (by trivial), _, _, rfl, (.inl ⟨by trivial, none, 0, by trivial, by intros; rfl⟩), _, _, rfl, (by trivial), _, _, rfl, (by trivial), _, _, rfl, (.inl ⟨by trivial, none, 0, by trivial, by intros; rfl⟩), _, _, rfl, (by trivial), _, _, rfl, (by trivial), rfl⟩⟩⟩
theorem t49_ok : t49.ok Try.prog 49 := ⟨by kernel_rfl, by kernel_rfl, by kernel_rfl, ⟨_, Try.underlying49, rfl⟩, (fun h => by cases h), ⟨rfl, rfl, rfl, rfl, fun F h β => by
    show Rep F h β t49.z t49.zero
    simp only [t49, Rep, Reps]
    exact ⟨_, rfl, _, _, rfl, (by trivial), _, _, rfl, (by trivial), _, _, rfl, (.inl ⟨by trivial, none, 0, by trivial, by intros; rfl⟩), _, _, rfl, (by trivial), _, _, rfl, (by trivial), _, _, rfl, (.inl ⟨by trivial, none, 0, by trivial, by intros; rfl⟩), _, _, rfl, (by trivial), _, _, rfl, (by trivial), rfl⟩⟩⟩
theorem t55_ok : t55.ok Try.prog 55 := ⟨by kernel_rfl, by kernel_rfl, by kernel_rfl, ⟨_, _, _, Try.underlying55⟩, (fun h => by cases h), ⟨rfl, rfl, rfl, rfl, fun F h β => by simp [t55, Rep, Reps]⟩⟩
theorem t64_ok : t64.ok Try.prog 64 := ⟨by kernel_rfl, by kernel_rfl, by kernel_rfl, ⟨_, _, _, Try.underlying64⟩, (fun h => by cases h), ⟨rfl, rfl, rfl, rfl, fun F h β => by simp [t64, Rep, Reps]⟩⟩
theorem t78_ok : t78.ok Try.prog 78 := ⟨by kernel_rfl, by kernel_rfl, by kernel_rfl, Try.underlying78, (fun h => by cases h), ⟨rfl, rfl, rfl, rfl, fun F h β => by simp [t78, Rep, Reps]⟩⟩
theorem t83_ok : t83.ok Try.prog 83 := ⟨by kernel_rfl, by kernel_rfl, by kernel_rfl, Try.underlying83, (fun h => by cases h), ⟨rfl, rfl, rfl, rfl, fun F h β => by simp [t83, Rep, Reps]⟩⟩
theorem t85_ok : t85.ok Try.prog 85 := ⟨by kernel_rfl, by kernel_rfl, by kernel_rfl, Try.underlying85, (fun h => by cases h), ⟨rfl, rfl, rfl, rfl, fun F h β => by simp [t85, Rep, Reps]⟩⟩
theorem t91_ok : t91.ok Try.prog 91 := ⟨by kernel_rfl, by kernel_rfl, by kernel_rfl, Try.underlying91, (fun h => by cases h), ⟨rfl, rfl, rfl, rfl, fun F h β => by simp [t91, Rep, Reps]⟩⟩
theorem t94_ok : t94.ok Try.prog 94 := ⟨by kernel_rfl, by kernel_rfl, by kernel_rfl, Try.underlying94, (fun h => by cases h), ⟨rfl, rfl, rfl, rfl, fun F h β => by simp [t94, Rep, Reps]⟩⟩
theorem t97_ok : t97.ok Try.prog 97 := ⟨by kernel_rfl, by kernel_rfl, by kernel_rfl, ⟨_, Try.underlying97⟩, (fun h => by cases h), ⟨rfl, rfl, rfl, rfl, fun F h β => by simp [t97, Rep, Reps]⟩⟩
theorem t98_ok : t98.ok Try.prog 98 := ⟨by kernel_rfl, by kernel_rfl, by kernel_rfl, ⟨_, Try.underlying98⟩, (fun h => by cases h), ⟨rfl, rfl, rfl, rfl, fun F h β => by simp [t98, Rep, Reps]⟩⟩
theorem t102_ok : t102.ok Try.prog 102 := ⟨by kernel_rfl, by kernel_rfl, by kernel_rfl, Try.underlying102, (fun h => by cases h), ⟨rfl, rfl, rfl, rfl, fun F h β => by simp [t102, Rep, Reps]⟩⟩
theorem t109_ok : t109.ok Try.prog 109 := ⟨by kernel_rfl, by kernel_rfl, by kernel_rfl, Try.underlying109, (fun h => by cases h), ⟨rfl, rfl, rfl, rfl, fun F h β => by simp [t109, Rep, Reps]⟩⟩
theorem t111_ok : t111.ok Try.prog 111 := ⟨by kernel_rfl, by kernel_rfl, by kernel_rfl, Try.underlying111, (fun h => by cases h), ⟨rfl, rfl, rfl, rfl, fun F h β => by simp [t111, Rep, Reps]⟩⟩
theorem t112_ok : t112.ok Try.prog 112 := ⟨by kernel_rfl, by kernel_rfl, by kernel_rfl, Try.underlying112, (fun h => by cases h), ⟨rfl, rfl, rfl, rfl, fun F h β => by simp [t112, Rep, Reps]⟩⟩
theorem t114_ok : t114.ok Try.prog 114 := ⟨by kernel_rfl, by kernel_rfl, by kernel_rfl, ⟨_, Try.underlying114, rfl⟩, (fun h => by cases h), ⟨rfl, rfl, rfl, rfl, fun F h β => by simp [t114, Rep, Reps]⟩⟩
theorem t115_ok : t115.ok Try.prog 115 := ⟨by kernel_rfl, by kernel_rfl, by kernel_rfl, ⟨_, Try.underlying115, rfl⟩, (fun h => by cases h), ⟨rfl, rfl, rfl, rfl, fun F h β => by simp [t115, Rep, Reps]⟩⟩
theorem t117_ok : t117.ok Try.prog 117 := ⟨by kernel_rfl, by kernel_rfl, by kernel_rfl, Try.underlying117, (fun h => by cases h), ⟨rfl, rfl, rfl, rfl, fun F h β => by simp [t117, Rep, Reps]⟩⟩
theorem t121_ok : t121.ok Try.prog 121 := ⟨by kernel_rfl, by kernel_rfl, by kernel_rfl, Try.underlying121, (fun h => by cases h), ⟨rfl, rfl, rfl, rfl, fun F h β => by simp [t121, Rep, Reps]⟩⟩
theorem t123_ok : t123.ok Try.prog 123 := ⟨by kernel_rfl, by kernel_rfl, by kernel_rfl, Try.underlying123, (fun h => by cases h), ⟨rfl, rfl, rfl, rfl, fun F h β => by simp [t123, Rep, Reps]⟩⟩
theorem t135_ok : t135.ok Try.prog 135 := ⟨by kernel_rfl, by kernel_rfl, by kernel_rfl, ⟨_, _, _, Try.underlying135⟩, (fun h => by cases h), ⟨rfl, rfl, rfl, rfl, fun F h β => by simp [t135, Rep, Reps]⟩⟩
theorem t136_ok : t136.ok Try.prog 136 := ⟨by kernel_rfl, by kernel_rfl, by kernel_rfl, Try.underlying136, (fun h => by cases h), ⟨rfl, rfl, rfl, rfl, fun F h β => by simp [t136, Rep, Reps]⟩⟩
theorem t139_ok : t139.ok Try.prog 139 := ⟨by kernel_rfl, by kernel_rfl, by kernel_rfl, ⟨_, Try.underlying139, rfl⟩, (fun h => by cases h), ⟨rfl, rfl, rfl, rfl, fun F h β => by simp [t139, Rep, Reps]⟩⟩
theorem t146_ok : t146.ok Try.prog 146 := ⟨by kernel_rfl, by kernel_rfl, by kernel_rfl, ⟨_, Try.underlying146, rfl⟩, (fun _ => eqInts_of (by kernel_rfl) (by kernel_rfl) (by kernel_rfl)), ⟨rfl, rfl, rfl, rfl, fun F h β => by simp [t146, Rep, Reps]⟩⟩
def G : Ctx := [(2, t2), (3, t3), (4, t4), (5, t5), (9, t9), (12, t12), (20, t20), (21, t21), (22, t22), (23, t23), (24, t24), (25, t25), (26, t26), (27, t27), (28, t28), (30, t30), (31, t31), (32, t32), (33, t33), (36, t36), (37, t37), (38, t38), (40, t40), (47, t47), (48, t48), (49, t49), (55, t55), (64, t64), (78, t78), (83, t83), (85, t85), (91, t91), (94, t94), (97, t97), (98, t98), (102, t102), (109, t109), (111, t111), (112, t112), (114, t114), (115, t115), (117, t117), (121, t121), (123, t123), (135, t135), (136, t136), (139, t139), (146, t146)]
@[simp] theorem G_2 : G.get 2 = some t2 := rfl
@[simp] theorem G_3 : G.get 3 = some t3 := rfl
@[simp] theorem G_4 : G.get 4 = some t4 := rfl
@[simp] theorem G_5 : G.get 5 = some t5 := rfl
@[simp] theorem G_9 : G.get 9 = some t9 := rfl
@[simp] theorem G_12 : G.get 12 = some t12 := rfl
@[simp] theorem G_20 : G.get 20 = some t20 := rfl
@[simp] theorem G_21 : G.get 21 = some t21 := rfl
@[simp] theorem G_22 : G.get 22 = some t22 := rfl
@[simp] theorem G_23 : G.get 23 = some t23 := rfl
@[simp] theorem G_24 : G.get 24 = some t24 := rfl
@[simp] theorem G_25 : G.get 25 = some t25 := rfl
@[simp] theorem G_26 : G.get 26 = some t26 := rfl
@[simp] theorem G_27 : G.get 27 = some t27 := rfl
@[simp] theorem G_28 : G.get 28 = some t28 := rfl
@[simp] theorem G_30 : G.get 30 = some t30 := rfl
@[simp] theorem G_31 : G.get 31 = some t31 := rfl
@[simp] theorem G_32 : G.get 32 = some t32 := rfl
@[simp] theorem G_33 : G.get 33 = some t33 := rfl
@[simp] theorem G_36 : G.get 36 = some t36 := rfl
@[simp] theorem G_37 : G.get 37 = some t37 := rfl
@[simp] theorem G_38 : G.get 38 = some t38 := rfl
@[simp] theorem G_40 : G.get 40 = some t40 := rfl
@[simp] theorem G_47 : G.get 47 = some t47 := rfl
@[simp] theorem G_48 : G.get 48 = some t48 := rfl
@[simp] theorem G_49 : G.get 49 = some t49 := rfl
@[simp] theorem G_55 : G.get 55 = some t55 := rfl
@[simp] theorem G_64 : G.get 64 = some t64 := rfl
@[simp] theorem G_78 : G.get 78 = some t78 := rfl
@[simp] theorem G_83 : G.get 83 = some t83 := rfl
@[simp] theorem G_85 : G.get 85 = some t85 := rfl
@[simp] theorem G_91 : G.get 91 = some t91 := rfl
@[simp] theorem G_94 : G.get 94 = some t94 := rfl
@[simp] theorem G_97 : G.get 97 = some t97 := rfl
@[simp] theorem G_98 : G.get 98 = some t98 := rfl
@[simp] theorem G_102 : G.get 102 = some t102 := rfl
@[simp] theorem G_109 : G.get 109 = some t109 := rfl
@[simp] theorem G_111 : G.get 111 = some t111 := rfl
@[simp] theorem G_112 : G.get 112 = some t112 := rfl
@[simp] theorem G_114 : G.get 114 = some t114 := rfl
@[simp] theorem G_115 : G.get 115 = some t115 := rfl
@[simp] theorem G_117 : G.get 117 = some t117 := rfl
@[simp] theorem G_121 : G.get 121 = some t121 := rfl
@[simp] theorem G_123 : G.get 123 = some t123 := rfl
@[simp] theorem G_135 : G.get 135 = some t135 := rfl
@[simp] theorem G_136 : G.get 136 = some t136 := rfl
@[simp] theorem G_139 : G.get 139 = some t139 := rfl
@[simp] theorem G_146 : G.get 146 = some t146 := rfl
theorem G_ok : G.ok Try.prog := by
  intro p hp
  simp only [G, List.mem_cons, List.not_mem_nil, or_false] at hp
  rcases hp with rfl | rfl | rfl | rfl | rfl | rfl | rfl | rfl | rfl | rfl | rfl | rfl | rfl | rfl | rfl | rfl | rfl | rfl | rfl | rfl | rfl | rfl | rfl | rfl | rfl | rfl | rfl | rfl | rfl | rfl | rfl | rfl | rfl | rfl | rfl | rfl | rfl | rfl | rfl | rfl | rfl | rfl | rfl | rfl | rfl | rfl | rfl | rfl
  · exact t2_ok
  · exact t3_ok
  · exact t4_ok
  · exact t5_ok
  · exact t9_ok
  · exact t12_ok
  · exact t20_ok
  · exact t21_ok
  · exact t22_ok
  · exact t23_ok
  · exact t24_ok
  · exact t25_ok
  · exact t26_ok
  · exact t27_ok
  · exact t28_ok
  · exact t30_ok
  · exact t31_ok
  · exact t32_ok
  · exact t33_ok
  · exact t36_ok
  · exact t37_ok
  · exact t38_ok
  · exact t40_ok
  · exact t47_ok
  · exact t48_ok
  · exact t49_ok
  · exact t55_ok
  · exact t64_ok
  · exact t78_ok
  · exact t83_ok
  · exact t85_ok
  · exact t91_ok
  · exact t94_ok
  · exact t97_ok
  · exact t98_ok
  · exact t102_ok
  · exact t109_ok
  · exact t111_ok
  · exact t112_ok
  · exact t114_ok
  · exact t115_ok
  · exact t117_ok
  · exact t121_ok
  · exact t123_ok
  · exact t135_ok
  · exact t136_ok
  · exact t139_ok
  · exact t146_ok
theorem mix : Try.prog.follows .mixedOrders = true := by kernel_rfl
end Go.Proofs.Ytallgbanohpbbaa
